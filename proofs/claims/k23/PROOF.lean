import PyProof.Rows.All
import Wide.All
import OpenK.AllK
import Wide.FinOn
import HandS.ForMost
import HandS.ForExc
import HandS.Wide
import HandS.IsInst
import HandS.Lambda
import HandS.Conv
import PyProof.ReprRoads
import PyProof.ReprLen
import HandS.TupAny
import HandS.Text
import HandS.Style
import HandS.ExcIs
import HandS.Zip
import KE.KNestM
import HandS.EndTab
import PyProof.GenQ
import HandS.AnyAll
import HandS.GenOver
import HandS.Head0
import HandS.Head1
import HandS.Head2
import HandS.HeadEnd
import HandS.HeadHook1
import HandS.HeadHook2
import HandS.HeadHook3
import HandS.HeadHook4
import HandS.SetFor
import HandS.Deep
import HandS.TupMul
import HandS.Dict
import KE.DataMinMax
import PyProof.Rows.CallKwBuiltin
import PyProof.Rows.RuleB_pow
import PyProof.Rows.RuleN_abs
import PyProof.Boot
import PyProof.FactsBase
import PyProof.Walk
import PyProof.WalkLemmas
import PyProof.StrBlock2
import HandS.TryMany
import PySem.Challenge.RW_wrecktold_k23_whole_any_that_are_enough
import PyProof.Rows.ReprOcc
section
set_option Elab.async false
set_option linter.all false
set_option maxRecDepth 100000
set_option maxHeartbeats 4000000
/-! Mirrors: an expression of the text read as a plain function over data, one box (a list of two ints) that changes. -/
namespace Ms
open PySem PySem.Spec PyProof.Rows L2

/-- what may not be told as data: the cells that live, and objects under way -/
structure Mu where
  cs : List (Addr × Bool)
  ex : List Addr
def Mu.ok (β : Mu) (a : Addr) : Prop := (a, true) ∉ β.cs ∧ a ∉ β.ex
/-- data: what a name of the text may hold -/
inductive D where
  | non | bl (b : Bool) | int (i : Int) | str (x : Str) | lst (l : List D) | tup (l : List D) | ref (k : Nat) | fn (x : Str) | scr (l : List Int)
/-- what changes: lists that grow -/
inductive Cell where
  | lst (l : List D) | dead | lam (n : Nat)
abbrev Sto := List Cell

def SL (β : Mu) (H : Hp) (a : Addr) (xs : List V) : Prop := L2.Rd H a (.lst xs) ∧ β.ok a
def ST (β : Mu) (H : Hp) (a : Addr) (xs : List V) : Prop := L2.Rd H a (.tup xs) ∧ β.ok a
def SS (K : PySem.W.Frag) (β : Mu) (H : Hp) (a : Addr) (xs : List V) : Prop := (L2.Rd H a (.lst xs) ∧ β.ok a) ∨ SqL K (fun _ => none) a xs
theorem SL.sq {K : PySem.W.Frag} {β : Mu} {H : Hp} {a : Addr} {xs : List V} (h : SL β H a xs) : SqL K H a xs := .inl h.1
theorem ST.sq {K : PySem.W.Frag} {β : Mu} {H : Hp} {a : Addr} {xs : List V} (h : ST β H a xs) : SqT K H a xs := .inl h.1
theorem rd_none {a : Addr} {u : HO} : ¬ L2.Rd (fun _ => none) a u := fun h => by
  rcases h with h | ⟨o, h⟩ <;> cases h
theorem SS.sq {K : PySem.W.Frag} {β : Mu} {H : Hp} {a : Addr} {xs : List V} (h : SS K β H a xs) : SqL K H a xs := by
  rcases h with h | h
  · exact .inl h.1
  · rcases h with h | h
    · exact (rd_none h).elim
    · exact .inr h
mutual
/-- a value is such data -/
inductive R (K : PySem.W.Frag) (β : Mu) (H : Hp) : V → D → Prop
  | non : R K β H .non .non
  | bl (b : Bool) : R K β H (.bl b) (.bl b)
  | int (i : Int) : R K β H (.int i) (.int i)
  | str (x : Str) : R K β H (.str x) (.str x)
  | lst {a : Addr} {xs : List V} {ds : List D} : SL β H a xs → RA K β H xs ds → R K β H (.ref a) (.lst ds)
  | tup {a : Addr} {xs : List V} {ds : List D} : ST β H a xs → RA K β H xs ds → R K β H (.ref a) (.tup ds)
  | ref {a : Addr} {k : Nat} {b : Bool} : β.cs[k]? = some (a, b) → R K β H (.ref a) (.ref k)
  | fn {a : Addr} {x : Str} : PySem.W.nsIn K mainGlobals x = some (some (.ref a)) → PySem.W.keepIn K (.ref a) = true → R K β H (.ref a) (.fn x)
  | scr {a : Addr} {ns : List Int} : SS K β H a (ns.map V.int) → R K β H (.ref a) (.scr ns)
inductive RA (K : PySem.W.Frag) (β : Mu) (H : Hp) : List V → List D → Prop
  | nil : RA K β H [] []
  | cons {v : V} {vs : List V} {d : D} {ds : List D} : R K β H v d → RA K β H vs ds → RA K β H (v :: vs) (d :: ds)
end

/-- what is told of a heap goes on: all but the cells and the tables of code; cells are never forgotten, and new ones are new -/
structure Le (β : Mu) (H : Hp) (β' : Mu) (H' : Hp) : Prop where
  cs : ∀ (k : Nat) (a : Addr) (b : Bool), β.cs[k]? = some (a, b) → ∃ b', β'.cs[k]? = some (a, b') ∧ (b' = true → b = true)
  nw : ∀ (k : Nat) (a : Addr) (b : Bool), β'.cs[k]? = some (a, b) → β.cs[k]? = none → ∀ o, H a = some o → ∃ ps, o = .tbl ps
  e1 : ∀ e, e ∈ β.ex → e ∈ β'.ex
  e2 : ∀ e, e ∈ β'.ex → e ∉ β.ex → ∀ o, H e = some o → ∃ ps, o = .tbl ps
  kp : ∀ b o, H b = some o → (b, true) ∉ β.cs → (∀ ps, o ≠ .tbl ps) → H' b = some o
  dm : ∀ b o, H b = some o → (∀ ps, o ≠ .tbl ps) → ∃ o', H' b = some o' ∧ ∀ ps, o' ≠ .tbl ps
theorem Le.refl {β : Mu} {H : Hp} : Le β H β H := ⟨fun k a b h => ⟨b, h, id⟩, fun k a b h n => (by rw [n] at h; cases h), fun _ h => h, fun e h n => (n h).elim, fun _ _ h _ _ => h, fun b o h t => ⟨o, h, t⟩⟩
theorem Le.live {β β' : Mu} {H H' : Hp} (l : Le β H β' H') {a : Addr} {o : HO} (h : H a = some o) (t : ∀ ps, o ≠ .tbl ps) (n : (a, true) ∉ β.cs) : (a, true) ∉ β'.cs := fun z => by
  obtain ⟨k, hk⟩ := List.getElem?_of_mem z
  cases e : β.cs[k]? with
  | none =>
    obtain ⟨ps, z⟩ := l.nw k a true hk e o h
    exact t ps z
  | some p =>
    obtain ⟨a', b⟩ := p
    obtain ⟨b', h1, h2⟩ := l.cs k a' b e
    rw [hk] at h1
    cases h1
    have := h2 rfl
    subst this
    exact n (List.mem_of_getElem? e)
theorem Le.trans {β β1 β2 : Mu} {H H1 H2 : Hp} (a : Le β H β1 H1) (b : Le β1 H1 β2 H2) : Le β H β2 H2 := by
  refine ⟨fun k c t h => ?_, fun k c t h n o ho => ?_, fun e h => b.e1 e (a.e1 e h), fun e h n o ho => ?_, fun c o h n t => ?_, fun c o h t => ?_⟩
  · obtain ⟨t1, h1, i1⟩ := a.cs k c t h
    obtain ⟨t2, h2, i2⟩ := b.cs k c t1 h1
    exact ⟨t2, h2, fun z => i1 (i2 z)⟩
  · cases e : β1.cs[k]? with
    | none =>
      have q := b.nw k c t h e
      by_cases ht : ∃ ps, o = .tbl ps
      · exact ht
      · obtain ⟨o', z, t'⟩ := a.dm c o ho (fun ps z => ht ⟨ps, z⟩)
        obtain ⟨ps, z2⟩ := q o' z
        exact (t' ps z2).elim
    | some p =>
      obtain ⟨c', t'⟩ := p
      obtain ⟨t2, h2, _⟩ := b.cs k c' t' e
      rw [h] at h2
      cases h2
      exact a.nw k c t' e n o ho
  · by_cases hm : e ∈ β1.ex
    · exact a.e2 e hm n o ho
    · have q := b.e2 e h hm
      by_cases ht : ∃ ps, o = .tbl ps
      · exact ht
      · obtain ⟨o', z, t'⟩ := a.dm e o ho (fun ps z => ht ⟨ps, z⟩)
        obtain ⟨ps, z2⟩ := q o' z
        exact (t' ps z2).elim
  · exact b.kp c o (a.kp c o h n t) (a.live h t n) t
  · obtain ⟨o', h', t'⟩ := a.dm c o h t
    exact b.dm c o' h' t'
theorem Le.of {β : Mu} {H H' : Hp} (e : ∀ b o, H b = some o → H' b = some o) : Le β H β H' := ⟨fun k a b h => ⟨b, h, id⟩, fun k a b h n => (by rw [n] at h; cases h), fun _ h => h, fun e h n => (n h).elim, fun b o h _ _ => e b o h, fun b o h t => ⟨o, e b o h, t⟩⟩
theorem Le.ext {β : Mu} {H H' : Hp} (e : ∀ b o, H b = some o → (∀ ps, o ≠ .tbl ps) → H' b = some o) : Le β H β H' := ⟨fun k a b h => ⟨b, h, id⟩, fun k a b h n => (by rw [n] at h; cases h), fun _ h => h, fun e h n => (n h).elim, fun b o h _ t => e b o h t, fun b o h t => ⟨o, e b o h t, t⟩⟩
theorem keep_new {H : Hp} {p : Addr} {o : HO} (h : H p = none) : ∀ b u, H b = some u → (upd H p o) b = some u := fun b u e => by
  rw [upd_ne (ne_of_none e h)]
  exact e
theorem Le.new {β : Mu} {H : Hp} {p : Addr} {o : HO} (h : H p = none) : Le β H β (upd H p o) := .of (keep_new h)
theorem rd_some {H : Hp} {a : Addr} {u : HO} (t : ∀ ps, u ≠ .tbl ps) (h : L2.Rd H a u) : ∃ o, H a = some o ∧ ∀ ps, o ≠ .tbl ps := by
  rcases h with h | ⟨o, h⟩
  · exact ⟨_, h, t⟩
  · exact ⟨_, h, fun ps z => by cases z⟩
theorem Le.rd {β β' : Mu} {H H' : Hp} (l : Le β H β' H') {a : Addr} {u : HO} (n : β.ok a) (h : L2.Rd H a u) (t : ∀ ps, u ≠ .tbl ps) : L2.Rd H' a u := by
  rcases h with h | ⟨o, h⟩
  · exact .inl (l.kp _ _ h n.1 t)
  · exact .inr ⟨o, l.kp _ _ h n.1 (fun ps z => by cases z)⟩
theorem Le.ok {β β' : Mu} {H H' : Hp} (l : Le β H β' H') {a : Addr} {u : HO} (n : β.ok a) (h : L2.Rd H a u) (t : ∀ ps, u ≠ .tbl ps) : β'.ok a := by
  obtain ⟨o, h, t⟩ := rd_some t h
  exact ⟨l.live h t n.1, fun z => by
    obtain ⟨ps, z2⟩ := l.e2 a z n.2 o h
    exact t ps z2⟩
theorem SL.le {β β' : Mu} {H H' : Hp} {a : Addr} {xs : List V} (h : SL β H a xs) (l : Le β H β' H') : SL β' H' a xs := ⟨l.rd h.2 h.1 (fun ps z => by cases z), l.ok h.2 h.1 (fun ps z => by cases z)⟩
theorem ST.le {β β' : Mu} {H H' : Hp} {a : Addr} {xs : List V} (h : ST β H a xs) (l : Le β H β' H') : ST β' H' a xs := ⟨l.rd h.2 h.1 (fun ps z => by cases z), l.ok h.2 h.1 (fun ps z => by cases z)⟩
theorem SS.le {K : PySem.W.Frag} {β β' : Mu} {H H' : Hp} {a : Addr} {xs : List V} (h : SS K β H a xs) (l : Le β H β' H') : SS K β' H' a xs := by
  rcases h with ⟨h, n⟩ | h
  · exact .inl ⟨l.rd n h (fun ps z => by cases z), l.ok n h (fun ps z => by cases z)⟩
  · exact .inr h
mutual
theorem R.le {K : PySem.W.Frag} {β β' : Mu} {H H' : Hp} (l : Le β H β' H') : ∀ {v : V} {d : D}, R K β H v d → R K β' H' v d
  | _, _, .non => .non
  | _, _, .bl b => .bl b
  | _, _, .int i => .int i
  | _, _, .str x => .str x
  | _, _, .lst h r => .lst (h.le l) (RA.le l r)
  | _, _, .tup h r => .tup (h.le l) (RA.le l r)
  | _, _, .ref h => by
    obtain ⟨b', h', _⟩ := l.cs _ _ _ h
    exact .ref h'
  | _, _, .fn h k => .fn h k
  | _, _, .scr h => .scr (h.le l)
theorem RA.le {K : PySem.W.Frag} {β β' : Mu} {H H' : Hp} (l : Le β H β' H') : ∀ {vs : List V} {ds : List D}, RA K β H vs ds → RA K β' H' vs ds
  | _, _, .nil => .nil
  | _, _, .cons h r => .cons (R.le l h) (RA.le l r)
end
theorem RA.length {K : PySem.W.Frag} {β : Mu} {H : Hp} : ∀ {vs : List V} {ds : List D}, RA K β H vs ds → vs.length = ds.length
  | _, _, .nil => rfl
  | _, _, .cons _ r => by rw [List.length_cons, List.length_cons, RA.length r]
theorem RA.get {K : PySem.W.Frag} {β : Mu} {H : Hp} : ∀ {vs : List V} {ds : List D} {i : Nat} {d : D}, RA K β H vs ds → ds[i]? = some d → ∃ v, vs[i]? = some v ∧ R K β H v d
  | _, _, _, _, .nil, e => by simp at e
  | _, _, 0, d, .cons (v := v) h _, e => by
    have e2 := Option.some.inj e
    subst e2
    exact ⟨v, rfl, h⟩
  | _, _, i + 1, d, .cons _ r, e => by
    obtain ⟨v, h1, h2⟩ := RA.get (i := i) r (by simpa using e)
    exact ⟨v, by simpa using h1, h2⟩
theorem RA.append {K : PySem.W.Frag} {β : Mu} {H : Hp} : ∀ {vs ws : List V} {ds es : List D}, RA K β H vs ds → RA K β H ws es → RA K β H (vs ++ ws) (ds ++ es)
  | _, _, _, _, .nil, h => h
  | _, _, _, _, .cons a r, h => .cons a (RA.append r h)
theorem RA.drop {K : PySem.W.Frag} {β : Mu} {H : Hp} : ∀ {vs : List V} {ds : List D} (n : Nat), RA K β H vs ds → RA K β H (vs.drop n) (ds.drop n)
  | _, _, 0, h => by simpa using h
  | _, _, n + 1, .nil => by simpa using RA.nil
  | _, _, n + 1, .cons _ r => by simpa using RA.drop n r
theorem RA.take {K : PySem.W.Frag} {β : Mu} {H : Hp} : ∀ {vs : List V} {ds : List D} (n : Nat), RA K β H vs ds → RA K β H (vs.take n) (ds.take n)
  | _, _, 0, _ => by simpa using RA.nil
  | _, _, n + 1, .nil => by simpa using RA.nil
  | _, _, n + 1, .cons a r => by simpa using RA.cons a (RA.take n r)
theorem RA.ints {K : PySem.W.Frag} {β : Mu} {H : Hp} : ∀ ns : List Int, RA K β H (ns.map V.int) (ns.map D.int)
  | [] => .nil
  | n :: r => .cons (.int n) (RA.ints r)
theorem R.int_inv {K : PySem.W.Frag} {β : Mu} {H : Hp} {v : V} {i : Int} (h : R K β H v (.int i)) : v = .int i := by cases h; rfl
theorem R.bl_inv {K : PySem.W.Frag} {β : Mu} {H : Hp} {v : V} {b : Bool} (h : R K β H v (.bl b)) : v = .bl b := by cases h; rfl
theorem RA.ints_inv {K : PySem.W.Frag} {β : Mu} {H : Hp} : ∀ {ns : List Int} {vs : List V}, RA K β H vs (ns.map D.int) → vs = ns.map V.int
  | [], _, h => by cases h; rfl
  | n :: r, _, h => by
    cases h with
    | cons a b => rw [a.int_inv, RA.ints_inv b]; rfl

/-- the tables of code, and what a lambda of the frame is -/
structure Tb where
  tb : List (Addr × Str)
  lm : Nat → Addr → Hp → Prop
  st : ∀ n a H H', lm n a H → (∀ b p, H b = some (.ext p) → H' b = some (.ext p)) → lm n a H'
/-- what a cell holds -/
def CellOk (K : PySem.W.Frag) (T : Tb) (β : Mu) (H : Hp) (a : Addr) (b : Bool) : Cell → Prop
  | .lst ds => b = true ∧ ∃ xs, H a = some (.lst xs) ∧ RA K β H xs ds
  | .dead => b = false
  | .lam n => b = false ∧ T.lm n a H
/-- the cells and the tables of code stand -/
structure Good (K : PySem.W.Frag) (T : Tb) (β : Mu) (st : Sto) (H : Hp) : Prop where
  ln : β.cs.length = st.length
  cs : ∀ (k : Nat) (a : Addr) (b : Bool), β.cs[k]? = some (a, b) → ∃ c, st[k]? = some c ∧ CellOk K T β H a b c
  inj : ∀ (i j : Nat) (a : Addr) (b : Bool), β.cs[i]? = some (a, true) → β.cs[j]? = some (a, b) → i = j
  sm : ∀ (k : Nat) (a : Addr) (b : Bool), β.cs[k]? = some (a, b) → ∃ o, H a = some o ∧ ∀ ps, o ≠ .tbl ps
  ex : ∀ e, e ∈ β.ex → (∃ l, H e = some (.lst l)) ∧ ∀ b, (e, b) ∉ β.cs
  tb : LamX.Tabs T.tb H
/-- what the heap tells of things other than lists stays -/
theorem Good.xk {K : PySem.W.Frag} {T : Tb} {β β' : Mu} {st : Sto} {H H' : Hp} (g : Good K T β st H) (l : Le β H β' H') : ∀ b p, H b = some (.ext p) → H' b = some (.ext p) := fun b p e => l.kp b _ e (fun z => by
  obtain ⟨i, hi⟩ := List.getElem?_of_mem z
  obtain ⟨c, h1, h2⟩ := g.cs i b true hi
  cases c with
  | dead => cases h2
  | lam n => cases h2.1
  | lst ds =>
    obtain ⟨_, xs, h3, _⟩ := h2
    rw [e] at h3
    cases h3) fun ps z => by cases z
theorem CellOk.le {K : PySem.W.Frag} {T : Tb} {β β' : Mu} {H H' : Hp} {a : Addr} {b : Bool} {c : Cell} (h : CellOk K T β H a b c) (l : Le β H β' H') (xk : ∀ b p, H b = some (.ext p) → H' b = some (.ext p)) (s : ∀ xs, H a = some (.lst xs) → H' a = some (.lst xs)) : CellOk K T β' H' a b c := by
  cases c with
  | dead => exact h
  | lam n => exact ⟨h.1, T.st n a _ _ h.2 xk⟩
  | lst ds =>
    obtain ⟨h1, xs, h2, h3⟩ := h
    exact ⟨h1, xs, s xs h2, h3.le l⟩
theorem Good.ext {K : PySem.W.Frag} {T : Tb} {β : Mu} {st : Sto} {H H' : Hp} (g : Good K T β st H) (e : ∀ b o, H b = some o → H' b = some o) : Good K T β st H' :=
  ⟨g.ln, fun k a b h => by
    obtain ⟨c, h1, h2⟩ := g.cs k a b h
    exact ⟨c, h1, h2.le (.of e) (g.xk (.of e)) fun xs z => e _ _ z⟩, g.inj, fun k a b h => by
    obtain ⟨o, z, t⟩ := g.sm k a b h
    exact ⟨o, e _ _ z, t⟩, fun a ha => by
    obtain ⟨⟨l, h⟩, n⟩ := g.ex a ha
    exact ⟨⟨l, e _ _ h⟩, n⟩, g.tb.ext e⟩
theorem Good.new {K : PySem.W.Frag} {T : Tb} {β : Mu} {st : Sto} {H : Hp} {p : Addr} {o : HO} (g : Good K T β st H) (h : H p = none) : Good K T β st (upd H p o) := g.ext (keep_new h)
theorem Good.ne {K : PySem.W.Frag} {T : Tb} {β : Mu} {st : Sto} {H : Hp} {p : Addr} (g : Good K T β st H) (h : H p = none) : β.ok p := by
  refine ⟨fun z => ?_, fun z => ?_⟩
  · obtain ⟨k, hk⟩ := List.getElem?_of_mem z
    obtain ⟨o, this, _⟩ := g.sm k p true hk
    rw [h] at this
    cases this
  · obtain ⟨⟨l, this⟩, _⟩ := g.ex p z
    rw [h] at this
    cases this
/-- a list of data, also one that grows, as it is now -/
def vl (st : Sto) : D → Option (List D)
  | .lst l => some l
  | .ref k => match st[k]? with
    | some (.lst l) => some l
    | _ => none
  | _ => none
theorem R.vl {K : PySem.W.Frag} {T : Tb} {β : Mu} {st : Sto} {H : Hp} {v : V} {d : D} {ds : List D} (r : R K β H v d) (g : Good K T β st H) (h : vl st d = some ds) : ∃ a xs, v = .ref a ∧ L2.Rd H a (.lst xs) ∧ RA K β H xs ds := by
  cases r with
  | lst s ra =>
    cases h
    exact ⟨_, _, rfl, s.1, ra⟩
  | ref hk =>
    rename_i a k b
    obtain ⟨c, h1, h2⟩ := g.cs _ _ _ hk
    simp only [Ms.vl, h1] at h
    cases c with
    | dead => cases h
    | lam n => cases h
    | lst l =>
      cases h
      obtain ⟨_, xs, h3, h4⟩ := h2
      exact ⟨a, xs, rfl, .inl h3, h4⟩
  | non => cases h
  | bl _ => cases h
  | int _ => cases h
  | str _ => cases h
  | tup _ _ => cases h
  | fn _ _ => cases h
  | scr _ => cases h

/-- what a piece of the text comes to: a result and the cells behind it, an error that keeps data, or: nothing is told -/
inductive Res (α : Type) where
  | ok (a : α) (st : Sto) | err (c : Str) (d : D) (st : Sto) | bad
abbrev Fn (α : Type) := List (Option D) → Sto → Res α
def pur {α : Type} (a : α) : Fn α := fun _ bx => .ok a bx
def bnd {α γ : Type} (F : Fn α) (G : α → Fn γ) : Fn γ := fun δ bx => match F δ bx with
  | .ok a bx' => G a δ bx'
  | .err c d bx' => .err c d bx'
  | .bad => .bad
def lft {α : Type} (o : Option α) : Fn α := fun _ bx => match o with
  | some a => .ok a bx
  | none => .bad
/-- where one stands: the tables, the errors' classes -/
structure Pm where
  T : Tb
  CR : Str → Addr
def OutE (K : PySem.W.Frag) (P : Pm) (β : Mu) (H : Hp) (c : Str) (d : D) (bx : Sto) (E : XK) : Prop :=
  ∀ β' a v H', Le β H β' H' → Good K P.T β' bx H' → H' a = some (.xd [(("at" : Str), v)]) → R K β' H' v d → E (.ref (P.CR c)) (some a) H'
/-- the end of an expression -/
def Out (K : PySem.W.Frag) (P : Pm) (β : Mu) (H : Hp) (r : Res D) (Q : VK) (E : XK) : Prop := match r with
  | .ok d bx => ∀ β' v H', Le β H β' H' → Good K P.T β' bx H' → R K β' H' v d → Q v H'
  | .err c d bx => OutE K P β H c d bx E
  | .bad => False
theorem OutE.le {K : PySem.W.Frag} {P : Pm} {β β1 : Mu} {H H1 : Hp} {c : Str} {d : D} {bx : Sto} {E : XK} (l : Le β H β1 H1) (h : OutE K P β H c d bx E) : OutE K P β1 H1 c d bx E :=
  fun β' a v H' l' g x r => h β' a v H' (l.trans l') g x r
theorem Out.le {K : PySem.W.Frag} {P : Pm} {β β1 : Mu} {H H1 : Hp} {r : Res D} {Q : VK} {E : XK} (l : Le β H β1 H1) (h : Out K P β H r Q E) : Out K P β1 H1 r Q E := by
  cases r with
  | ok d bx => exact fun β' v H' l' g r => h β' v H' (l.trans l') g r
  | err c d bx => exact OutE.le l h
  | bad => exact h
/-- the slots hold the data -/
structure Ev (K : PySem.W.Frag) (β : Mu) (H : Hp) (σ : L2.St) (δ : List (Option D)) : Prop where
  len : σ.length = δ.length
  at_ : ∀ (i : Nat) (d : D), δ[i]? = some (some d) → ∃ v, σ[i]? = some (some v) ∧ R K β H v d
theorem Ev.le {K : PySem.W.Frag} {β β' : Mu} {H H' : Hp} {σ : L2.St} {δ : List (Option D)} (e : Ev K β H σ δ) (l : Le β H β' H') : Ev K β' H' σ δ :=
  ⟨e.len, fun i d h => by
    obtain ⟨v, h1, h2⟩ := e.at_ i d h
    exact ⟨v, h1, h2.le l⟩⟩
theorem Ev.set {K : PySem.W.Frag} {β : Mu} {H : Hp} {σ : L2.St} {δ : List (Option D)} (e : Ev K β H σ δ) (i : Nat) {v : V} {d : D} (r : R K β H v d) : Ev K β H (σ.set i (some v)) (δ.set i (some d)) := by
  refine ⟨by simp [e.len], fun j d' h => ?_⟩
  by_cases hj : i = j
  · subst hj
    by_cases hl : i < δ.length
    · rw [List.getElem?_set_self hl] at h
      cases h
      exact ⟨v, List.getElem?_set_self (by rw [e.len]; exact hl), r⟩
    · rw [List.getElem?_eq_none (by simp; omega)] at h
      cases h
  · rw [List.getElem?_set_ne hj] at h
    obtain ⟨v', h1, h2⟩ := e.at_ j d' h
    exact ⟨v', by rw [List.getElem?_set_ne hj]; exact h1, h2⟩

section
variable {K : PySem.W.Frag} {P : Pm} {E : XK}
def tD (K : PySem.W.Frag) (P : Pm) (E : XK) (F : Fn D) : TE := fun σ H Q => ∃ β δ bx, Ev K β H σ δ ∧ Good K P.T β bx H ∧ Out K P β H (F δ bx) Q E
/-- lists of data -/
def OutA (K : PySem.W.Frag) (P : Pm) (β : Mu) (H : Hp) (r : Res (List D)) (Q : List V → Hp → Prop) (E : XK) : Prop := match r with
  | .ok ds bx => ∀ β' vs H', Le β H β' H' → Good K P.T β' bx H' → RA K β' H' vs ds → Q vs H'
  | .err c d bx => OutE K P β H c d bx E
  | .bad => False
def tDA (K : PySem.W.Frag) (P : Pm) (E : XK) (F : Fn (List D)) : TA := fun σ H Q => ∃ β δ bx, Ev K β H σ δ ∧ Good K P.T β bx H ∧ OutA K P β H (F δ bx) Q E
/-- tests -/
def OutT (K : PySem.W.Frag) (P : Pm) (β : Mu) (H : Hp) (r : Res Bool) (Q : Bool → Hp → Prop) (E : XK) : Prop := match r with
  | .ok b bx => ∀ β' H', Le β H β' H' → Good K P.T β' bx H' → Q b H'
  | .err c d bx => OutE K P β H c d bx E
  | .bad => False
def tDT (K : PySem.W.Frag) (P : Pm) (E : XK) (F : Fn Bool) : TT := fun σ H Q => ∃ β δ bx, Ev K β H σ δ ∧ Good K P.T β bx H ∧ OutT K P β H (F δ bx) Q E

theorem at_bind {F : Fn D} {G : D → Fn D} {β : Mu} {δ : List (Option D)} {bx : Sto} {σ : L2.St} {H : Hp} {Q Q1 : VK} (ev : Ev K β H σ δ) (g : Good K P.T β bx H) (o : Out K P β H (bnd F G δ bx) Q E)
    (k : ∀ β1 bx' x d H1, Le β H β1 H1 → Good K P.T β1 bx' H1 → R K β1 H1 x d → Out K P β1 H1 (G d δ bx') Q E → Q1 x H1) : tD K P E F σ H Q1 := by
  refine ⟨β, δ, bx, ev, g, ?_⟩
  unfold bnd at o
  cases hF : F δ bx with
  | ok d bx' =>
    rw [hF] at o
    exact fun β' v H' l g' r => k β' bx' v d H' l g' r (Out.le l o)
  | err c d bx' =>
    rw [hF] at o
    exact o
  | bad =>
    rw [hF] at o
    exact o
/-- the same, whatever the end is -/
theorem at_bindX {α : Type} {F : Fn D} {G : D → Fn α} {β : Mu} {δ : List (Option D)} {bx : Sto} {σ : L2.St} {H : Hp} {Q1 : VK} (ev : Ev K β H σ δ) (g : Good K P.T β bx H)
    (he : ∀ c d bx', bnd F G δ bx = .err c d bx' → OutE K P β H c d bx' E) (hb : bnd F G δ bx = .bad → False)
    (k : ∀ β1 bx' x d H1, Le β H β1 H1 → Good K P.T β1 bx' H1 → R K β1 H1 x d → bnd F G δ bx = G d δ bx' → Q1 x H1) : tD K P E F σ H Q1 := by
  refine ⟨β, δ, bx, ev, g, ?_⟩
  unfold bnd at he hb k
  cases hF : F δ bx with
  | ok d bx' =>
    rw [hF] at k
    exact fun β' v H' l g' r => k β' bx' v d H' l g' r rfl
  | err c d bx' =>
    rw [hF] at he
    exact he c d bx' rfl
  | bad =>
    rw [hF] at hb
    exact hb rfl
end
theorem pe_imp {X : Cx} {e : Expr} {t t' : TE} (h : PE X e t) (k : ∀ σ H Q, t' σ H Q → t σ H Q) : PE X e t' := ⟨fun pins s σ H Q I q => h.run pins s σ H Q I (k σ H Q q)⟩
theorem pa_imp {X : Cx} {e : List Expr} {t t' : TA} (h : PA X e t) (k : ∀ σ H Q, t' σ H Q → t σ H Q) : PA X e t' := ⟨fun pos pins s σ H Q I q => h.run pos pins s σ H Q I (k σ H Q q)⟩
theorem pt_imp {X : Cx} {e : Expr} {t t' : TT} (h : PT X e t) (k : ∀ σ H Q, t' σ H Q → t σ H Q) : PT X e t' := ⟨fun pins s σ H Q I q => h.run pins s σ H Q I (k σ H Q q)⟩
theorem pw_imp {X : Cx} {e : Expr} {t t' : TT} (h : PW X e t) (k : ∀ σ H Q, t' σ H Q → t σ H Q) : PW X e t' := ⟨fun w pins s σ H Q I q => h.run w pins s σ H Q I (k σ H Q q)⟩
theorem ps_imp {X : Cx} {e : Stmt} {t t' : TS} (h : PS X e t) (k : ∀ D σ H, t' D σ H → t D σ H) : PS X e t' := ⟨fun pins s σ H D I q => h.run pins s σ H D I (k D σ H q)⟩
theorem pss_imp {X : Cx} {e : List Stmt} {t t' : TS} (h : PSs X e t) (k : ∀ D σ H, t' D σ H → t D σ H) : PSs X e t' := ⟨fun pins s σ H D I q => h.run pins s σ H D I (k D σ H q)⟩

abbrev ED (X : Cx) (P : Pm) (E : XK) (e : Expr) (F : Fn D) : Prop := PE X e (tD X.K P E F)
abbrev EA (X : Cx) (P : Pm) (E : XK) (es : List Expr) (F : Fn (List D)) : Prop := PA X es (tDA X.K P E F)
abbrev ET (X : Cx) (P : Pm) (E : XK) (e : Expr) (F : Fn Bool) : Prop := PT X e (tDT X.K P E F)
end Ms

end
section
set_option Elab.async false
set_option linter.all false
set_option maxRecDepth 100000
set_option maxHeartbeats 4000000
namespace Ms
open PySem PySem.Spec PyProof.Rows L2
section
variable {X : Cx} {P : Pm} {E : XK} {pos : Pos}

/-! ### names, constants -/
def fVar (i : Nat) : Fn D := fun δ bx => match δ[i]? with
  | some (some d) => .ok d bx
  | _ => .bad
theorem ed_var (i : Nat) {x : Str} (hN : X.N[i]? = some x := by rfl) (hv : Vis X.env.scope x := by first | exact Or.inl rfl | exact Or.inr (Or.inl rfl) | exact Or.inr (Or.inr rfl)) (hd : (x == ("__debug__" : Str)) = false := by decide)
    (hcd : (x == ("__classdict__" : Str)) = false := by decide) : ED X P E (.Name x pos) (fVar i) := by
  refine pe_imp (pe_var hN hv hd hcd) fun σ H Q ⟨β, δ, bx, ev, g, o⟩ => ?_
  unfold fVar at o
  split at o
  · rename_i d hd
    obtain ⟨v, h1, h2⟩ := ev.at_ i d hd
    exact ⟨v, h1, o _ v H .refl g h2⟩
  · exact o.elim
theorem ed_c {e : Expr} {v : V} {d : D} (h : PE X e (tC v)) (r : ∀ β H, R X.K β H v d) : ED X P E e (pur d) :=
  pe_imp h fun _ H _ ⟨β, _, _, _, g, o⟩ => o _ v H .refl g (r β H)
theorem ed_int {i : Int} {j} : ED X P E (.Constant (.int i) j pos) (pur (.int i)) := ed_c pe_int fun _ _ => .int i
theorem ed_bl {b : Bool} {j} : ED X P E (.Constant (.bool b) j pos) (pur (.bl b)) := ed_c pe_bl fun _ _ => .bl b
theorem ed_non {j} : ED X P E (.Constant .none j pos) (pur .non) := ed_c pe_non fun _ _ => .non
theorem ed_str {x : Str} {j} : ED X P E (.Constant (.str x) j pos) (pur (.str x)) := ed_c pe_str fun _ _ => .str x
theorem ed_glob {x : Str} {i : Int} {t : Tok} (hg : Gl X x) (hm : X.mg x = some (.int i t)) (hd : (x == ("__debug__" : Str)) = false := by decide) : ED X P E (.Name x pos) (pur (.int i)) :=
  ed_c (v := .int i) (pe_glob hg hm ⟨t, rfl⟩ hd) fun _ _ => .int i

/-! ### two operands -/
def f2 (f : Sto → D → D → Option D) (F G : Fn D) : Fn D := bnd F fun d => bnd G fun e => fun δ bx => lft (f bx d e) δ bx
def OpD (X : Cx) (P : Pm) (r : R2) (f : Sto → D → D → Option D) : Prop := ∀ (β : Mu) (bx : Sto) (H : Hp) (x y : V) (d e z : D) (Q : VK), Good X.K P.T β bx H → R X.K β H x d → R X.K β H y e → f bx d e = some z →
  (∀ v H', Le β H β H' → Good X.K P.T β bx H' → R X.K β H' v z → Q v H') → r x y H Q
theorem ed_tOp {r : R2} {f : Sto → D → D → Option D} {F G : Fn D} (hr : OpD X P r f) : ∀ σ H Q, tD X.K P E (f2 f F G) σ H Q → tOp r (tD X.K P E F) (tD X.K P E G) σ H Q := by
  rintro σ H Q ⟨β, δ, bx, ev, g, o⟩
  refine at_bind ev g o fun β1 bx1 x d H1 l1 g1 r1 o1 => at_bind (ev.le l1) g1 o1 fun β2 bx2 y e H2 l2 g2 r2 o2 => ?_
  cases hf : f bx2 d e with
  | none =>
    rw [hf] at o2
    exact (show False from o2).elim
  | some z =>
    rw [hf] at o2
    exact hr β2 bx2 H2 x y d e z Q g2 (r1.le l2) r2 hf fun v H' l g r => o2 β2 v H' l g r
theorem ed_bin {op : Operator} {r : R2} {f : Sto → D → D → Option D} {a b : Expr} {F G : Fn D} (ho : OpR X (binaryOp op) r) (hr : OpD X P r f) (ha : ED X P E a F) (hb : ED X P E b G) : ED X P E (.BinOp a op b pos) (f2 f F G) :=
  pe_imp (pe_op ho ha hb) (ed_tOp hr)
theorem ed_cmp {op : CmpOp} {r : R2} {f : Sto → D → D → Option D} {a b : Expr} {F G : Fn D} (ho : OpR X (compareOp op) r) (hr : OpD X P r f) (ha : ED X P E a F) (hb : ED X P E b G) (hm : behindInMarks op b = false) : ED X P E (.Compare a [op] [b] pos) (f2 f F G) :=
  pe_imp (pe_cmpR ho ha hb hm) (ed_tOp hr)

def iI (C : Int → Int → Bool) (g : Int → Int → Int) : Sto → D → D → Option D
  | _, .int i, .int j => if C i j = true then some (.int (g i j)) else none
  | _, _, _ => none
def iB (p : Int → Int → Bool) : Sto → D → D → Option D
  | _, .int i, .int j => some (.bl (p i j))
  | _, _, _ => none
theorem iI_inv {C : Int → Int → Bool} {g : Int → Int → Int} {bx : Sto} {d e z : D} (h : iI C g bx d e = some z) : ∃ i j, d = .int i ∧ e = .int j ∧ C i j = true ∧ z = .int (g i j) := by
  cases d <;> cases e <;> simp [iI] at h
  rename_i i j
  exact ⟨i, j, rfl, rfl, h.1, h.2.symm⟩
theorem opd_I {C' : Int → Int → Prop} {C : Int → Int → Bool} {g : Int → Int → Int} (hC : ∀ i j, C i j = true → C' i j) : OpD X P (rI C' fun i j => .int (g i j)) (iI C g) := by
  intro β bx H x y d e z Q gd rx ry h k
  obtain ⟨i, j, rfl, rfl, hc, rfl⟩ := iI_inv h
  exact ⟨i, j, rx.int_inv, ry.int_inv, hC i j hc, k _ H .refl gd (.int _)⟩
theorem opd_I0 {g : Int → Int → Int} : OpD X P (rI0 fun i j => .int (g i j)) (iI (fun _ _ => true) g) := by
  intro β bx H x y d e z Q gd rx ry h k
  obtain ⟨i, j, rfl, rfl, hc, rfl⟩ := iI_inv h
  exact ⟨i, j, rx.int_inv, ry.int_inv, k _ H .refl gd (.int _)⟩
theorem iB_inv {p : Int → Int → Bool} {bx : Sto} {d e z : D} (h : iB p bx d e = some z) : ∃ i j, d = .int i ∧ e = .int j ∧ z = .bl (p i j) := by
  cases d <;> cases e <;> simp [iB] at h
  rename_i i j
  exact ⟨i, j, rfl, rfl, h.symm⟩
theorem opd_B {p : Int → Int → Bool} : OpD X P (rI0 fun i j => .bl (p i j)) (iB p) := by
  intro β bx H x y d e z Q gd rx ry h k
  obtain ⟨i, j, rfl, rfl, rfl⟩ := iB_inv h
  exact ⟨i, j, rx.int_inv, ry.int_inv, k _ H .refl gd (.bl _)⟩
abbrev cAdd := iI (fun _ _ => true) fun i j => i + j
abbrev cSub := iI (fun _ _ => true) fun i j => i - j
abbrev cMul := iI (fun i j => decide (-(2 ^ 64) < i ∧ i < 2 ^ 64) || decide (-(2 ^ 64) < j ∧ j < 2 ^ 64)) fun i j => i * j
abbrev cDiv := iI (fun _ j => decide (0 < j ∧ j < 1073741824)) fun i j => i / j
abbrev cMod := iI (fun _ j => decide (0 < j)) fun i j => i % j
abbrev cPow := iI (fun i j => decide (0 ≤ j ∧ j ≤ 1000000 ∧ i.natAbs < 2 ^ 64)) fun i j => i ^ j.toNat
variable {a b : Expr} {F G : Fn D}
theorem ed_add (ha : ED X P E a F) (hb : ED X P E b G) : ED X P E (.BinOp a .Add b pos) (f2 cAdd F G) := ed_bin op_add opd_I0 ha hb
theorem ed_sub (ha : ED X P E a F) (hb : ED X P E b G) : ED X P E (.BinOp a .Sub b pos) (f2 cSub F G) := ed_bin op_sub opd_I0 ha hb
theorem ed_mul (ha : ED X P E a F) (hb : ED X P E b G) : ED X P E (.BinOp a .Mult b pos) (f2 cMul F G) := ed_bin op_mul (opd_I fun i j h => by
  rcases Bool.or_eq_true_iff.mp h with h | h
  · exact .inl (of_decide_eq_true h)
  · exact .inr (of_decide_eq_true h)) ha hb
theorem ed_div (ha : ED X P E a F) (hb : ED X P E b G) : ED X P E (.BinOp a .FloorDiv b pos) (f2 cDiv F G) := ed_bin op_fdiv (opd_I fun i j h => (of_decide_eq_true h : (0 : Int) < j ∧ j < 1073741824)) ha hb
theorem ed_mod (ha : ED X P E a F) (hb : ED X P E b G) : ED X P E (.BinOp a .Mod b pos) (f2 cMod F G) := ed_bin op_mod (opd_I fun i j h => of_decide_eq_true h) ha hb
theorem ed_pow (ha : ED X P E a F) (hb : ED X P E b G) : ED X P E (.BinOp a .Pow b pos) (f2 cPow F G) := ed_bin op_pow (opd_I fun i j h => (of_decide_eq_true h : (0 : Int) ≤ j ∧ j ≤ 1000000 ∧ i.natAbs < 2 ^ 64)) ha hb
theorem ed_lt (ha : ED X P E a F) (hb : ED X P E b G) : ED X P E (.Compare a [.Lt] [b] pos) (f2 (iB fun i j => decide (i < j)) F G) := ed_cmp op_lt opd_B ha hb (nomark _)
theorem ed_le (ha : ED X P E a F) (hb : ED X P E b G) : ED X P E (.Compare a [.LtE] [b] pos) (f2 (iB fun i j => decide (i ≤ j)) F G) := ed_cmp op_le opd_B ha hb (nomark _)
theorem ed_gt (ha : ED X P E a F) (hb : ED X P E b G) : ED X P E (.Compare a [.Gt] [b] pos) (f2 (iB fun i j => decide (j < i)) F G) := ed_cmp op_gt opd_B ha hb (nomark _)
theorem ed_ge (ha : ED X P E a F) (hb : ED X P E b G) : ED X P E (.Compare a [.GtE] [b] pos) (f2 (iB fun i j => decide (j ≤ i)) F G) := ed_cmp op_ge opd_B ha hb (nomark _)

/-! ### one operand -/
def f1 (f : Sto → D → Option D) (F : Fn D) : Fn D := bnd F fun d => fun δ bx => lft (f bx d) δ bx
def UnD (X : Cx) (P : Pm) (r : V → Hp → VK → Prop) (f : Sto → D → Option D) : Prop := ∀ (β : Mu) (bx : Sto) (H : Hp) (x : V) (d z : D) (Q : VK), Good X.K P.T β bx H → R X.K β H x d → f bx d = some z →
  (∀ v H', Le β H β H' → Good X.K P.T β bx H' → R X.K β H' v z → Q v H') → r x H Q
theorem ed_t1 {r : V → Hp → VK → Prop} {f : Sto → D → Option D} {F : Fn D} (hr : UnD X P r f) : ∀ σ H Q, tD X.K P E (f1 f F) σ H Q → (tD X.K P E F) σ H fun x H1 => r x H1 Q := by
  rintro σ H Q ⟨β, δ, bx, ev, g, o⟩
  refine at_bind ev g o fun β1 bx1 x d H1 l1 g1 r1 o1 => ?_
  cases hf : f bx1 d with
  | none =>
    rw [hf] at o1
    exact (show False from o1).elim
  | some z =>
    rw [hf] at o1
    exact hr β1 bx1 H1 x d z Q g1 r1 hf fun v H' l g r => o1 β1 v H' l g r
def cNeg : Sto → D → Option D
  | _, .int i => some (.int (-i))
  | _, _ => none
theorem ed_neg (ha : ED X P E a F) : ED X P E (.UnaryOp .USub a pos) (f1 cNeg F) := pe_imp (pe_un un_neg ha) (ed_t1 fun β bx H x d z Q g r h k => by
  cases d <;> simp [cNeg] at h
  subst h
  exact ⟨_, r.int_inv, k _ H .refl g (.int _)⟩)
def cNot : Sto → D → Option D
  | _, .bl b => some (.bl (!b))
  | _, _ => none
theorem ed_not (ha : ED X P E a F) : ED X P E (.UnaryOp .Not a pos) (f1 cNot F) := pe_imp (pe_not ha) (ed_t1 (r := fun x H Q => ∃ c, x = .bl c ∧ Q (.bl (!c)) H) fun β bx H x d z Q g r h k => by
  cases d <;> simp [cNot] at h
  subst h
  exact ⟨_, r.bl_inv, k _ H .refl g (.bl _)⟩)
def isNon : D → Bool
  | .non => true
  | _ => false
theorem isNon_of {K : PySem.W.Frag} {β : Mu} {H : Hp} {v : V} {d : D} (r : R K β H v d) : decide (v = .non) = isNon d := by
  cases r <;> simp [isNon]
def cIsN : Sto → D → Option D := fun _ d => some (.bl (isNon d))
def cNotN : Sto → D → Option D := fun _ d => some (.bl (!isNon d))
theorem ed_isN {j pos'} (ha : ED X P E a F) : ED X P E (.Compare a [.Is] [.Constant .none j pos'] pos) (f1 cIsN F) := pe_imp (pe_cmp (pc_isN ha)) (ed_t1 (r := fun x H Q => Q (.bl (decide (x = .non))) H) fun β bx H x d z Q g r h k => by
  cases h
  rw [isNon_of r]
  exact k _ H .refl g (.bl _))
theorem ed_notN {j pos'} (ha : ED X P E a F) : ED X P E (.Compare a [.IsNot] [.Constant .none j pos'] pos) (f1 cNotN F) := pe_imp (pe_cmp (pc_notN ha)) (ed_t1 (r := fun x H Q => Q (.bl (!decide (x = .non))) H) fun β bx H x d z Q g r h k => by
  cases h
  rw [isNon_of r]
  exact k _ H .refl g (.bl _))

/-! ### and, or, if -/
def toB : D → Option Bool
  | .bl b => some b
  | _ => none
/-- a result's truth, the rest by it -/
def fIfB {α : Type} (F : Fn D) (A B : Fn α) : Fn α := bnd F fun d => fun δ bx => match toB d with
  | some true => A δ bx
  | some false => B δ bx
  | none => .bad
theorem toB_inv {d : D} {b : Bool} (h : toB d = some b) : d = .bl b := by
  cases d <;> simp [toB] at h
  rw [h]
variable {rest : List Expr}
theorem ed_one {op} (h : ED X P E a F) : ED X P E (.BoolOp op [a] pos) F := pe_one h
theorem ed_and (ha : ED X P E a F) (hb : ED X P E (.BoolOp .And (b :: rest) pos) G) : ED X P E (.BoolOp .And (a :: b :: rest) pos) (fIfB F G (pur (.bl false))) := by
  refine pe_imp (pe_and ha hb) ?_
  rintro σ H Q ⟨β, δ, bx, ev, g, o⟩
  refine at_bind ev g o fun β1 bx1 x d H1 l1 g1 r1 o1 => ?_
  split at o1
  · rename_i h
    cases toB_inv h
    exact ⟨true, r1.bl_inv, iteT ⟨β1, δ, bx1, ev.le l1, g1, o1⟩⟩
  · rename_i h
    cases toB_inv h
    exact ⟨false, r1.bl_inv, iteF (o1 _ _ H1 .refl g1 (.bl _))⟩
  · exact o1.elim
theorem ed_or (ha : ED X P E a F) (hb : ED X P E (.BoolOp .Or (b :: rest) pos) G) : ED X P E (.BoolOp .Or (a :: b :: rest) pos) (fIfB F (pur (.bl true)) G) := by
  refine pe_imp (pe_or ha hb) ?_
  rintro σ H Q ⟨β, δ, bx, ev, g, o⟩
  refine at_bind ev g o fun β1 bx1 x d H1 l1 g1 r1 o1 => ?_
  split at o1
  · rename_i h
    cases toB_inv h
    exact ⟨true, r1.bl_inv, iteT (o1 _ _ H1 .refl g1 (.bl _))⟩
  · rename_i h
    cases toB_inv h
    exact ⟨false, r1.bl_inv, iteF ⟨β1, δ, bx1, ev.le l1, g1, o1⟩⟩
  · exact o1.elim

/-! ### tests -/
theorem att_bind {K : PySem.W.Frag} {α : Type} {F : Fn D} {Gt : D → Fn Bool} {β : Mu} {δ : List (Option D)} {bx : Sto} {σ : L2.St} {H : Hp} {Q : Bool → Hp → Prop} {Q1 : VK} (ev : Ev K β H σ δ) (g : Good K P.T β bx H) (o : OutT K P β H (bnd F Gt δ bx) Q E)
    (k : ∀ β1 bx' x d H1, Le β H β1 H1 → Good K P.T β1 bx' H1 → R K β1 H1 x d → OutT K P β1 H1 (Gt d δ bx') Q E → Q1 x H1) : tD K P E F σ H Q1 := by
  refine ⟨β, δ, bx, ev, g, ?_⟩
  unfold bnd at o
  cases hF : F δ bx with
  | ok d bx' =>
    rw [hF] at o
    refine fun β' v H' l g' r => k β' bx' v d H' l g' r ?_
    dsimp only at o
    cases hr : Gt d δ bx' with
    | ok b bx'' =>
      rw [hr] at o
      exact fun β'' H'' l2 g2 => o β'' H'' (l.trans l2) g2
    | err c e bx'' =>
      rw [hr] at o
      exact OutE.le l o
    | bad =>
      rw [hr] at o
      exact o
  | err c d bx' =>
    rw [hF] at o
    exact o
  | bad =>
    rw [hF] at o
    exact o
/-- data as a test -/
def fB (F : Fn D) : Fn Bool := bnd F fun d => lft (toB d)
theorem tB_of {σ : L2.St} {H : Hp} {Q : Bool → Hp → Prop} (h : tDT X.K P E (fB F) σ H Q) : tD X.K P E F σ H fun x H1 => ∃ c, x = .bl c ∧ Q c H1 := by
  obtain ⟨β, δ, bx, ev, g, o⟩ := h
  refine att_bind (α := Unit) ev g o fun β1 bx1 x d H1 l1 g1 r1 o1 => ?_
  cases hb : toB d with
  | none =>
    rw [hb] at o1
    exact (show False from o1).elim
  | some c =>
    rw [hb] at o1
    cases toB_inv hb
    exact ⟨c, r1.bl_inv, o1 _ H1 .refl g1⟩
/-- a name, a call as a test -/
theorem et_val {e : Expr} (h : ED X P E e F) (he : ∀ whole, isTrue e X.env whole = (do let v ← whole; standAt e.pos; holding [v] (truthy v)) := by intro _; rfl) : ET X P E e (fB F) :=
  pt_imp (pt_val h he) fun _ _ _ q => tB_of q
theorem et_cmp {op : CmpOp} {r : R2} {f : Sto → D → D → Option D} (ho : OpR X (compareOp op) r) (hr : OpD X P r f) (ha : ED X P E a F) (hb : ED X P E b G) (hm : behindInMarks op b = false) : ET X P E (.Compare a [op] [b] pos) (fB (f2 f F G)) :=
  pt_imp (pt_cmpR ho ha hb hm) fun σ H Q q => ed_tOp hr σ H _ (tB_of q)
theorem et_lt (ha : ED X P E a F) (hb : ED X P E b G) : ET X P E (.Compare a [.Lt] [b] pos) (fB (f2 (iB fun i j => decide (i < j)) F G)) := et_cmp op_lt opd_B ha hb (nomark _)
theorem et_le (ha : ED X P E a F) (hb : ED X P E b G) : ET X P E (.Compare a [.LtE] [b] pos) (fB (f2 (iB fun i j => decide (i ≤ j)) F G)) := et_cmp op_le opd_B ha hb (nomark _)
theorem et_gt (ha : ED X P E a F) (hb : ED X P E b G) : ET X P E (.Compare a [.Gt] [b] pos) (fB (f2 (iB fun i j => decide (j < i)) F G)) := et_cmp op_gt opd_B ha hb (nomark _)
theorem et_ge (ha : ED X P E a F) (hb : ED X P E b G) : ET X P E (.Compare a [.GtE] [b] pos) (fB (f2 (iB fun i j => decide (j ≤ i)) F G)) := et_cmp op_ge opd_B ha hb (nomark _)
theorem et_isN {j pos'} (ha : ED X P E a F) : ET X P E (.Compare a [.Is] [.Constant .none j pos'] pos) (fB (f1 cIsN F)) :=
  pt_imp (pt_cmp (pc_isN ha)) fun σ H Q q => ed_t1 (r := fun x H Q => Q (.bl (decide (x = .non))) H) (fun β bx H x d z Q g r h k => by
    cases h
    rw [isNon_of r]
    exact k _ H .refl g (.bl _)) σ H _ (tB_of q)
theorem et_notN {j pos'} (ha : ED X P E a F) : ET X P E (.Compare a [.IsNot] [.Constant .none j pos'] pos) (fB (f1 cNotN F)) :=
  pt_imp (pt_cmp (pc_notN ha)) fun σ H Q q => ed_t1 (r := fun x H Q => Q (.bl (!decide (x = .non))) H) (fun β bx H x d z Q g r h k => by
    cases h
    rw [isNon_of r]
    exact k _ H .refl g (.bl _)) σ H _ (tB_of q)

/-- tests one behind another -/
def fIfT {α : Type} (C : Fn Bool) (A B : Fn α) : Fn α := bnd C fun c => if c = true then A else B
theorem atB_bind {K : PySem.W.Frag} {C : Fn Bool} {Gt : Bool → Fn Bool} {β : Mu} {δ : List (Option D)} {bx : Sto} {σ : L2.St} {H : Hp} {Q Q1 : Bool → Hp → Prop} (ev : Ev K β H σ δ) (g : Good K P.T β bx H) (o : OutT K P β H (bnd C Gt δ bx) Q E)
    (k : ∀ β1 bx' c H1, Le β H β1 H1 → Good K P.T β1 bx' H1 → OutT K P β1 H1 (Gt c δ bx') Q E → Q1 c H1) : tDT K P E C σ H Q1 := by
  refine ⟨β, δ, bx, ev, g, ?_⟩
  unfold bnd at o
  cases hF : C δ bx with
  | ok d bx' =>
    rw [hF] at o
    refine fun β' H' l g' => k β' bx' d H' l g' ?_
    dsimp only at o
    cases hr : Gt d δ bx' with
    | ok b bx'' =>
      rw [hr] at o
      exact fun β'' H'' l2 g2 => o β'' H'' (l.trans l2) g2
    | err c e bx'' =>
      rw [hr] at o
      exact OutE.le l o
    | bad =>
      rw [hr] at o
      exact o
  | err c d bx' =>
    rw [hF] at o
    exact o
  | bad =>
    rw [hF] at o
    exact o
abbrev EW (X : Cx) (P : Pm) (E : XK) (e : Expr) (F : Fn Bool) : Prop := PW X e (tDT X.K P E F)
variable {A B : Fn Bool}
theorem ew_and1 (ha : ET X P E a A) : EW X P E (.BoolOp .And [a] pos) A := pw_and1 ha
theorem ew_or1 (ha : ET X P E a A) : EW X P E (.BoolOp .Or [a] pos) A := pw_or1 ha
theorem ew_and (ha : ET X P E a A) (hb : EW X P E (.BoolOp .And (b :: rest) pos) B) : EW X P E (.BoolOp .And (a :: b :: rest) pos) (fIfT A B (pur false)) := by
  refine pw_imp (pw_and ha hb) ?_
  rintro σ H Q ⟨β, δ, bx, ev, g, o⟩
  refine atB_bind ev g o fun β1 bx1 c H1 l1 g1 o1 => ?_
  cases c with
  | true => exact iteT ⟨β1, δ, bx1, ev.le l1, g1, by simpa using o1⟩
  | false => exact iteF ((show OutT X.K P β1 H1 (.ok false bx1) Q E by simpa [pur] using o1) _ H1 .refl g1)
theorem ew_or (ha : ET X P E a A) (hb : EW X P E (.BoolOp .Or (b :: rest) pos) B) : EW X P E (.BoolOp .Or (a :: b :: rest) pos) (fIfT A (pur true) B) := by
  refine pw_imp (pw_or ha hb) ?_
  rintro σ H Q ⟨β, δ, bx, ev, g, o⟩
  refine atB_bind ev g o fun β1 bx1 c H1 l1 g1 o1 => ?_
  cases c with
  | false => exact iteF ⟨β1, δ, bx1, ev.le l1, g1, by simpa using o1⟩
  | true => exact iteT ((show OutT X.K P β1 H1 (.ok true bx1) Q E by simpa [pur] using o1) _ H1 .refl g1)
theorem et_w {e : Expr} (h : EW X P E e A) : ET X P E e A := h.pt
def fNot (A : Fn Bool) : Fn Bool := bnd A fun c => pur (!c)
theorem et_not (ha : ET X P E a A) : ET X P E (.UnaryOp .Not a pos) (fNot A) := by
  refine pt_imp (pt_not ha) ?_
  rintro σ H Q ⟨β, δ, bx, ev, g, o⟩
  exact atB_bind ev g o fun β1 bx1 c H1 l1 g1 o1 => o1 _ H1 .refl g1
/-- a if c else b -/
theorem atT_bind {K : PySem.W.Frag} {C : Fn Bool} {Gt : Bool → Fn D} {β : Mu} {δ : List (Option D)} {bx : Sto} {σ : L2.St} {H : Hp} {Q : VK} {Q1 : Bool → Hp → Prop} (ev : Ev K β H σ δ) (g : Good K P.T β bx H) (o : Out K P β H (bnd C Gt δ bx) Q E)
    (k : ∀ β1 bx' c H1, Le β H β1 H1 → Good K P.T β1 bx' H1 → Out K P β1 H1 (Gt c δ bx') Q E → Q1 c H1) : tDT K P E C σ H Q1 := by
  refine ⟨β, δ, bx, ev, g, ?_⟩
  unfold bnd at o
  cases hF : C δ bx with
  | ok d bx' =>
    rw [hF] at o
    exact fun β' H' l g' => k β' bx' d H' l g' (Out.le l o)
  | err c d bx' =>
    rw [hF] at o
    exact o
  | bad =>
    rw [hF] at o
    exact o
theorem ed_ifExp {c : Expr} {C : Fn Bool} (hc : ET X P E c C) (ha : ED X P E a F) (hb : ED X P E b G) : ED X P E (.IfExp c a b pos) (fIfT C F G) := by
  refine pe_imp (pe_ifExp hc ha hb) ?_
  rintro σ H Q ⟨β, δ, bx, ev, g, o⟩
  refine atT_bind ev g o fun β1 bx1 c H1 l1 g1 o1 => ?_
  cases c with
  | true => exact iteT ⟨β1, δ, bx1, ev.le l1, g1, by simpa using o1⟩
  | false => exact iteF ⟨β1, δ, bx1, ev.le l1, g1, by simpa using o1⟩
/-- a ∘ b ∘ c on ints -/
def fChain (p q : Int → Int → Bool) (F G J : Fn D) : Fn D := bnd F fun d => bnd G fun e => fun δ bx => match iB p bx d e with
  | some (.bl true) => bnd J (fun z => fun δ bx => lft (iB q bx e z) δ bx) δ bx
  | some (.bl false) => .ok (.bl false) bx
  | _ => .bad
theorem ed_tChain {p q : Int → Int → Bool} {J : Fn D} : ∀ σ H Q, tD X.K P E (fChain p q F G J) σ H Q → tChain (rI0 fun i j => .bl (p i j)) (rI0 fun i j => .bl (q i j)) (tD X.K P E F) (tD X.K P E G) (tD X.K P E J) σ H Q := by
  rintro σ H Q ⟨β, δ, bx, ev, g, o⟩
  refine at_bind ev g o fun β1 bx1 x d H1 l1 g1 r1 o1 => at_bind (ev.le l1) g1 o1 fun β2 bx2 y e H2 l2 g2 r2 o2 => ?_
  split at o2
  · rename_i h0
    have h := h0
    obtain ⟨i, j, rfl, rfl, _⟩ := iB_inv h0
    refine ⟨i, j, (r1.le l2).int_inv, r2.int_inv, true, ?_, ?_⟩
    · exact congrArg V.bl (D.bl.inj (Option.some.inj (show some (D.bl (p i j)) = some (D.bl true) by first | exact h | exact h0)))
    refine iteT (at_bind ((ev.le l1).le l2) g2 o2 fun β3 bx3 z f H3 l3 g3 r3 o3 => ?_)
    cases hz : iB q bx3 (.int j) f with
    | none =>
      rw [hz] at o3
      exact (show False from o3).elim
    | some w =>
      rw [hz] at o3
      obtain ⟨j', k', e1, rfl, rfl⟩ := iB_inv hz
      cases e1
      exact ⟨j, k', (r2.le l3).int_inv, r3.int_inv, o3 _ _ H3 .refl g3 (.bl _)⟩
  · rename_i h0
    have h := h0
    obtain ⟨i, j, rfl, rfl, _⟩ := iB_inv h0
    refine ⟨i, j, (r1.le l2).int_inv, r2.int_inv, false, ?_, iteF (o2 _ _ H2 .refl g2 (.bl _))⟩
    exact congrArg V.bl (D.bl.inj (Option.some.inj (show some (D.bl (p i j)) = some (D.bl false) by first | exact h | exact h0)))
  · exact o2.elim
section
variable {c : Expr} {J : Fn D}
theorem ed_chain {op op' : CmpOp} {p q : Int → Int → Bool} (ho : OpR X (compareOp op) (rI0 fun i j => .bl (p i j))) (ho' : OpR X (compareOp op') (rI0 fun i j => .bl (q i j))) (ha : ED X P E a F) (hb : ED X P E b G) (hc : ED X P E c J)
    (hm : lastMarks [op, op'] [b, c] = false := by with_unfolding_all rfl) : ED X P E (.Compare a [op, op'] [b, c] pos) (fChain p q F G J) := pe_imp (pe_chain ho ho' ha hb hc hm) ed_tChain
theorem et_chain {op op' : CmpOp} {p q : Int → Int → Bool} (ho : OpR X (compareOp op) (rI0 fun i j => .bl (p i j))) (ho' : OpR X (compareOp op') (rI0 fun i j => .bl (q i j))) (ha : ED X P E a F) (hb : ED X P E b G) (hc : ED X P E c J)
    (hm : lastMarks [op, op'] [b, c] = false := by with_unfolding_all rfl) : ET X P E (.Compare a [op, op'] [b, c] pos) (fB (fChain p q F G J)) := pt_imp (pt_chain ho ho' ha hb hc hm) fun σ H Q h => ed_tChain σ H _ (tB_of h)
end
end
end Ms

end
section
set_option Elab.async false
set_option linter.all false
set_option maxRecDepth 100000
set_option maxHeartbeats 4000000
namespace Ms
open PySem PySem.Spec PyProof.Rows L2
/-! ### any end -/
def OutX {α : Type} (P : Pm) (K : PySem.W.Frag) (β : Mu) (H : Hp) (r : Res α) (E : XK) (k : α → Mu → Sto → Hp → Prop) : Prop := match r with
  | .ok a bx => ∀ β' H', Le β H β' H' → Good K P.T β' bx H' → k a β' bx H'
  | .err c d bx => OutE K P β H c d bx E
  | .bad => False
section
variable {K : PySem.W.Frag} {P : Pm} {E : XK} {β β1 : Mu} {δ : List (Option D)} {bx : Sto} {σ : L2.St} {H H1 : Hp} {α γ : Type}
theorem OutX.le {r : Res α} {k : α → Mu → Sto → Hp → Prop} (l : Le β H β1 H1) (h : OutX P K β H r E k) : OutX P K β1 H1 r E k := by
  cases r with
  | ok a bx => exact fun β' H' l' g => h β' H' (l.trans l') g
  | err c d bx => exact OutE.le l h
  | bad => exact h
theorem Out.x {r : Res D} {Q : VK} (o : Out K P β H r Q E) : OutX P K β H r E fun d β' _ H' => ∀ v, R K β' H' v d → Q v H' := by
  cases r with
  | ok a bx => exact fun β' H' l' g v r => o β' v H' l' g r
  | err c d bx => exact o
  | bad => exact o
theorem OutA.x {r : Res (List D)} {Q : List V → Hp → Prop} (o : OutA K P β H r Q E) : OutX P K β H r E fun d β' _ H' => ∀ v, RA K β' H' v d → Q v H' := by
  cases r with
  | ok a bx => exact fun β' H' l' g v r => o β' v H' l' g r
  | err c d bx => exact o
  | bad => exact o
theorem OutT.x {r : Res Bool} {Q : Bool → Hp → Prop} (o : OutT K P β H r Q E) : OutX P K β H r E fun d _ _ H' => Q d H' := by
  cases r with
  | ok a bx => exact fun β' H' l' g => o β' H' l' g
  | err c d bx => exact o
  | bad => exact o
theorem x_bind {F : Fn α} {G : α → Fn γ} {k : γ → Mu → Sto → Hp → Prop} (o : OutX P K β H (bnd F G δ bx) E k) : OutX P K β H (F δ bx) E fun a β1 bx' H1 => Le β H β1 H1 → OutX P K β1 H1 (G a δ bx') E k := by
  unfold bnd at o
  cases hF : F δ bx with
  | ok d bx' =>
    rw [hF] at o
    exact fun β' H' l' g l => OutX.le l o
  | err c d bx' =>
    rw [hF] at o
    exact o
  | bad =>
    rw [hF] at o
    exact o
theorem d_bind {F : Fn D} {G : D → Fn γ} {k : γ → Mu → Sto → Hp → Prop} {Q1 : VK} (ev : Ev K β H σ δ) (g : Good K P.T β bx H) (o : OutX P K β H (bnd F G δ bx) E k)
    (h : ∀ β1 bx' x d H1, Le β H β1 H1 → Good K P.T β1 bx' H1 → R K β1 H1 x d → OutX P K β1 H1 (G d δ bx') E k → Q1 x H1) : tD K P E F σ H Q1 := by
  have o2 := x_bind o
  refine ⟨β, δ, bx, ev, g, ?_⟩
  cases hF : F δ bx with
  | ok d bx' =>
    rw [hF] at o2
    exact fun β' v H' l g' r => h β' bx' v d H' l g' r (o2 β' H' l g' l)
  | err c d bx' =>
    rw [hF] at o2
    exact o2
  | bad =>
    rw [hF] at o2
    exact o2
theorem a_bind {F : Fn (List D)} {G : List D → Fn γ} {k : γ → Mu → Sto → Hp → Prop} {Q1 : List V → Hp → Prop} (ev : Ev K β H σ δ) (g : Good K P.T β bx H) (o : OutX P K β H (bnd F G δ bx) E k)
    (h : ∀ β1 bx' x d H1, Le β H β1 H1 → Good K P.T β1 bx' H1 → RA K β1 H1 x d → OutX P K β1 H1 (G d δ bx') E k → Q1 x H1) : tDA K P E F σ H Q1 := by
  have o2 := x_bind o
  refine ⟨β, δ, bx, ev, g, ?_⟩
  cases hF : F δ bx with
  | ok d bx' =>
    rw [hF] at o2
    exact fun β' v H' l g' r => h β' bx' v d H' l g' r (o2 β' H' l g' l)
  | err c d bx' =>
    rw [hF] at o2
    exact o2
  | bad =>
    rw [hF] at o2
    exact o2
theorem t_bind {F : Fn Bool} {G : Bool → Fn γ} {k : γ → Mu → Sto → Hp → Prop} {Q1 : Bool → Hp → Prop} (ev : Ev K β H σ δ) (g : Good K P.T β bx H) (o : OutX P K β H (bnd F G δ bx) E k)
    (h : ∀ β1 bx' x H1, Le β H β1 H1 → Good K P.T β1 bx' H1 → OutX P K β1 H1 (G x δ bx') E k → Q1 x H1) : tDT K P E F σ H Q1 := by
  have o2 := x_bind o
  refine ⟨β, δ, bx, ev, g, ?_⟩
  cases hF : F δ bx with
  | ok d bx' =>
    rw [hF] at o2
    exact fun β' H' l g' => h β' bx' d H' l g' (o2 β' H' l g' l)
  | err c d bx' =>
    rw [hF] at o2
    exact o2
  | bad =>
    rw [hF] at o2
    exact o2
theorem OutX.lft {o : Option α} {k : α → Mu → Sto → Hp → Prop} (g : Good K P.T β bx H) (h : OutX P K β H (Ms.lft o δ bx) E k) : ∃ a, o = some a ∧ k a β bx H := by
  cases o with
  | none => exact h.elim
  | some a => exact ⟨a, rfl, h β H .refl g⟩
theorem OutX.lft' {o : Option α} {k : α → Mu → Sto → Hp → Prop} (h : OutX P K β H (Ms.lft o δ bx) E k) : ∃ a, o = some a ∧ ∀ β' H', Le β H β' H' → Good K P.T β' bx H' → k a β' bx H' := by
  cases o with
  | none => exact h.elim
  | some a => exact ⟨a, rfl, h⟩
end
/-- a tuple of data -/
def vt : D → Option (List D)
  | .tup l => some l
  | _ => none
def vsc : D → Option (List D)
  | .scr l => some (l.map D.int)
  | d => vt d
/-- a list or a tuple, as it is now -/
def vs (st : Sto) (d : D) : Option (List D) := match vl st d with
  | some l => some l
  | none => vsc d
theorem R.vt {K : PySem.W.Frag} {β : Mu} {H : Hp} {v : V} {d : D} {ds : List D} (r : R K β H v d) (h : vt d = some ds) : ∃ a xs, v = .ref a ∧ L2.Rd H a (.tup xs) ∧ RA K β H xs ds := by
  cases r with
  | tup s ra =>
    cases h
    exact ⟨_, _, rfl, s.1, ra⟩
  | lst _ _ => cases h
  | ref _ => cases h
  | non => cases h
  | bl _ => cases h
  | int _ => cases h
  | str _ => cases h
  | fn _ _ => cases h
  | scr _ => cases h
theorem R.vs {K : PySem.W.Frag} {T : Tb} {β : Mu} {st : Sto} {H : Hp} {v : V} {d : D} {ds : List D} (r : R K β H v d) (g : Good K T β st H) (h : vs st d = some ds) : ∃ a xs, v = .ref a ∧ (SqL K H a xs ∨ SqT K H a xs) ∧ RA K β H xs ds := by
  unfold Ms.vs at h
  split at h
  · rename_i l hl
    cases h
    obtain ⟨a, xs, e, s, ra⟩ := r.vl g hl
    exact ⟨a, xs, e, .inl (.inl s), ra⟩
  · unfold vsc at h
    split at h
    · cases h
      cases r with
      | scr s => exact ⟨_, _, rfl, .inl s.sq, RA.ints _⟩
    · obtain ⟨a, xs, e, s, ra⟩ := r.vt h
      exact ⟨a, xs, e, .inr (.inl s), ra⟩
theorem leM {n : Nat} (h : n ≤ 1000000) : n ≤ sizeLine := by
  rw [sizeLine_eq]
  omega
section
variable {X : Cx} {P : Pm} {E : XK} {pos : Pos} {a b : Expr} {F G : Fn D} {es : List Expr} {A : Fn (List D)}
/-! ### argument lists -/
def fCons (F : Fn D) (A : Fn (List D)) : Fn (List D) := bnd F fun d => bnd A fun ds => pur (d :: ds)
theorem ea_nil : EA X P E [] (pur []) := pa_imp pa_nil fun _ H _ ⟨β, _, _, _, g, o⟩ => o _ [] H .refl g .nil
theorem ea_cons (ha : ED X P E a F) (hr : EA X P E es A) (hs : starEach (a :: es) X.env = (false, eval a X.env) :: starEach es X.env := by rfl) : EA X P E (a :: es) (fCons F A) := by
  refine pa_imp (pa_cons ha hr hs) ?_
  rintro σ H Q ⟨β, δ, bx, ev, g, o⟩
  exact d_bind ev g o.x fun β1 bx1 x d H1 l1 g1 r1 o1 => a_bind (ev.le l1) g1 o1 fun β2 bx2 y e H2 l2 g2 r2 o2 => o2 _ H2 .refl g2 _ (.cons (r1.le l2) r2)
/-- from a list of arguments to a value -/
def fA (f : Sto → List D → Option D) (A : Fn (List D)) : Fn D := bnd A fun ds => fun δ bx => lft (f bx ds) δ bx
def CallD (X : Cx) (P : Pm) (r : List V → Hp → VK → Prop) (f : Sto → List D → Option D) : Prop := ∀ (β : Mu) (bx : Sto) (H : Hp) (xs : List V) (ds : List D) (z : D) (Q : VK), Good X.K P.T β bx H → RA X.K β H xs ds → f bx ds = some z →
  (∀ v H', Le β H β H' → Good X.K P.T β bx H' → R X.K β H' v z → Q v H') → r xs H Q
theorem ed_tA {r : List V → Hp → VK → Prop} {f : Sto → List D → Option D} (hr : CallD X P r f) : ∀ σ H Q, tD X.K P E (fA f A) σ H Q → (tDA X.K P E A) σ H fun xs H1 => r xs H1 Q := by
  rintro σ H Q ⟨β, δ, bx, ev, g, o⟩
  refine a_bind ev g o.x fun β1 bx1 xs ds H1 l1 g1 r1 o1 => ?_
  obtain ⟨z, hz, k⟩ := o1.lft'
  exact hr β1 bx1 H1 xs ds z Q g1 r1 hz fun v H' l g r => k β1 H' l g v r
/-- displays -/
def cTup : Sto → List D → Option D := fun _ ds => if ds.length ≤ 1000 then some (.tup ds) else none
def cLst : Sto → List D → Option D := fun _ ds => if ds.length ≤ 1000 then some (.lst ds) else none
theorem le1000 {n : Nat} (h : n ≤ 1000) : n ≤ sizeLine := Nat.le_of_lt (small1000 h)
theorem ed_tup {x1} (h : EA X P E es A) : ED X P E (.Tuple es x1 pos) (fA cTup A) := pe_imp (pe_tup h) (ed_tA (r := fun xs H Q => xs.length ≤ sizeLine ∧ ∀ p, H p = none → Q (.ref p) (upd H p (.tup xs))) fun β bx H xs ds z Q g r h k => by
  unfold cTup at h
  split at h
  · rename_i hl
    cases h
    exact ⟨by rw [r.length]; exact le1000 hl, fun p hp => k _ _ (.new hp) (g.new hp) (.tup ⟨.inl upd_same, g.ne hp⟩ (r.le (.new hp)))⟩
  · cases h)
theorem ed_lst (h : EA X P E es A) : ED X P E (.List es pos) (fA cLst A) := pe_imp (pe_lst h) (ed_tA (r := fun xs H Q => xs.length ≤ sizeLine ∧ ∀ p, H p = none → Q (.ref p) (upd H p (.lst xs))) fun β bx H xs ds z Q g r h k => by
  unfold cLst at h
  split at h
  · rename_i hl
    cases h
    exact ⟨by rw [r.length]; exact le1000 hl, fun p hp => k _ _ (.new hp) (g.new hp) (.lst ⟨.inl upd_same, g.ne hp⟩ (r.le (.new hp)))⟩
  · cases h)
/-! ### items -/
def cIx (st : Sto) (d e : D) : Option D := match e with
  | .int i => (match vs st d with
    | some l => atI l i
    | none => match d with
      | .str x => if x.length ≤ 1000000 then (atI x.cps.toList i).map fun c => .str ⟨#[c]⟩ else none
      | _ => none)
  | _ => none
theorem ra_atI {K : PySem.W.Frag} {β : Mu} {H : Hp} {vs : List V} {ds : List D} {i : Int} {d : D} (r : RA K β H vs ds) (h : atI ds i = some d) : ∃ v, atI vs i = some v ∧ R K β H v d := by
  unfold atI at h ⊢
  rw [r.length]
  cases hj : ixN ds.length i with
  | none =>
    rw [hj] at h
    cases h
  | some j =>
    rw [hj] at h
    exact r.get h
theorem opd_ix : OpD X P (rIx X.K) cIx := by
  intro β bx H x y d e z Q g rx ry h k
  unfold cIx at h
  split at h
  · rename_i i
    obtain rfl := ry.int_inv
    split at h
    · rename_i l hl
      obtain ⟨a, xs, rfl, s, ra⟩ := rx.vs g hl
      obtain ⟨v, h1, h2⟩ := ra_atI ra h
      rcases s with s | s
      · exact .inl ⟨a, xs, i, v, rfl, rfl, s, h1, k v H .refl g h2⟩
      · exact .inr (.inl ⟨a, xs, i, v, rfl, rfl, s, h1, k v H .refl g h2⟩)
    · split at h
      · rename_i w _
        split at h
        · rename_i hs
          cases hc : atI w.cps.toList i with
          | none => rw [hc] at h; cases h
          | some c =>
            rw [hc] at h
            cases h
            cases rx
            exact .inr (.inr ⟨w, i, c, rfl, rfl, leM hs, hc, k _ H .refl g (.str _)⟩)
        · cases h
      · cases h
  · cases h
theorem ed_ix (ha : ED X P E a F) (hb : ED X P E b G) (hs : PlainIx b) : ED X P E (.Subscript a b pos) (f2 cIx F G) := pe_imp (pe_ix ix_seq ha hb hs) (ed_tOp opd_ix)
/-! ### slices, whatever is cut -/
def cutD (ds : List D) (lo hi : Option Int) : List D := (ds.drop (HT.sIx ds.length 0 lo)).take (HT.sIx ds.length ds.length hi - HT.sIx ds.length 0 lo)
theorem RA.cut {K : PySem.W.Frag} {β : Mu} {H : Hp} {vs : List V} {ds : List D} (r : RA K β H vs ds) (lo hi : Option Int) : RA K β H (cutV vs lo hi) (cutD ds lo hi) := by
  unfold cutV cutD
  rw [r.length]
  exact (r.drop _).take _
def cSl (st : Sto) (d : D) (lo hi : Option Int) : Option D := match vl st d with
  | some l => some (.lst (cutD l lo hi))
  | none => match d with
    | .tup l => some (.tup (cutD l lo hi))
    | .str x => if x.length ≤ 1000000 then some (.str (cutS x lo hi)) else none
    | _ => none
def rSlAny (K : PySem.W.Frag) : V → Option Int → Option Int → Hp → VK → Prop := fun x lo hi H Q => rSlL K x lo hi H Q ∨ rSlA K x lo hi H Q ∨ rSlS x lo hi H Q
theorem sl_any : SlR X (rSlAny X.K) := fun pins s σ H x v vl vu lo hi sl Q I rx hs pl pu h => h.elim (fun h => sl_list pins s σ H x v vl vu lo hi sl Q I rx hs pl pu h) fun h =>
  h.elim (fun h => sl_tupA pins s σ H x v vl vu lo hi sl Q I rx hs pl pu h) fun h => sl_str pins s σ H x v vl vu lo hi sl Q I rx hs pl pu h
theorem sl_of {β : Mu} {bx : Sto} {H : Hp} {x : V} {d z : D} {lo hi : Option Int} {Q : VK} (g : Good X.K P.T β bx H) (r : R X.K β H x d) (h : cSl bx d lo hi = some z) (k : ∀ v H', Le β H β H' → Good X.K P.T β bx H' → R X.K β H' v z → Q v H') : rSlAny X.K x lo hi H Q := by
  unfold cSl at h
  split at h
  · rename_i l hl
    cases h
    obtain ⟨a, xs, rfl, s, ra⟩ := r.vl g hl
    exact .inl ⟨a, xs, rfl, .inl s, fun p hp => k _ _ (.new hp) (g.new hp) (.lst ⟨.inl upd_same, g.ne hp⟩ ((ra.cut lo hi).le (.new hp)))⟩
  · split at h
    · cases h
      cases r with
      | tup s ra =>
        rename_i l _ a xs
        refine .inr (.inl ⟨a, xs, rfl, s.sq, fun hw => ?_, fun _ p hp => k _ _ (.new hp) (g.new hp) (.tup ⟨.inl upd_same, g.ne hp⟩ ((ra.cut lo hi).le (.new hp)))⟩)
        have e : cutD l lo hi = l := by
          unfold cutD
          rw [ra.length] at hw
          rw [hw.1, hw.2]
          simp
        rw [e] at k
        exact k _ H .refl g (.tup s ra)
    · rename_i w _
      split at h
      · rename_i hs
        cases h
        cases r
        exact .inr (.inr ⟨w, rfl, leM hs, k _ H .refl g (.str _)⟩)
      · cases h
    · cases h
def fPoN : Fn (Option Int) := pur none
def fPo (F : Fn D) : Fn (Option Int) := bnd F fun d => fun δ bx => match d with
  | .int i => .ok (some i) bx
  | _ => .bad
def fSl (F : Fn D) (A B : Fn (Option Int)) : Fn D := bnd F fun d => bnd A fun lo => bnd B fun hi => fun δ bx => lft (cSl bx d lo hi) δ bx
def tPO (K : PySem.W.Frag) (P : Pm) (E : XK) (A : Fn (Option Int)) : TO := fun σ H Q => ∃ β δ bx, Ev K β H σ δ ∧ Good K P.T β bx H ∧ OutX P K β H (A δ bx) E fun o _ _ H' => Q o H'
abbrev EPO (X : Cx) (P : Pm) (E : XK) (e : Option Expr) (A : Fn (Option Int)) : Prop := PO X e (tPO X.K P E A)
theorem po_imp {e : Option Expr} {t t' : TO} (h : PO X e t) (k : ∀ σ H Q, t' σ H Q → t σ H Q) : PO X e t' := ⟨fun pins s σ H Q I q => h.run pins s σ H Q I (k σ H Q q)⟩
theorem epo_none : EPO X P E none fPoN := po_imp po_none fun σ H Q ⟨β, _, _, _, g, o⟩ => o _ H .refl g
theorem epo_some (ha : ED X P E a F) : EPO X P E (some a) (fPo F) := by
  refine po_imp (po_some ha) ?_
  rintro σ H Q ⟨β, δ, bx, ev, g, o⟩
  refine d_bind ev g o fun β1 bx1 x d H1 l1 g1 r1 o1 => ?_
  split at o1
  · exact ⟨_, r1.int_inv, o1 _ H1 .refl g1⟩
  · exact o1.elim
theorem o_bind {γ : Type} {β : Mu} {δ : List (Option D)} {bx : Sto} {σ : L2.St} {H : Hp} {A : Fn (Option Int)} {G : Option Int → Fn γ} {k : γ → Mu → Sto → Hp → Prop} {Q1 : Option Int → Hp → Prop} (ev : Ev X.K β H σ δ) (g : Good X.K P.T β bx H) (o : OutX P X.K β H (bnd A G δ bx) E k)
    (h : ∀ β1 bx' x H1, Le β H β1 H1 → Good X.K P.T β1 bx' H1 → OutX P X.K β1 H1 (G x δ bx') E k → Q1 x H1) : tPO X.K P E A σ H Q1 := by
  have o2 := x_bind o
  refine ⟨β, δ, bx, ev, g, ?_⟩
  cases hF : A δ bx with
  | ok d bx' =>
    rw [hF] at o2
    exact fun β' H' l g' => h β' bx' d H' l g' (o2 β' H' l g' l)
  | err c d bx' =>
    rw [hF] at o2
    exact o2
  | bad =>
    rw [hF] at o2
    exact o2
theorem ed_sl {lo hi : Option Expr} {p2 : Pos} {B C : Fn (Option Int)} (ha : ED X P E a F) (hl : EPO X P E lo B) (hh : EPO X P E hi C) : ED X P E (.Subscript a (.Slice lo hi none p2) pos) (fSl F B C) := by
  refine pe_imp (pe_slice sl_any ha hl hh) ?_
  rintro σ H Q ⟨β, δ, bx, ev, g, o⟩
  refine d_bind ev g o.x fun β1 bx1 x d H1 l1 g1 r1 o1 => o_bind (ev.le l1) g1 o1 fun β2 bx2 lo' H2 l2 g2 o2 => o_bind ((ev.le l1).le l2) g2 o2 fun β3 bx3 hi' H3 l3 g3 o3 => ?_
  obtain ⟨z, hz, k⟩ := o3.lft'
  exact sl_of g3 ((r1.le l2).le l3) hz fun v H' l g r => k β3 H' l g v r
/-! ### + of any kind -/
def rCatL : R2 := fun x y H Q => ∃ l b xs zs, x = .ref l ∧ y = .ref b ∧ L2.Rd H l (.lst xs) ∧ L2.Rd H b (.lst zs) ∧ xs.length + zs.length ≤ sizeLine ∧ ∀ p, H p = none → Q (.ref p) (upd H p (.lst (xs ++ zs)))
theorem op_catL : OpR X (binaryOp .Add) rCatL := by
  intro pins s σ H x y v u Q I rx ry h
  obtain ⟨l, b, xs, zs, rfl, rfl, hH, hB, hz, q⟩ := h
  cases rx
  cases ry
  obtain ⟨z, its, n, r, e⟩ := hH.ok I.hok
  obtain ⟨z2, its2, n2, r2, e2⟩ := hB.ok I.hok
  have hl := r.length
  have hl2 := r2.length
  refine PySem.P.add_list e e2 ?_ (by rw [List.size_toArray, List.size_toArray]; omega)
  have ea : its.toArray ++ its2.toArray = (its ++ its2).toArray := by simp
  rw [ea]
  exact ⟨.ref _, _, I.lnew (t' := s.toks) (r.append r2) (by rw [List.length_append]; omega), rfl, q _ I.fresh⟩
abbrev rInt : R2 := rI0 fun i j => .int (i + j)
def rStrP : R2 := fun x y H Q => ∃ i j, x = .str i ∧ y = .str j ∧ i.length + j.length ≤ sizeLine ∧ Q (.str (i ++ j)) H
def rPlus (K : PySem.W.Frag) : R2 := fun x y H Q => rInt x y H Q ∨ rStrP x y H Q ∨ rCatA K x y H Q ∨ rCatL x y H Q
theorem op_plus : OpR X (binaryOp .Add) (rPlus X.K) := op_add.or (OpR.or (r := rStrP) op_add_str (op_catA.or op_catL))
def cPlus (st : Sto) (d e : D) : Option D := match d with
  | .int i => (match e with
    | .int j => some (.int (i + j))
    | _ => none)
  | .str x => (match e with
    | .str y => if x.length + y.length ≤ 1000000 then some (.str (x ++ y)) else none
    | _ => none)
  | .tup l => (match e with
    | .tup m => if l.length + m.length ≤ 1000000 then some (.tup (l ++ m)) else none
    | _ => none)
  | d => (match vl st d, vl st e with
    | some l, some m => if l.length + m.length ≤ 1000000 then some (.lst (l ++ m)) else none
    | _, _ => none)
theorem opd_plus : OpD X P (rPlus X.K) cPlus := by
  intro β bx H x y d e z Q g rx ry h k
  unfold cPlus at h
  split at h
  · split at h
    · cases h
      exact .inl ⟨_, _, rx.int_inv, ry.int_inv, k _ H .refl g (.int _)⟩
    · cases h
  · split at h
    · split at h
      · rename_i hs
        cases h
        cases rx
        cases ry
        exact .inr (.inl ⟨_, _, rfl, rfl, leM hs, k _ H .refl g (.str _)⟩)
      · cases h
    · cases h
  · split at h
    · split at h
      · rename_i hs
        cases h
        cases rx with
        | tup s ra =>
          cases ry with
          | tup s2 rb =>
            rename_i a xs b ys
            refine .inr (.inr (.inl ⟨a, b, xs, ys, rfl, rfl, s.sq, s2.sq, by rw [ra.length, rb.length]; exact leM hs, fun z => ?_, fun _ z => ?_, fun _ _ p hp => ?_⟩))
            · subst z
              cases ra
              exact k _ H .refl g (.tup s2 rb)
            · subst z
              cases rb
              exact k _ H .refl g (by rw [List.append_nil]; exact .tup s ra)
            · exact k _ _ (.new hp) (g.new hp) (.tup ⟨.inl upd_same, g.ne hp⟩ ((ra.append rb).le (.new hp)))
      · cases h
    · cases h
  · split at h
    · split at h
      · rename_i l m hl hm hs
        cases h
        obtain ⟨a, xs, rfl, s, ra⟩ := rx.vl g hl
        obtain ⟨b, ys, rfl, s2, rb⟩ := ry.vl g hm
        exact .inr (.inr (.inr ⟨a, b, xs, ys, rfl, rfl, s, s2, by rw [ra.length, rb.length]; exact leM hs, fun p hp => k _ _ (.new hp) (g.new hp) (.lst ⟨.inl upd_same, g.ne hp⟩ ((ra.append rb).le (.new hp)))⟩))
      · cases h
    · cases h
theorem ed_plus (ha : ED X P E a F) (hb : ED X P E b G) : ED X P E (.BinOp a .Add b pos) (f2 cPlus F G) := ed_bin op_plus opd_plus ha hb
/-! ### in, not in: flat items -/
def D.flat : D → Bool
  | .non => true
  | .bl _ => true
  | .int _ => true
  | .str _ => true
  | _ => false
def eqF : D → D → Bool
  | .non, .non => true
  | .bl a, .bl b => a == b
  | .bl a, .int b => (if a then 1 else 0) == b
  | .int a, .bl b => a == (if b then 1 else 0)
  | .int a, .int b => a == b
  | .str a, .str b => a == b
  | _, _ => false
theorem R.flat {K : PySem.W.Frag} {β : Mu} {H : Hp} {v : V} {d : D} (r : R K β H v d) (h : d.flat = true) : flatV v = true := by
  cases r <;> first | rfl | cases h
theorem R.eqF {K : PySem.W.Frag} {β : Mu} {H : Hp} {v w : V} {d e : D} (r : R K β H v d) (r2 : R K β H w e) (h : d.flat = true) (h2 : e.flat = true) : eqV v w = Ms.eqF d e := by
  cases r <;> first | (cases h; done) | (cases r2 <;> first | (cases h2; done) | rfl)
theorem RA.flat {K : PySem.W.Frag} {β : Mu} {H : Hp} : ∀ {vs : List V} {ds : List D}, RA K β H vs ds → ds.all D.flat = true → vs.all flatV = true
  | _, _, .nil, _ => rfl
  | _, _, .cons r ra, h => by
    rw [List.all_cons, Bool.and_eq_true] at h ⊢
    exact ⟨r.flat h.1, RA.flat ra h.2⟩
theorem RA.inF {K : PySem.W.Frag} {β : Mu} {H : Hp} {v : V} {d : D} (r : R K β H v d) (h : d.flat = true) : ∀ {vs : List V} {ds : List D}, RA K β H vs ds → ds.all D.flat = true → inV v vs = ds.any fun y => Ms.eqF y d
  | _, _, .nil, _ => rfl
  | _, _, .cons r2 ra, h2 => by
    rw [List.all_cons, Bool.and_eq_true] at h2
    have q := RA.inF r h ra h2.2
    unfold inV at q ⊢
    rw [List.any_cons, List.any_cons, r2.eqF r h2.1 h, q]
def cIn (neg : Bool) (st : Sto) (d e : D) : Option D := match vs st e with
  | some ds => if (d.flat && ds.all D.flat) = true then some (.bl (if neg then !(ds.any fun y => eqF y d) else (ds.any fun y => eqF y d))) else none
  | none => none
theorem opd_in {neg : Bool} : OpD X P (rIn X.K neg) (cIn neg) := by
  intro β bx H x y d e z Q g rx ry h k
  unfold cIn at h
  split at h
  · rename_i ds hd
    split at h
    · rename_i hf
      cases h
      rw [Bool.and_eq_true] at hf
      obtain ⟨a, xs, rfl, s, ra⟩ := ry.vs g hd
      refine ⟨a, xs, rfl, s, rx.flat hf.1, ra.flat hf.2, ?_⟩
      rw [RA.inF rx hf.1 ra hf.2]
      exact k _ H .refl g (.bl _)
    · cases h
  · cases h
theorem ed_in (ha : ED X P E a F) (hb : ED X P E b G) (hm : behindInMarks .In b = false := by rfl) : ED X P E (.Compare a [.In] [b] pos) (f2 (cIn false) F G) := ed_cmp op_in_seq opd_in ha hb hm
theorem ed_notIn (ha : ED X P E a F) (hb : ED X P E b G) (hm : behindInMarks .NotIn b = false := by rfl) : ED X P E (.Compare a [.NotIn] [b] pos) (f2 (cIn true) F G) := ed_cmp op_notIn_seq opd_in ha hb hm
theorem et_in (ha : ED X P E a F) (hb : ED X P E b G) (hm : behindInMarks .In b = false := by rfl) : ET X P E (.Compare a [.In] [b] pos) (fB (f2 (cIn false) F G)) := et_cmp op_in_seq opd_in ha hb hm
theorem et_notIn (ha : ED X P E a F) (hb : ED X P E b G) (hm : behindInMarks .NotIn b = false := by rfl) : ET X P E (.Compare a [.NotIn] [b] pos) (fB (f2 (cIn true) F G)) := et_cmp op_notIn_seq opd_in ha hb hm

/-! ### built-in functions -/
theorem ed_blt {x : Str} {id : String} {r : List V → Hp → VK → Prop} {f : Sto → List D → Option D} {p : Pos} {e : Expr} (hc : CallR X (.builtin id) r) (hr : CallD X P r f) (hg : Gl X x) (hm : X.mg x = none) (hv : bootBuiltins x = some (.builtin id)) (ha : EA X P E (e :: es) A)
    (hn : x ≠ "__name__" := by decide) (hdb : (x == ("__debug__" : Str)) = false := by decide) (he : starEach (e :: es) X.env = (false, eval e X.env) :: starEach es X.env := by rfl) (hpl : (backTo pos (starEach es X.env)).any (·.1) = false := by rfl) : ED X P E (.Call (.Name x p) (e :: es) [] pos) (fA f A) :=
  pe_imp (pe_callB hc hg hm hv ha hn hdb he hpl) (ed_tA hr)
theorem ed_ty {x : Str} {T : String} {r : List V → Hp → VK → Prop} {f : Sto → List D → Option D} {p : Pos} {e : Expr} (hc : CallR X (.type T) r) (hr : CallD X P r f) (hg : Gl X x) (hm : X.mg x = none) (hv : bootBuiltins x = some (.type T)) (ha : EA X P E (e :: es) A)
    (hn : x ≠ "__name__" := by decide) (hdb : (x == ("__debug__" : Str)) = false := by decide) (he : starEach (e :: es) X.env = (false, eval e X.env) :: starEach es X.env := by rfl) (hpl : (backTo pos (starEach es X.env)).any (·.1) = false := by rfl) : ED X P E (.Call (.Name x p) (e :: es) [] pos) (fA f A) :=
  pe_imp (pe_callTy hc hg hm hv ha hn hdb he hpl) (ed_tA hr)
theorem RA.one {K : PySem.W.Frag} {β : Mu} {H : Hp} {xs : List V} {d : D} (r : RA K β H xs [d]) : ∃ v, xs = [v] ∧ R K β H v d := by
  cases r with
  | cons a b => cases b; exact ⟨_, rfl, a⟩
theorem RA.two {K : PySem.W.Frag} {β : Mu} {H : Hp} {xs : List V} {d e : D} (r : RA K β H xs [d, e]) : ∃ v w, xs = [v, w] ∧ R K β H v d ∧ R K β H w e := by
  cases r with
  | cons a b =>
    obtain ⟨w, rfl, h⟩ := b.one
    exact ⟨_, _, rfl, a, h⟩
theorem CallR.or {f : Value} {r r' : List V → Hp → VK → Prop} (h : CallR X f r) (h' : CallR X f r') : CallR X f (fun xs H Q => r xs H Q ∨ r' xs H Q) := fun pins s σ H xs us Q I rv q => q.elim (fun q => h pins s σ H xs us Q I rv q) fun q => h' pins s σ H xs us Q I rv q
def rLenS (K : PySem.W.Frag) : List V → Hp → VK → Prop := fun xs H Q => ∃ p ys, xs = [.ref p] ∧ (SqL K H p ys ∨ SqT K H p ys) ∧ Q (.int ys.length) H
def rLenT : List V → Hp → VK → Prop := fun xs H Q => ∃ z, xs = [.str z] ∧ z.length ≤ sizeLine ∧ Q (.int z.length) H
def rLen (K : PySem.W.Frag) : List V → Hp → VK → Prop := fun xs H Q => rLenS K xs H Q ∨ rLenT xs H Q
theorem call_lenA : CallR X (.builtin "len") (rLen X.K) := CallR.or (r := rLenS X.K) (r' := rLenT) call_len_seq call_len_str
def cLen (st : Sto) : List D → Option D
  | [d] => (match vs st d with
    | some l => some (.int l.length)
    | none => match d with
      | .str x => if x.length ≤ 1000000 then some (.int x.length) else none
      | _ => none)
  | _ => none
theorem cd_len : CallD X P (rLen X.K) cLen := by
  intro β bx H xs ds z Q g r h k
  unfold cLen at h
  split at h
  · obtain ⟨v, rfl, r1⟩ := r.one
    split at h
    · rename_i l hl
      cases h
      obtain ⟨a, ys, rfl, s, ra⟩ := r1.vs g hl
      exact .inl ⟨a, ys, rfl, s, by rw [ra.length]; exact k _ H .refl g (.int _)⟩
    · split at h
      · split at h
        · rename_i hs
          cases h
          cases r1
          exact .inr ⟨_, rfl, leM hs, k _ H .refl g (.int _)⟩
        · cases h
      · cases h
  · cases h
def cAbs : Sto → List D → Option D
  | _, [.int i] => some (.int (if i < 0 then -i else i))
  | _, _ => none
theorem cd_abs : CallD X P (fun xs H Q => ∃ i, xs = [.int i] ∧ Q (.int (if i < 0 then -i else i)) H) cAbs := by
  intro β bx H xs ds z Q g r h k
  unfold cAbs at h
  split at h
  · cases h
    obtain ⟨v, rfl, r1⟩ := r.one
    exact ⟨_, by rw [r1.int_inv], k _ H .refl g (.int _)⟩
  · cases h
def cInt : Sto → List D → Option D
  | _, [.int i] => some (.int i)
  | _, _ => none
theorem cd_int : CallD X P (fun xs H Q => (∃ i, xs = [.int i] ∧ Q (.int i) H) ∨ ∃ k, xs = [.bl k] ∧ Q (.int (if k then 1 else 0)) H) cInt := by
  intro β bx H xs ds z Q g r h k
  unfold cInt at h
  split at h
  · cases h
    obtain ⟨v, rfl, r1⟩ := r.one
    exact .inl ⟨_, by rw [r1.int_inv], k _ H .refl g (.int _)⟩
  · cases h
def cMax : Sto → List D → Option D
  | _, [.int i, .int j] => some (.int (if j > i then j else i))
  | _, _ => none
theorem cd_max : CallD X P (fun xs H Q => ∃ i j, xs = [.int i, .int j] ∧ Q (.int (if j > i then j else i)) H) cMax := by
  intro β bx H xs ds z Q g r h k
  unfold cMax at h
  split at h
  · cases h
    obtain ⟨v, w, rfl, r1, r2⟩ := r.two
    exact ⟨_, _, by rw [r1.int_inv, r2.int_inv], k _ H .refl g (.int _)⟩
  · cases h
def cMin : Sto → List D → Option D
  | _, [.int i, .int j] => some (.int (if j < i then j else i))
  | _, _ => none
theorem cd_min : CallD X P (fun xs H Q => ∃ i j, xs = [.int i, .int j] ∧ Q (.int (if j < i then j else i)) H) cMin := by
  intro β bx H xs ds z Q g r h k
  unfold cMin at h
  split at h
  · cases h
    obtain ⟨v, w, rfl, r1, r2⟩ := r.two
    exact ⟨_, _, by rw [r1.int_inv, r2.int_inv], k _ H .refl g (.int _)⟩
  · cases h
/-- list(x) -/
def cListOf (st : Sto) : List D → Option D
  | [d] => (vs st d).map D.lst
  | _ => none
theorem cd_listOf : CallD X P (fun xs H Q => ∃ p ys, xs = [.ref p] ∧ (SqL X.K H p ys ∨ SqT X.K H p ys) ∧ ∀ l, H l = none → Q (.ref l) (upd H l (.lst ys))) cListOf := by
  intro β bx H xs ds z Q g r h k
  unfold cListOf at h
  split at h
  · obtain ⟨v, rfl, r1⟩ := r.one
    rename_i d
    cases hl : vs bx d with
    | none => rw [hl] at h; cases h
    | some l =>
      rw [hl] at h
      cases h
      obtain ⟨a, ys, rfl, s, ra⟩ := r1.vs g hl
      exact ⟨a, ys, rfl, s, fun p hp => k _ _ (.new hp) (g.new hp) (.lst ⟨.inl upd_same, g.ne hp⟩ (ra.le (.new hp)))⟩
  · cases h
/-- tuple(x) -/
def cTupOf (st : Sto) : List D → Option D
  | [d] => (match vl st d with
    | some l => some (.tup l)
    | none => (vt d).map D.tup)
  | _ => none
theorem cd_tupOf : CallD X P (fun xs H Q => ∃ p ys, xs = [.ref p] ∧ ((SqL X.K H p ys ∧ ∀ l, H l = none → Q (.ref l) (upd H l (.tup ys))) ∨ (SqT X.K H p ys ∧ Q (.ref p) H))) cTupOf := by
  intro β bx H xs ds z Q g r h k
  unfold cTupOf at h
  split at h
  · obtain ⟨v, rfl, r1⟩ := r.one
    split at h
    · rename_i l hl
      cases h
      obtain ⟨a, ys, rfl, s, ra⟩ := r1.vl g hl
      exact ⟨a, ys, rfl, .inl ⟨.inl s, fun p hp => k _ _ (.new hp) (g.new hp) (.tup ⟨.inl upd_same, g.ne hp⟩ (ra.le (.new hp)))⟩⟩
    · cases r1 with
      | tup s ra =>
        cases h
        exact ⟨_, _, rfl, .inr ⟨s.sq, k _ H .refl g (.tup s ra)⟩⟩
      | lst _ _ => cases h
      | ref _ => cases h
      | non => cases h
      | bl _ => cases h
      | int _ => cases h
      | str _ => cases h
      | fn _ _ => cases h
      | scr _ => cases h
  · cases h
/-- sum(xs) of ints -/
def toInts : List D → Option (List Int)
  | [] => some []
  | .int i :: r => (toInts r).map (i :: ·)
  | _ => none
theorem toInts_inv : ∀ {l : List D} {ns : List Int}, toInts l = some ns → l = ns.map D.int
  | [], ns, h => by cases h; rfl
  | .int i :: r, ns, h => by
    simp only [toInts] at h
    cases hr : toInts r with
    | none => rw [hr] at h; cases h
    | some ms =>
      rw [hr] at h
      cases h
      rw [toInts_inv hr]
      rfl
  | .non :: _, _, h => by cases h
  | .bl _ :: _, _, h => by cases h
  | .str _ :: _, _, h => by cases h
  | .lst _ :: _, _, h => by cases h
  | .tup _ :: _, _, h => by cases h
  | .ref _ :: _, _, h => by cases h
  | .fn _ :: _, _, h => by cases h
  | .scr _ :: _, _, h => by cases h
theorem toInts_map : ∀ ns : List Int, toInts (ns.map D.int) = some ns
  | [] => rfl
  | n :: r => by simp only [List.map_cons, toInts, toInts_map r, Option.map_some]
def cSum (st : Sto) : List D → Option D
  | [d] => ((vl st d).bind toInts).map fun ns => .int ns.sum
  | _ => none
theorem cd_ints {β : Mu} {bx : Sto} {H : Hp} {v : V} {d : D} {ns : List Int} (g : Good X.K P.T β bx H) (r : R X.K β H v d) (h : (vl bx d).bind toInts = some ns) : ∃ a, v = .ref a ∧ SqL X.K H a (ns.map V.int) := by
  cases hl : vl bx d with
  | none => rw [hl] at h; cases h
  | some l =>
    rw [hl] at h
    have e := toInts_inv (show toInts l = some ns from h)
    subst e
    obtain ⟨a, xs, rfl, s, ra⟩ := r.vl g hl
    rw [ra.ints_inv] at s
    exact ⟨a, rfl, .inl s⟩
theorem cd_sum : CallD X P (rSum X.K) cSum := by
  intro β bx H xs ds z Q g r h k
  unfold cSum at h
  split at h
  · rename_i d
    obtain ⟨v, rfl, r1⟩ := r.one
    cases hn : (vl bx d).bind toInts with
    | none => rw [hn] at h; cases h
    | some ns =>
      rw [hn] at h
      cases h
      obtain ⟨a, rfl, s⟩ := cd_ints g r1 hn
      exact ⟨a, ns, rfl, s, k _ H .refl g (.int _)⟩
  · cases h
end
end Ms

end
section
set_option Elab.async false
set_option linter.all false
set_option maxRecDepth 100000
set_option maxHeartbeats 4000000
namespace Ms
open PySem PySem.Spec PyProof.Rows L2
/-! ### types -/
def D.ty (st : Sto) : D → Option String
  | .non => some "NoneType"
  | .bl _ => some "bool"
  | .int _ => some "int"
  | .str _ => some "str"
  | .lst _ => some "list"
  | .tup _ => some "tuple"
  | .ref k => (vl st (.ref k)).map fun _ => "list"
  | .fn _ => none
  | .scr _ => none
theorem tyx {K : PySem.W.Frag} {T : Tb} {β : Mu} {bx : Sto} {H : Hp} {v : V} {d : D} {t : String} (g : Good K T β bx H) (r : R K β H v d) (e : d.ty bx = some t) : TyX K H v (.type t) := by
  cases r with
  | non => cases e; exact .base .non
  | bl b => cases e; exact .base (.bl b)
  | int i => cases e; exact .base (.int i)
  | str x => cases e; exact .base (.str x)
  | lst s ra =>
    cases e
    rcases s with ⟨h | ⟨o, h⟩, _⟩
    · exact .base (.lst h)
    · exact .base (.frz h)
  | tup s ra =>
    cases e
    rcases s with ⟨h | ⟨o, h⟩, _⟩
    · exact .base (.tup h)
    · exact .fTuple h
  | ref hk =>
    rename_i a k b
    have e' : (vl bx (.ref k)).map (fun _ => "list") = some t := e
    cases hl : vl bx (.ref k) with
    | none => rw [hl] at e'; cases e'
    | some l =>
      rw [hl] at e'
      cases e'
      obtain ⟨a', xs, e2, s, _⟩ := (R.ref (K := K) (β := β) (H := H) hk).vl g hl
      cases e2
      rcases s with h | ⟨o, h⟩
      · exact .base (.lst h)
      · exact .base (.frz h)
  | fn _ _ => cases e
  | scr _ => cases e
/-- isinstance(x, T) -/
def cIsi (T : String) (st : Sto) (d : D) : Option D := (d.ty st).bind fun t => (kitB t T).map D.bl
def cIsi2 (T U : String) (st : Sto) (d : D) : Option D := (d.ty st).bind fun t => match kitB t T, kitB t U with
  | some p, some q => some (.bl (p || q))
  | _, _ => none
section
variable {X : Cx} {P : Pm} {E : XK} {pos : Pos} {a b : Expr} {F G : Fn D}
theorem ed_isi {x c : Str} {T : String} {p p2 : Pos} (hg : Gl X x) (hm : X.mg x = none) (hv : bootBuiltins x = some (.builtin "isinstance")) (ha : ED X P E a F) (gc : Gl X c) (mc : X.mg c = none) (vc : bootBuiltins c = some (.type T))
    (hn : x ≠ "__name__" := by decide) (hdb : (x == ("__debug__" : Str)) = false := by decide) (hn2 : c ≠ "__name__" := by decide) (hdb2 : (c == ("__debug__" : Str)) = false := by decide)
    (h1 : starEach (a :: [.Name c p2]) X.env = (false, eval a X.env) :: starEach [.Name c p2] X.env := by rfl) (h2 : (backTo pos (starEach [.Name c p2] X.env)).any (·.1) = false := by rfl)
    (h3 : starEach [.Name c p2] X.env = (false, eval (.Name c p2) X.env) :: starEach [] X.env := by rfl) : ED X P E (.Call (.Name x p) (a :: [.Name c p2]) [] pos) (f1 (cIsi T) F) := by
  refine pe_imp (pe_callB call_isi hg hm hv (pa_cons ha (pa_cons (pe_bltn (v := .ty T) gc mc vc rfl hn2 hdb2) pa_nil h3) h1) hn hdb h1 h2) fun σ H Q h => ?_
  refine ed_t1 (r := fun y H Q => rIsi X.K [y, .ty T] H Q) (fun β bx H y d z Q g r h k => ?_) σ H Q h
  unfold cIsi at h
  cases ht : d.ty bx with
  | none => rw [ht] at h; cases h
  | some t =>
  rw [ht] at h
  replace h : (kitB t T).map D.bl = some z := h
  cases hk : kitB t T with
  | none => rw [hk] at h; cases h
  | some c =>
    rw [hk] at h
    cases h
    exact ⟨y, .ty T, .type t, .type T, c, rfl, .ty T, tyx g r ht, kit_ty hk, k _ H .refl g (.bl c)⟩
theorem ed_isi2 {x c e : Str} {T U : String} {p p2 p3 p4 : Pos} {x1} (hg : Gl X x) (hm : X.mg x = none) (hv : bootBuiltins x = some (.builtin "isinstance")) (ha : ED X P E a F) (gc : Gl X c) (mc : X.mg c = none) (vc : bootBuiltins c = some (.type T)) (ge : Gl X e) (me : X.mg e = none) (ve : bootBuiltins e = some (.type U))
    (hn : x ≠ "__name__" := by decide) (hdb : (x == ("__debug__" : Str)) = false := by decide) (hn2 : c ≠ "__name__" := by decide) (hdb2 : (c == ("__debug__" : Str)) = false := by decide) (hn3 : e ≠ "__name__" := by decide) (hdb3 : (e == ("__debug__" : Str)) = false := by decide)
    (h1 : starEach (a :: [.Tuple [.Name c p2, .Name e p3] x1 p4]) X.env = (false, eval a X.env) :: starEach [.Tuple [.Name c p2, .Name e p3] x1 p4] X.env := by rfl) (h2 : (backTo pos (starEach [.Tuple [.Name c p2, .Name e p3] x1 p4] X.env)).any (·.1) = false := by rfl)
    (h3 : starEach [.Tuple [.Name c p2, .Name e p3] x1 p4] X.env = (false, eval (.Tuple [.Name c p2, .Name e p3] x1 p4) X.env) :: starEach [] X.env := by rfl)
    (h4 : starEach [.Name c p2, .Name e p3] X.env = (false, eval (.Name c p2) X.env) :: starEach [.Name e p3] X.env := by rfl) (h5 : starEach [.Name e p3] X.env = (false, eval (.Name e p3) X.env) :: starEach [] X.env := by rfl) :
    ED X P E (.Call (.Name x p) (a :: [.Tuple [.Name c p2, .Name e p3] x1 p4]) [] pos) (f1 (cIsi2 T U) F) := by
  refine pe_imp (pe_callB call_isiT hg hm hv (pa_cons ha (pa_cons (pe_tup (pa_cons (pe_bltn (v := .ty T) gc mc vc rfl hn2 hdb2) (pa_cons (pe_bltn (v := .ty U) ge me ve rfl hn3 hdb3) pa_nil h5) h4)) pa_nil h3) h1) hn hdb h1 h2) fun σ H Q h => ?_
  refine ed_t1 (r := fun y H Q => [V.ty T, V.ty U].length ≤ sizeLine ∧ ∀ q, H q = none → rIsiT X.K [y, .ref q] (upd H q (.tup [.ty T, .ty U])) Q) (fun β bx H y d z Q g r h k => ?_) σ H Q h
  refine ⟨le1000 (by show 2 ≤ 1000; omega), fun q hq => ?_⟩
  unfold cIsi2 at h
  cases ht : d.ty bx with
  | none => rw [ht] at h; cases h
  | some t =>
  rw [ht] at h
  replace h : (match kitB t T, kitB t U with
  | some p, some q => some (D.bl (p || q))
  | _, _ => none) = some z := h
  cases hk : kitB t T with
  | none => rw [hk] at h; cases h
  | some c =>
    cases hl : kitB t U with
    | none => rw [hk, hl] at h; cases h
    | some c2 =>
      rw [hk, hl] at h
      cases h
      refine ⟨y, q, [.ty T, .ty U], .type t, [.type T, .type U], c || c2, rfl, upd_same, .cons (.ty T) (.cons (.ty U) .nil), tyx (g.new hq) (r.le (.new hq)) ht, ?_, k _ _ (.new hq) (g.new hq) (.bl _)⟩
      refine kitAny_cons (kit_ty hk) (fun e => ?_) (fun e => by rw [e]; rfl)
      refine kitAny_cons (kit_ty hl) (fun e2 => by rw [e, e2]; rfl) (fun e2 => by rw [e2, Bool.or_true])
end
/-! ### data as the library's data -/
mutual
def D.py : D → PyData
  | .non => .none
  | .bl b => .bool b
  | .int i => .int i
  | .str x => .str x
  | .lst l => .list (D.pyAll l)
  | .tup l => .tuple (D.pyAll l)
  | .ref _ => .none
  | .fn _ => .none
  | .scr _ => .none
def D.pyAll : List D → List PyData
  | [] => []
  | d :: r => d.py :: D.pyAll r
end
mutual
def D.pure : D → Bool
  | .ref _ => false
  | .fn _ => false
  | .scr _ => false
  | .lst l => D.pureAll l
  | .tup l => D.pureAll l
  | _ => true
def D.pureAll : List D → Bool
  | [] => true
  | d :: r => d.pure && D.pureAll r
end
mutual
theorem R.dp {K : PySem.W.Frag} {β : Mu} {H : Hp} : ∀ {v : V} {d : D}, R K β H v d → d.pure = true → Dp K H v d.py
  | _, _, .non, _ => .non
  | _, _, .bl b, _ => .bl b
  | _, _, .int i, _ => .int i
  | _, _, .str x, _ => .str x
  | _, _, .lst s ra, h => .lst s.sq (RA.dp ra h)
  | _, _, .tup s ra, h => .tup s.sq (RA.dp ra h)
  | _, _, .ref _, h => nomatch h
  | _, _, .fn _ _, h => nomatch h
  | _, _, .scr _, h => nomatch h
theorem RA.dp {K : PySem.W.Frag} {β : Mu} {H : Hp} : ∀ {vs : List V} {ds : List D}, RA K β H vs ds → D.pureAll ds = true → DpAll K H vs (D.pyAll ds)
  | _, _, .nil, _ => .nil
  | _, _, .cons r ra, h => .cons (R.dp r (Bool.and_eq_true_iff.mp h).1) (RA.dp ra (Bool.and_eq_true_iff.mp h).2)
end
mutual
theorem D.noDict : ∀ d : D, d.py.hasDict = false
  | .non => rfl
  | .bl _ => rfl
  | .int _ => rfl
  | .str _ => rfl
  | .lst l => D.noDictAll l
  | .tup l => D.noDictAll l
  | .ref _ => rfl
  | .fn _ => rfl
  | .scr _ => rfl
theorem D.noDictAll : ∀ l : List D, PyData.hasDictAll (D.pyAll l) = false
  | [] => rfl
  | d :: r => by
    show (d.py.hasDict || PyData.hasDictAll (D.pyAll r)) = false
    rw [D.noDict d, D.noDictAll r]
    rfl
end
/-- a list that grows as it is now -/
def dr (st : Sto) (d : D) : D := match d with
  | .ref k => (match st[k]? with
    | some (.lst l) => .lst l
    | _ => .ref k)
  | d => d
theorem R.dpr {K : PySem.W.Frag} {T : Tb} {β : Mu} {st : Sto} {H : Hp} {v : V} {d : D} (r : R K β H v d) (g : Good K T β st H) (h : (dr st d).pure = true) : Dp K H v (dr st d).py := by
  cases d with
  | ref k =>
    cases hc : st[k]? with
    | none => simp only [dr, hc] at h; cases h
    | some c =>
      cases c with
      | dead => simp only [dr, hc] at h; cases h
      | lam n => simp only [dr, hc] at h; cases h
      | lst l =>
        simp only [dr, hc] at h ⊢
        obtain ⟨a, xs, rfl, s, ra⟩ := r.vl g (show Ms.vl st (.ref k) = some l by simp only [Ms.vl, hc])
        exact .lst (.inl s) (ra.dp h)
  | non => exact r.dp h
  | bl _ => exact r.dp h
  | int _ => exact r.dp h
  | str _ => exact r.dp h
  | lst _ => exact r.dp h
  | tup _ => exact r.dp h
  | fn _ => exact r.dp h
  | scr _ => exact r.dp h
def eqOk (d e : D) : Bool := d.pure && e.pure && SeqAt.shaped d.py && SeqAt.shaped e.py
def cEqD : Sto → D → D → Option D := fun st d e => if eqOk (dr st d) (dr st e) = true then some (.bl (PyData.eqv (dr st d).py (dr st e).py)) else none
def cNeD : Sto → D → D → Option D := fun st d e => if eqOk (dr st d) (dr st e) = true then some (.bl (!PyData.eqv (dr st d).py (dr st e).py)) else none
def cRepr (st : Sto) : List D → Option D
  | [d] => if ((dr st d).pure && (dr st d).py.showable && decide ((dr st d).py.depth ≤ 60) && decide ((dr st d).py.shown.length ≤ sizeLine)) = true then some (.str (dr st d).py.shown) else none
  | _ => none
section
variable {X : Cx} {P : Pm} {E : XK} {pos : Pos} {a b : Expr} {F G : Fn D} {es : List Expr} {A : Fn (List D)}
theorem opd_eqD : OpD X P (rEqD X.K) cEqD := by
  intro β bx H x y d e z Q g rx ry h k
  unfold cEqD at h
  split at h
  · rename_i hc
    cases h
    simp only [eqOk, Bool.and_eq_true] at hc
    exact ⟨_, _, rx.dpr g hc.1.1.1, ry.dpr g hc.1.1.2, hc.1.2, hc.2, k _ H .refl g (.bl _)⟩
  · cases h
theorem opd_neD : OpD X P (rNeD X.K) cNeD := by
  intro β bx H x y d e z Q g rx ry h k
  unfold cNeD at h
  split at h
  · rename_i hc
    cases h
    simp only [eqOk, Bool.and_eq_true] at hc
    exact ⟨_, _, rx.dpr g hc.1.1.1, ry.dpr g hc.1.1.2, hc.1.2, hc.2, k _ H .refl g (.bl _)⟩
  · cases h
theorem ed_eq (hu : X.A.units + 64 < cLine) (ha : ED X P E a F) (hb : ED X P E b G) : ED X P E (.Compare a [.Eq] [b] pos) (f2 cEqD F G) := ed_cmp (op_eqD hu) opd_eqD ha hb (nomark _)
theorem ed_ne (hu : X.A.units + 64 < cLine) (ha : ED X P E a F) (hb : ED X P E b G) : ED X P E (.Compare a [.NotEq] [b] pos) (f2 cNeD F G) := ed_cmp (op_neD hu) opd_neD ha hb (nomark _)
theorem et_eq (hu : X.A.units + 64 < cLine) (ha : ED X P E a F) (hb : ED X P E b G) : ET X P E (.Compare a [.Eq] [b] pos) (fB (f2 cEqD F G)) := et_cmp (op_eqD hu) opd_eqD ha hb (nomark _)
theorem et_ne (hu : X.A.units + 64 < cLine) (ha : ED X P E a F) (hb : ED X P E b G) : ET X P E (.Compare a [.NotEq] [b] pos) (fB (f2 cNeD F G)) := et_cmp (op_neD hu) opd_neD ha hb (nomark _)
/-! ### repr -/
def rRepr (K : PySem.W.Frag) : List V → Hp → VK → Prop := fun xs H Q => ∃ x d, xs = [x] ∧ Dp K H x d ∧ d.showable = true ∧ d.hasDict = false ∧ d.depth ≤ 60 ∧ d.shown.length ≤ sizeLine ∧ Q (.str d.shown) H
theorem call_repr (hga : X.A.guards = some []) (hu : X.A.units + 64 < cLine) : CallR X (.builtin "repr") (rRepr X.K) := by
  intro pins s σ H xs us Q I r h
  obtain ⟨x, d, rfl, hd, h1, h2, h3, h4, q⟩ := h
  obtain ⟨u, rfl, rx⟩ := vals1 r
  obtain ⟨as, rr⟩ := hd.reads I d x u rx
  have fin : ∀ h' t tk, (∀ b o, s.heap.get? b = some o → h'.get? b = some o) → EP X pins σ Q (.str d.shown t) { s with heap := h', toks := tk } := fun h' t tk k => ⟨.str d.shown, H, I.kept k, ⟨t, rfl⟩, q⟩
  cases x with
  | ref a =>
    obtain rfl : u = Value.ref a := rx
    exact repr_of_reads' rr h1 (PyData.noDict_hsm h2) hga (by omega) (fun _ _ e => e) (fun h' t tk k => fin h' t tk k) h4
  | non =>
    cases hd
    obtain rfl : u = Value.none := rx
    exact PySem.P.repr_of_none (fin s.heap _ _ fun _ _ e => e)
  | bl b =>
    cases hd
    obtain rfl : u = Value.bool b := rx
    exact PySem.P.repr_of_bool (fin s.heap _ _ fun _ _ e => e)
  | int i =>
    cases hd
    obtain ⟨t, rfl⟩ := rx
    exact PySem.P.repr_of_int (of_decide_eq_true h1) (fin s.heap _ _ fun _ _ e => e)
  | str y =>
    cases hd
    obtain ⟨t, rfl⟩ := rx
    exact PySem.P.repr_of_str (fin s.heap _ _ fun _ _ e => e) h4
  | byt _ => cases hd
  | flt _ => cases hd
  | ty _ => cases hd
theorem cd_repr : CallD X P (rRepr X.K) cRepr := by
  intro β bx H xs ds z Q g r h k
  unfold cRepr at h
  split at h
  · split at h
    · rename_i d hc
      cases h
      simp only [Bool.and_eq_true, decide_eq_true_eq] at hc
      obtain ⟨v, rfl, r1⟩ := r.one
      exact ⟨v, _, rfl, r1.dpr g hc.1.1.1, hc.1.1.2, D.noDict _, hc.1.2, hc.2, k _ H .refl g (.str _)⟩
    · cases h
  · cases h
/-! ### tuple(range(a, b, c)) -/
def rng3 (a b c : Int) (n : Nat) : List V := (List.range n).map fun i => V.int (a + (i : Nat) * c)
def cTupRg : Sto → List D → Option D
  | _, [.int a, .int b, .int c] => if 0 < c ∧ c < 1073741824 ∧ -(2 ^ 40) < a ∧ a < 2 ^ 40 ∧ -(2 ^ 40) < b ∧ b < 2 ^ 40 ∧ Builtin.Range.rangeSize a b c ≤ 1000 then some (.tup ((List.range (Builtin.Range.rangeSize a b c).toNat).map fun i => D.int (a + (i : Nat) * c))) else none
  | _, _ => none
theorem range_nn {a b c : Int} (hc : 0 < c) : 0 ≤ Builtin.Range.rangeSize a b c := by
  unfold Builtin.Range.rangeSize
  rw [if_pos hc]
  split
  · have := Int.ediv_nonneg (a := b - a - 1) (b := c) (by omega) (by omega)
    omega
  · omega
theorem RA.rng {K : PySem.W.Frag} {β : Mu} {H : Hp} (f : Nat → Int) : ∀ l : List Nat, RA K β H (l.map fun i => V.int (f i)) (l.map fun i => D.int (f i))
  | [] => .nil
  | i :: r => .cons (.int _) (RA.rng f r)
theorem ra_three {K : PySem.W.Frag} {β : Mu} {H : Hp} {xs : List V} {d e f : D} (r : RA K β H xs [d, e, f]) : ∃ u v w, xs = [u, v, w] ∧ R K β H u d ∧ R K β H v e ∧ R K β H w f := by
  cases r with
  | cons a b =>
    obtain ⟨v, w, rfl, h1, h2⟩ := b.two
    exact ⟨_, _, _, rfl, a, h1, h2⟩
theorem small3 {a b c : Int} (hc : 0 < c) (h3 : c < 1073741824) (ha : -(2 ^ 40) < a) (ha' : a < 2 ^ 40) (hb : -(2 ^ 40) < b) (hb' : b < 2 ^ 40) (hs : Builtin.Range.rangeSize a b c ≤ 1000) : Builtin.Range.small a b c = true := by
  have h0 := range_nn (a := a) (b := b) hc
  have hm : Builtin.Range.rangeSize a b c * c ≤ 1000 * 1073741824 := by
    have h1 : Builtin.Range.rangeSize a b c * c ≤ 1000 * c := Int.mul_le_mul_of_nonneg_right hs (by omega)
    omega
  have hm0 : 0 ≤ Builtin.Range.rangeSize a b c * c := Int.mul_nonneg h0 (by omega)
  unfold Builtin.Range.small Builtin.Range.rangeFitsLong
  rw [if_pos hc]
  simp only [Bool.and_eq_true, Bool.or_eq_true, decide_eq_true_eq, beq_iff_eq]
  generalize Builtin.Range.rangeSize a b c = n at *
  refine ⟨⟨⟨⟨by omega, by omega⟩, by omega, by omega⟩, by omega, by omega⟩, .inr ⟨by omega, by omega⟩⟩
theorem ed_tupRg {x y z : Expr} {p p2 pos2 : Pos} (hc : X.calm = true) (g1 : Gl X "tuple") (m1 : X.mg "tuple" = none) (g2 : Gl X "range") (m2 : X.mg "range" = none) (ha : EA X P E [x, y, z] A)
    (h1 : starEach [x, y, z] X.env = (false, eval x X.env) :: starEach [y, z] X.env := by rfl) (h2 : (backTo pos2 (starEach [y, z] X.env)).any (·.1) = false := by rfl)
    (h3 : starEach [.Call (.Name "range" p2) [x, y, z] [] pos2] X.env = (false, eval (.Call (.Name "range" p2) [x, y, z] [] pos2) X.env) :: starEach [] X.env := by rfl) :
    ED X P E (.Call (.Name "tuple" p) [.Call (.Name "range" p2) [x, y, z] [] pos2] [] pos) (fA cTupRg A) := by
  refine ⟨fun pins s σ H Q I h => ?_⟩
  have h' : (tDA X.K P E A) σ H fun xs H1 => ∃ a b c : Int, xs = [V.int a, V.int b, V.int c] ∧ (0 < c ∧ c < 1073741824 ∧ -(2 ^ 40) < a ∧ a < 2 ^ 40 ∧ -(2 ^ 40) < b ∧ b < 2 ^ 40 ∧ Builtin.Range.rangeSize a b c ≤ 1000) ∧
      ∀ q, H1 q = none → Q (.ref q) (upd H1 q (.tup (rng3 a b c (Builtin.Range.rangeSize a b c).toNat))) := by
    refine ed_tA (f := cTupRg) (r := fun xs H1 Q => ∃ a b c : Int, xs = [V.int a, V.int b, V.int c] ∧ (0 < c ∧ c < 1073741824 ∧ -(2 ^ 40) < a ∧ a < 2 ^ 40 ∧ -(2 ^ 40) < b ∧ b < 2 ^ 40 ∧ Builtin.Range.rangeSize a b c ≤ 1000) ∧
      ∀ q, H1 q = none → Q (.ref q) (upd H1 q (.tup (rng3 a b c (Builtin.Range.rangeSize a b c).toNat)))) (fun β bx H xs ds z Q g r h k => ?_) σ H Q h
    unfold cTupRg at h
    split at h
    · rename_i a b c
      split at h
      · rename_i hb
        cases h
        obtain ⟨u, v, w, rfl, r1, r2, r3⟩ := ra_three r
        refine ⟨a, b, c, by rw [r1.int_inv, r2.int_inv, r3.int_inv], hb, fun q hq => k _ _ (.new hq) (g.new hq) (.tup ⟨.inl upd_same, g.ne hq⟩ ?_)⟩
        exact RA.rng (fun i => a + (i : Nat) * c) _
      · cases h
    · cases h
  refine Call_ (ld_blt I g1 m1 boot_tuple (PyProof.Rows.callWith_type1 (args_cons (thn (?_ : wpAny (model X.prog X.w) X.A (eval (.Call (.Name "range" p2) [x, y, z] [] pos2) X.env) (fun x s' => ∃ (r : Addr) (a b c : Int) (t u v : Tok) (H' : Hp), x = .ref r ∧ IsRange s'.heap r a b c t u v ∧ Inv X pins σ H' s' ∧
      (0 < c ∧ c < 1073741824 ∧ -(2 ^ 40) < a ∧ a < 2 ^ 40 ∧ -(2 ^ 40) < b ∧ b < 2 ^ 40 ∧ Builtin.Range.rangeSize a b c ≤ 1000) ∧ ∀ q, H' q = none → Q (.ref q) (upd H' q (.tup (rng3 a b c (Builtin.Range.rangeSize a b c).toNat)))) X.xe s) fun x s1 ⟨r, a, b, c, t, u, v, H1, ex, hr, I1, ok, q⟩ => args_nil ?_) h3) h3))
  · refine wpAny_Call_Name_kw (ld_blt I g2 m2 boot_range ?_)
    refine PyProof.Rows.callWith_type1 (thn (ha.run pos2 pins s σ H _ I h') fun us s1 ⟨vs, H1, I1, r1, a, b, c, ev, ok, q⟩ => ?_) h1 h2
    subst ev
    cases r1 with
    | cons ra rr =>
      cases rr with
      | cons rb rr =>
        cases rr with
        | cons rc rr =>
          cases rr
          obtain ⟨t, rfl⟩ := ra
          obtain ⟨u, rfl⟩ := rb
          obtain ⟨v, rfl⟩ := rc
          refine call_range_3 (by omega) ?_ (.inl (PyProof.noPylong_small (by omega)))
          exact ⟨_, a, b, c, t, u, v, H1, rfl, IsRange.new _ _ _ _ _ _ _, I1.kept fun b u e => Heap.get?_push_of_some _ e, ok, q⟩
  · subst ex
    obtain ⟨b1, b2, b3, b4, b5, b6, b7⟩ := ok
    have nn := range_nn (a := a) (b := b) b1
    refine call_tuple_range (n := (Builtin.Range.rangeSize a b c).toNat) (I1.ok.hd hc) hr (small3 b1 b2 b3 b4 b5 b6 b7) (by omega) (by omega) fun h' tk acc hk hi => ?_
    have I2 : Inv X pins σ H1 { s1 with heap := h', toks := tk } := I1.kept hk
    have hv : Vals (rng3 a b c (Builtin.Range.rangeSize a b c).toNat) acc.toList := by
      have e : acc.toList.length = (Builtin.Range.rangeSize a b c).toNat := by
        rw [Array.length_toList]
        exact hi.1
      unfold rng3
      rw [← e]
      exact vals_of_get acc.toList _ fun j u hj => hi.2 j u (by rw [← hj, Array.getElem?_toList])
    refine ⟨.ref h'.objs.size, upd H1 h'.objs.size (.tup (rng3 a b c (Builtin.Range.rangeSize a b c).toNat)), I2.laid (t' := tk) (fun c o e => Heap.get?_push_of_some _ e) (Nat.le_refl _) ?_, rfl, q _ (I2.hok.fresh (Nat.le_refl _))⟩
    refine ⟨?_, acc.toList, hv, ?_⟩
    · unfold rng3
      rw [List.length_map, List.length_range]
      exact le1000 (by omega)
    · rw [Array.toArray_toList]
      exact IsTup.new _ _
end
end Ms

end
section
set_option Elab.async false
set_option linter.all false
set_option maxRecDepth 100000
set_option maxHeartbeats 4000000
namespace Ms
open PySem PySem.Spec PyProof.Rows L2
/-! ### defs by their functions on data -/
def spD (K : PySem.W.Frag) (P : Pm) (n : Nat) (f : List D → Sto → Res D) : Sp := fun vs H Q E => ∃ β ds bx, vs.length = n ∧ RA K β H vs ds ∧ Good K P.T β bx H ∧ Out K P β H (f ds bx) Q E
theorem spD_len {K : PySem.W.Frag} {P : Pm} {n : Nat} {f : List D → Sto → Res D} : ∀ vs H Q E, spD K P n f vs H Q E → vs.length = n := fun _ _ _ _ ⟨_, _, _, h, _⟩ => h
theorem OutX.out {K : PySem.W.Frag} {P : Pm} {β : Mu} {H : Hp} {r : Res D} {Q : VK} {E : XK} (o : OutX P K β H r E fun d β' _ H' => ∀ v, R K β' H' v d → Q v H') : Out K P β H r Q E := by
  cases r with
  | ok d bx => exact fun β' v H' l g r => o β' H' l g v r
  | err c d bx => exact o
  | bad => exact o
def fCall (g : List D → Sto → Res D) (A : Fn (List D)) : Fn D := bnd A fun ds => fun _ bx => g ds bx
section
variable {X : Cx} {P : Pm} {E : XK} {pos : Pos} {a b : Expr} {F G : Fn D} {es : List Expr} {A : Fn (List D)}
variable {CX : CXT} {k n : Nat} {f : Addr} {fd : FuncData} {ps : List Str} {g : List D → Sto → Res D} {x : Str} {p : Pos} {e : Expr}
theorem ed_call (F : FnOk X.prog X.w X.K X.mg X.base CX k f fd ps (spD X.K P n g)) (hr : Room k X.A) (hg : Gl X x) (hm : X.mg x = some (.ref f)) (hk : PySem.W.keepIn X.K (.ref f) = true) (hb : Binds X.K fd ps []) (hx : Passes CX X E) (hn : (e :: es).length = n)
    (ha : EA X P E (e :: es) A) (hdb : (x == ("__debug__" : Str)) = false := by decide) (he : starEach (e :: es) X.env = (false, eval e X.env) :: starEach es X.env := by rfl) (hpl : (backTo pos (starEach es X.env)).any (·.1) = false := by rfl)
    (hA : ∀ δ bx ds bx', A δ bx = .ok ds bx' → ds.length = n) :
    ED X P E (.Call (.Name x p) (e :: es) [] pos) (fCall g A) := by
  refine pe_imp (pe_call F hr hg hm hk hb .nil hx ha hdb he hpl) ?_
  rintro σ H Q ⟨β, δ, bx, ev, gd, o⟩
  have o2 := x_bind o.x
  refine ⟨β, δ, bx, ev, gd, ?_⟩
  cases hF : A δ bx with
  | ok ds bx' =>
    rw [hF] at o2
    refine fun β' vs H' l g' r => ?_
    show spD X.K P n g (vs ++ []) H' Q E
    rw [List.append_nil]
    exact ⟨β', ds, bx', by rw [r.length]; exact hA _ _ _ _ hF, r, g', (o2 β' H' l g' l).out⟩
  | err c d bx' =>
    rw [hF] at o2
    exact o2
  | bad =>
    rw [hF] at o2
    exact o2
theorem bnd_ok {α γ : Type} {F : Fn α} {G : α → Fn γ} {δ : List (Option D)} {bx bx' : Sto} {a : α} (h : F δ bx = .ok a bx') : bnd F G δ bx = G a δ bx' := by unfold bnd; rw [h]
theorem bnd_err {α γ : Type} {F : Fn α} {G : α → Fn γ} {δ : List (Option D)} {bx bx' : Sto} {c : Str} {d : D} (h : F δ bx = .err c d bx') : bnd F G δ bx = .err c d bx' := by unfold bnd; rw [h]
theorem bnd_bad {α γ : Type} {F : Fn α} {G : α → Fn γ} {δ : List (Option D)} {bx : Sto} (h : F δ bx = .bad) : bnd F G δ bx = .bad := by unfold bnd; rw [h]
/-- how long a list of arguments is -/
theorem len_nil {δ bx ds bx'} (h : (pur [] : Fn (List D)) δ bx = .ok ds bx') : ds.length = 0 := by
  cases h
  rfl
theorem len_cons {F : Fn D} {A : Fn (List D)} {n : Nat} (hA : ∀ δ bx ds bx', A δ bx = .ok ds bx' → ds.length = n) : ∀ δ bx ds bx', fCons F A δ bx = .ok ds bx' → ds.length = n + 1 := by
  intro δ bx ds bx' h
  unfold fCons at h
  cases hF : F δ bx with
  | ok d bx1 =>
    rw [bnd_ok hF] at h
    cases h2 : A δ bx1 with
    | ok ds2 bx2 =>
      rw [bnd_ok h2] at h
      have := hA _ _ _ _ h2
      cases h
      rw [List.length_cons, this]
    | err c e bx2 => rw [bnd_err h2] at h; cases h
    | bad => rw [bnd_bad h2] at h; cases h
  | err c e bx1 => rw [bnd_err hF] at h; cases h
  | bad => rw [bnd_bad hF] at h; cases h
/-- keywords -/
abbrev EK (X : Cx) (P : Pm) (E : XK) (kws : List Keyword) (A : Fn (List D)) : Prop := PK X kws (tDA X.K P E A)
theorem pk_imp {kws : List Keyword} {t t' : TA} (h : PK X kws t) (k : ∀ σ H Q, t' σ H Q → t σ H Q) : PK X kws t' := ⟨fun pos pins s σ H Q I q => h.run pos pins s σ H Q I (k σ H Q q)⟩
variable {kws : List Keyword}
theorem ek_nil : EK X P E [] (pur []) := pk_imp pk_nil fun _ H _ ⟨β, _, _, _, g, o⟩ => o _ [] H .refl g .nil
theorem ek_cons {nm : Option Str} {kpos : Pos} (ha : ED X P E a F) (hr : EK X P E kws A) : EK X P E (⟨nm, a, kpos⟩ :: kws) (fCons F A) := by
  refine pk_imp (pk_cons ha hr) ?_
  rintro σ H Q ⟨β, δ, bx, ev, g, o⟩
  exact d_bind ev g o.x fun β1 bx1 x d H1 l1 g1 r1 o1 => a_bind (ev.le l1) g1 o1 fun β2 bx2 y e H2 l2 g2 r2 o2 => o2 _ H2 .refl g2 _ (.cons (r1.le l2) r2)
def pick {α : Type} (z : α) (π : List Nat) (l : List α) : List α := π.map fun i => l.getD i z
theorem vals_getD : ∀ {vs : List V} {us : List Value} (i : Nat), Vals vs us → L2.RelV (vs.getD i .non) (us.getD i .none)
  | _, _, i, .nil => by simp [L2.RelV]
  | _, _, 0, .cons r _ => by simpa using r
  | _, _, i + 1, .cons _ t => by simpa using vals_getD i t
theorem ra_getD {K : PySem.W.Frag} {β : Mu} {H : Hp} : ∀ {vs : List V} {ds : List D} (i : Nat), RA K β H vs ds → R K β H (vs.getD i .non) (ds.getD i .non)
  | _, _, i, .nil => by simpa using R.non
  | _, _, 0, .cons r _ => by simpa using r
  | _, _, i + 1, .cons _ t => by simpa using ra_getD i t
theorem vals_pick {vs : List V} {us : List Value} (r : Vals vs us) : ∀ π : List Nat, Vals (pick .non π vs) (pick .none π us)
  | [] => .nil
  | i :: π => .cons (vals_getD i r) (vals_pick r π)
theorem ra_pick {K : PySem.W.Frag} {β : Mu} {H : Hp} {vs : List V} {ds : List D} (r : RA K β H vs ds) : ∀ π : List Nat, RA K β H (pick .non π vs) (pick .non π ds)
  | [] => .nil
  | i :: π => .cons (ra_getD i r) (ra_pick r π)
def fCallK (g : List D → Sto → Res D) (π : List Nat) (A : Fn (List D)) : Fn D := bnd A fun ds => fun _ bx => g (pick .non π ds) bx
theorem ed_callK {ks : List Str} (π : List Nat) (F : FnOk X.prog X.w X.K X.mg X.base CX k f fd ps (spD X.K P n g)) (hr : Room k X.A) (hg : Gl X x) (hm : X.mg x = some (.ref f)) (hk : PySem.W.keepIn X.K (.ref f) = true)
    (hb : ∀ (s : Shared) (ws : List Value), X.K.In s.heap → ws.length = ks.length → BindsTo s fd ⟨[], ks.zip ws⟩ (ps.zip (pick .none π ws))) (hx : Passes CX X E) (hp : π.length = n) (hpn : ps.length = n)
    (ha : EK X P E kws A) (hA : ∀ δ bx ds bx', A δ bx = .ok ds bx' → ds.length = ks.length) (hall : (backToKw pos (keywordEach kws X.env)).all (·.1.isSome) = true := by rfl) (hks : (backToKw pos (keywordEach kws X.env)).filterMap (·.1) = ks := by rfl) (hdb : (x == ("__debug__" : Str)) = false := by decide)
    (hpl : ((backTo pos (starEach [] X.env)).any (·.1) || (backToKw pos (keywordEach kws X.env)).any (·.1.isNone)) = false := by rfl) :
    ED X P E (.Call (.Name x p) [] kws pos) (fCallK g π A) := by
  refine ⟨fun pins s σ H Q I h => ?_⟩
  obtain ⟨β, δ, bx, ev, gd, o⟩ := h
  have o2 := x_bind o.x
  have h' : (tDA X.K P E A) σ H fun zs H1 => ∃ β ds bx, zs.length = ks.length ∧ RA X.K β H1 zs ds ∧ Good X.K P.T β bx H1 ∧ Out X.K P β H1 (g (pick .non π ds) bx) Q E := by
    refine ⟨β, δ, bx, ev, gd, ?_⟩
    cases hF : A δ bx with
    | ok ds bx' =>
      rw [hF] at o2
      exact fun β' vs H' l g' r => ⟨β', ds, bx', by rw [r.length]; exact hA _ _ _ _ hF, r, g', (o2 β' H' l g' l).out⟩
    | err c d bx' =>
      rw [hF] at o2
      exact o2
    | bad =>
      rw [hF] at o2
      exact o2
  refine wpAny_Call_Name_kw (ld_glob I hg hm ?_ hdb)
  refine PySem.W.callWith_KW0 (h₀ := X.base) I.ok.mod.kin hk hall ?_ hpl
  refine thn (ha.run pos pins s σ H _ I h') fun ws s2 ⟨zs, H2, I2, rz, β2, ds, bx2, hl, ra, g2, o3⟩ => ⟨I2.kIn, ?_⟩
  rw [hks]
  have hl2 : ws.length = ks.length := by rw [← rz.length]; exact hl
  refine wpAny_call (codeAny_mono (F.run X.A X.stack s2 H2 ⟨[] ++ [], ks.zip ws⟩ (pick .none π ws) (pick .non π zs) Q E hr I2.env0 (hb s2 ws I2.kIn hl2) (vals_pick rz π) ⟨β2, pick .non π ds, bx2, by unfold pick; rw [List.length_map]; exact hp, ra_pick ra π, g2, o3⟩) fun r s' hq => ?_)
  cases r with
  | error e => exact hx pins σ H2 s2 e s' I2 hq
  | ok fl =>
    cases fl with
    | ret u => exact I2.after hq
    | next => exact False.elim hq
    | brk => exact False.elim hq
    | cont => exact False.elim hq
end

/-! ### statements -/
inductive Rs where
  | nx (δ : List (Option D)) (bx : Sto) | rt (d : D) (bx : Sto) | er (c : Str) (d : D) (bx : Sto) | bad
abbrev Sn := List (Option D) → Sto → Rs
def OutS (K : PySem.W.Frag) (P : Pm) (β : Mu) (H : Hp) (r : Rs) (Z : Ends) (E : XK) : Prop := match r with
  | .nx δ bx => ∀ β' σ' H', Le β H β' H' → Good K P.T β' bx H' → Ev K β' H' σ' δ → Z.nx σ' H'
  | .rt d bx => ∀ β' v H', Le β H β' H' → Good K P.T β' bx H' → R K β' H' v d → Z.rt v H'
  | .er c d bx => OutE K P β H c d bx E
  | .bad => False
theorem OutS.le {K : PySem.W.Frag} {P : Pm} {β β1 : Mu} {H H1 : Hp} {r : Rs} {Z : Ends} {E : XK} (l : Le β H β1 H1) (h : OutS K P β H r Z E) : OutS K P β1 H1 r Z E := by
  cases r with
  | nx δ bx => exact fun β' σ H' l' g r => h β' σ H' (l.trans l') g r
  | rt d bx => exact fun β' v H' l' g r => h β' v H' (l.trans l') g r
  | er c d bx => exact OutE.le l h
  | bad => exact h
def tDS (K : PySem.W.Frag) (P : Pm) (E : XK) (S : Sn) : TS := fun Z σ H => ∃ β δ bx, Ev K β H σ δ ∧ Good K P.T β bx H ∧ OutS K P β H (S δ bx) Z E
abbrev SD (X : Cx) (P : Pm) (E : XK) (s : Stmt) (S : Sn) : Prop := PS X s (tDS X.K P E S)
abbrev SSD (X : Cx) (P : Pm) (E : XK) (s : List Stmt) (S : Sn) : Prop := PSs X s (tDS X.K P E S)
/-- from an expression's end to a statement -/
def sOf {α : Type} (F : Fn α) (k : α → Sn) : Sn := fun δ bx => match F δ bx with
  | .ok a bx' => k a δ bx'
  | .err c d bx' => .er c d bx'
  | .bad => .bad
section
variable {K : PySem.W.Frag} {P : Pm} {E : XK} {β : Mu} {δ : List (Option D)} {bx : Sto} {σ : L2.St} {H : Hp} {Z : Ends}
theorem sd_bind {F : Fn D} {k : D → Sn} {Q1 : VK} (ev : Ev K β H σ δ) (g : Good K P.T β bx H) (o : OutS K P β H (sOf F k δ bx) Z E)
    (h : ∀ β1 bx' x d H1, Le β H β1 H1 → Good K P.T β1 bx' H1 → R K β1 H1 x d → OutS K P β1 H1 (k d δ bx') Z E → Q1 x H1) : tD K P E F σ H Q1 := by
  refine ⟨β, δ, bx, ev, g, ?_⟩
  unfold sOf at o
  cases hF : F δ bx with
  | ok d bx' =>
    rw [hF] at o
    exact fun β' v H' l g' r => h β' bx' v d H' l g' r (OutS.le l o)
  | err c d bx' =>
    rw [hF] at o
    exact o
  | bad =>
    rw [hF] at o
    exact o
theorem sa_bind {F : Fn (List D)} {k : List D → Sn} {Q1 : List V → Hp → Prop} (ev : Ev K β H σ δ) (g : Good K P.T β bx H) (o : OutS K P β H (sOf F k δ bx) Z E)
    (h : ∀ β1 bx' x d H1, Le β H β1 H1 → Good K P.T β1 bx' H1 → RA K β1 H1 x d → OutS K P β1 H1 (k d δ bx') Z E → Q1 x H1) : tDA K P E F σ H Q1 := by
  refine ⟨β, δ, bx, ev, g, ?_⟩
  unfold sOf at o
  cases hF : F δ bx with
  | ok d bx' =>
    rw [hF] at o
    exact fun β' v H' l g' r => h β' bx' v d H' l g' r (OutS.le l o)
  | err c d bx' =>
    rw [hF] at o
    exact o
  | bad =>
    rw [hF] at o
    exact o
theorem st_bind {F : Fn Bool} {k : Bool → Sn} {Q1 : Bool → Hp → Prop} (ev : Ev K β H σ δ) (g : Good K P.T β bx H) (o : OutS K P β H (sOf F k δ bx) Z E)
    (h : ∀ β1 bx' c H1, Le β H β1 H1 → Good K P.T β1 bx' H1 → OutS K P β1 H1 (k c δ bx') Z E → Q1 c H1) : tDT K P E F σ H Q1 := by
  refine ⟨β, δ, bx, ev, g, ?_⟩
  unfold sOf at o
  cases hF : F δ bx with
  | ok d bx' =>
    rw [hF] at o
    exact fun β' H' l g' => h β' bx' d H' l g' (OutS.le l o)
  | err c d bx' =>
    rw [hF] at o
    exact o
  | bad =>
    rw [hF] at o
    exact o
end
def sNext : Sn := fun δ bx => .nx δ bx
def sSeq (S T : Sn) : Sn := fun δ bx => match S δ bx with
  | .nx δ' bx' => T δ' bx'
  | .rt d bx' => .rt d bx'
  | .er c d bx' => .er c d bx'
  | .bad => .bad
def sSet (i : Nat) (F : Fn D) : Sn := sOf F fun d δ bx => .nx (δ.set i (some d)) bx
def sRet (F : Fn D) : Sn := sOf F fun d _ bx => .rt d bx
def sDrop (F : Fn D) : Sn := sOf F fun _ δ bx => .nx δ bx
def sIf (C : Fn Bool) (S T : Sn) : Sn := sOf C fun c => if c = true then S else T
def setAll : List Nat → List D → List (Option D) → Option (List (Option D))
  | [], [], δ => some δ
  | i :: is, d :: ds, δ => setAll is ds (δ.set i (some d))
  | _, _, _ => none
def sUnp (is : List Nat) (F : Fn D) : Sn := sOf F fun d δ bx => match (vs bx d).bind fun l => setAll is l δ with
  | some δ' => .nx δ' bx
  | none => .bad
def sPar (i j : Nat) (A : Fn (List D)) : Sn := sOf A fun ds δ bx => match ds with
  | [d, e] => .nx ((δ.set i (some d)).set j (some e)) bx
  | _ => .bad
section
variable {X : Cx} {P : Pm} {E : XK} {pos : Pos} {a b e : Expr} {F G : Fn D} {es : List Expr} {A : Fn (List D)} {C : Fn Bool} {S T : Sn} {st : Stmt} {ss tt : List Stmt}
theorem ssd_nil : SSD X P E [] sNext := pss_imp pss_nil fun Z σ H ⟨β, δ, bx, ev, g, o⟩ => o _ σ H .refl g ev
theorem ssd_cons (h1 : SD X P E st S) (h2 : SSD X P E ss T) : SSD X P E (st :: ss) (sSeq S T) := by
  refine pss_imp (pss_cons h1 h2) ?_
  rintro Z σ H ⟨β, δ, bx, ev, g, o⟩
  refine ⟨β, δ, bx, ev, g, ?_⟩
  unfold sSeq at o
  cases hF : S δ bx with
  | nx δ' bx' =>
    rw [hF] at o
    exact fun β' σ' H' l g' ev' => ⟨β', δ', bx', ev', g', OutS.le l o⟩
  | rt d bx' =>
    rw [hF] at o
    exact o
  | er c d bx' =>
    rw [hF] at o
    exact o
  | bad =>
    rw [hF] at o
    exact o
theorem ssd_one (h1 : SD X P E st S) : SSD X P E [st] (sSeq S sNext) := ssd_cons h1 ssd_nil
theorem sd_set (i : Nat) {x : Str} {p : Pos} (hN : X.N.Nodup) (hi : X.N[i]? = some x) (hx : Loc X.env.scope x) (he : ED X P E e F) (hs : swapsWith e (some (.Name x p)) pos.line X.env = pure false := by rfl) (hf : X.fn x = true ∨ X.env.scope.names.lookup x = some .local := by first | exact .inl rfl | exact .inr rfl | assumption) :
    SD X P E (.Assign [.Name x p] e pos) (sSet i F) := by
  refine ps_imp (ps_set hN hi hx he hs hf) ?_
  rintro Z σ H ⟨β, δ, bx, ev, g, o⟩
  exact sd_bind ev g o fun β1 bx' x d H1 l1 g1 r1 o1 => o1 _ _ H1 .refl g1 ((ev.le l1).set i r1)
theorem sd_ret (he : ED X P E e F) : SD X P E (.Return (some e) pos) (sRet F) := by
  refine ps_imp (ps_ret he) ?_
  rintro Z σ H ⟨β, δ, bx, ev, g, o⟩
  exact sd_bind ev g o fun β1 bx' x d H1 l1 g1 r1 o1 => o1 _ _ H1 .refl g1 r1
theorem sd_if {c : Expr} (hc : ET X P E c C) (h1 : SSD X P E ss S) (h2 : SSD X P E tt T) : SD X P E (.If c ss tt pos) (sIf C S T) := by
  refine ps_imp (ps_if hc h1 h2) ?_
  rintro Z σ H ⟨β, δ, bx, ev, g, o⟩
  refine st_bind ev g o fun β1 bx' c H1 l1 g1 o1 => ?_
  cases c with
  | true => exact iteT ⟨β1, δ, bx', ev.le l1, g1, by simpa using o1⟩
  | false => exact iteF ⟨β1, δ, bx', ev.le l1, g1, by simpa using o1⟩
theorem sd_par (i j : Nat) {x y : Str} {px py pt : Pos} {kt k2 pt2} (hc : X.calm = true) (hN : X.N.Nodup) (hi : X.N[i]? = some x) (hj : X.N[j]? = some y) (hij : i ≠ j)
    (hx : X.env.scope.names.lookup x = some .local) (hy : X.env.scope.names.lookup y = some .local) (ha : EA X P E [a, b] A)
    (hw : swappedStores [.Tuple [.Name x px, .Name y py] kt pt] (.Tuple [a, b] k2 pt2) X.env = pure (some [x, y]))
    (hs : swapsWithSole [.Tuple [.Name x px, .Name y py] kt pt] (.Tuple [a, b] k2 pt2) pos.line X.env = pure false := by rfl) :
    SD X P E (.Assign [.Tuple [.Name x px, .Name y py] kt pt] (.Tuple [a, b] k2 pt2) pos) (sPar i j A) := by
  refine ps_imp (ps_par hc hN hi hj hij hx hy ha hw hs) ?_
  rintro Z σ H ⟨β, δ, bx, ev, g, o⟩
  refine sa_bind ev g o fun β1 bx' x ds H1 l1 g1 r1 o1 => ?_
  split at o1
  · obtain ⟨v, w, rfl, h1, h2⟩ := r1.two
    exact ⟨v, w, rfl, o1 _ _ H1 .refl g1 (((ev.le l1).set i h1).set j h2)⟩
  · exact o1.elim
/-- names one behind another -/
def tNames : List Nat → TGs
  | [] => gNil
  | i :: is => gCons (gName i) (tNames is)
theorem tNames_of {K : PySem.W.Frag} {β : Mu} {H : Hp} {Z : L2.St → Hp → Prop} : ∀ {is : List Nat} {ds : List D} {δ δ' : List (Option D)} {vs : List V} {σ : L2.St}, setAll is ds δ = some δ' → RA K β H vs ds → Ev K β H σ δ → (∀ σ', Ev K β H σ' δ' → Z σ' H) → tNames is vs σ H Z
  | [], [], δ, δ', vs, σ, h, r, ev, k => by
    cases r
    cases h
    exact ⟨rfl, k σ ev⟩
  | [], _ :: _, _, _, _, _, h, _, _, _ => by cases h
  | _ :: _, [], _, _, _, _, h, _, _, _ => by cases h
  | i :: is, d :: ds, δ, δ', _, σ, h, .cons (v := v) (vs := vs) r ra, ev, k => ⟨v, vs, rfl, tNames_of (is := is) h ra (ev.set i r) k⟩
theorem setAll_len : ∀ {is : List Nat} {ds : List D} {δ δ' : List (Option D)}, setAll is ds δ = some δ' → ds.length = is.length
  | [], [], _, _, _ => rfl
  | [], _ :: _, _, _, h => by cases h
  | _ :: _, [], _, _, h => by cases h
  | i :: is, d :: ds, δ, δ', h => by
    rw [List.length_cons, List.length_cons, setAll_len (is := is) h]
theorem pg_or {tg : Expr} {t u : TG} (h1 : PG X tg t) (h2 : PG X tg u) : PG X tg (fun v σ H Q => t v σ H Q ∨ u v σ H Q) :=
  ⟨fun pins s σ H v w Q I r h => h.elim (fun h => h1.run pins s σ H v w Q I r h) (fun h => h2.run pins s σ H v w Q I r h)⟩
theorem sd_unp (is : List Nat) {kk : Nat} {p : Pos} {tgs : List Expr} (hc : X.calm = true) (ht : PGs X tgs (tNames is)) (hl : is.length = tgs.length) (he : ED X P E e F)
    (hn : (assignEach tgs X.env).length = is.length := by rfl) (hst : (assignEach tgs X.env).findIdx? (·.1) = none := by rfl)
    (hs : swapsWithSole [.Tuple tgs kk p] e pos.line X.env = pure false := by rfl) (hw : swappedStores [.Tuple tgs kk p] e X.env = pure none := by rfl) (h1 : (assignEach [.Tuple tgs kk p] X.env).map (·.2) = [assign (.Tuple tgs kk p) X.env] := by rfl) :
    SD X P E (.Assign [.Tuple tgs kk p] e pos) (sUnp is F) := by
  refine ps_imp (ps_asg he (pg_or (pg_tup hc ht hn hst) (pg_lst hc ht hn hst)) hs hw h1) ?_
  rintro Z σ H ⟨β, δ, bx, ev, g, o⟩
  refine sd_bind ev g o fun β1 bx' x d H1 l1 g1 r1 o1 => ?_
  split at o1
  · rename_i δ' hδ
    cases hl : vs bx' d with
    | none => rw [hl] at hδ; cases hδ
    | some l =>
      rw [hl] at hδ
      replace hδ : setAll is l δ = some δ' := hδ
      obtain ⟨a, xs, rfl, s, ra⟩ := r1.vs g1 hl
      rcases s with s | s
      · exact .inr ⟨_, _, rfl, s, by rw [ra.length]; exact setAll_len hδ, tNames_of hδ ra (ev.le l1) fun σ' ev' => o1 _ σ' H1 .refl g1 ev'⟩
      · exact .inl ⟨_, _, rfl, s, by rw [ra.length]; exact setAll_len hδ, tNames_of hδ ra (ev.le l1) fun σ' ev' => o1 _ σ' H1 .refl g1 ev'⟩
  · exact o1.elim
end

/-! ### a def of the text keeps the promise -/
def fnD (N : List Str) (S : Sn) : List D → Sto → Res D := fun ds bx => match S (ds.map some ++ List.replicate (N.length - ds.length) none) bx with
  | .nx _ bx' => .ok .non bx'
  | .rt d bx' => .ok d bx'
  | .er c d bx' => .err c d bx'
  | .bad => .bad
def noErr : Res D → Res D
  | .ok d bx => .ok d bx
  | _ => .bad
theorem ev_start {K : PySem.W.Frag} {β : Mu} {H : Hp} {N : List Str} {vs : List V} {ds : List D} (r : RA K β H vs ds) : Ev K β H (L2.start N vs) (ds.map some ++ List.replicate (N.length - ds.length) none) := by
  refine ⟨by unfold L2.start; rw [r.length]; simp [r.length], fun i d h => ?_⟩
  by_cases hi : i < ds.length
  · rw [List.getElem?_append_left (by simpa using hi), List.getElem?_map] at h
    cases hd : ds[i]? with
    | none => rw [hd] at h; cases h
    | some d' =>
      rw [hd] at h
      cases h
      obtain ⟨v, h1, h2⟩ := r.get hd
      refine ⟨v, ?_, h2⟩
      unfold L2.start
      rw [List.getElem?_append_left (by rw [List.length_map, r.length]; exact hi), List.getElem?_map, h1]
      rfl
  · rw [List.getElem?_append_right (by simpa using hi)] at h
    have := List.mem_of_getElem? h
    rw [List.mem_replicate] at this
    cases this.2
theorem fn_end {K : PySem.W.Frag} {P : Pm} {N : List Str} {S : Sn} {vs : List V} {H : Hp} {Q : VK} {E : XK} {n : Nat} (h : spD K P n (fnD N S) vs H Q E) : tDS K P E S { nx := fun _ H' => Q .non H', rt := Q } (L2.start N vs) H := by
  obtain ⟨β, ds, bx, hl, r, g, o⟩ := h
  refine ⟨β, _, bx, ev_start r, g, ?_⟩
  unfold fnD at o
  cases hS : S (ds.map some ++ List.replicate (N.length - ds.length) none) bx with
  | nx δ bx' =>
    rw [hS] at o
    exact fun β' σ' H' l g' ev => o _ .non H' l g' .non
  | rt d bx' =>
    rw [hS] at o
    exact o
  | er d bx' =>
    rw [hS] at o
    exact o
  | bad =>
    rw [hS] at o
    exact o
section
variable {Pg : Program} {w : World} {K : PySem.W.Frag} {mg : Str → Option Value} {base : Heap} {P : Pm}
/-- a def that raises nothing -/
theorem fn_ok {x qual : Str} {st : Stmt} {f : Addr} {fd : FuncData} {N ps : List Str} {k n : Nat} {S : Sn} (F : Fun K x qual st f fd) (sc : FnScope N ps (defScope st)) (hn : ps.length = n)
    (hb : ∀ (cdv : Value) (A : Around) (outer : List Env) (s : Shared) (H : Hp), Room k (A.deeper (envOfC qual (defScope st) s.heap.objs.size f cdv)) →
      SSD (cxOf CX0 Pg w K mg base N qual (defScope st) f cdv A outer s H E0).nox P E0 (defBody st) S) : FnOk Pg w K mg base CX0 (k + 1) f fd ps (spD K P n fun ds bx => noErr (fnD N S ds bx)) := by
  refine F.ok sc (fun vs H Q E h => (spD_len _ _ _ _ h).trans hn.symm) fun cdv A outer s H vs Q E hr h => ?_
  have hs : spD K P n (fnD N S) vs H Q E0 := by
    obtain ⟨β, ds, bx, h1, h2, h3, o⟩ := h
    refine ⟨β, ds, bx, h1, h2, h3, ?_⟩
    replace o : Out K P β H (noErr (fnD N S ds bx)) Q E := o
    cases hF : fnD N S ds bx with
    | ok d bx' =>
      rw [hF] at o
      exact o
    | err c d bx' =>
      rw [hF] at o
      exact o.elim
    | bad =>
      rw [hF] at o
      exact o
  exact ⟨tDS K P E0 S, (hb cdv A outer s H hr), fn_end hs⟩
end
end Ms

end
section
set_option Elab.async false
set_option linter.all false
set_option maxRecDepth 100000
set_option maxHeartbeats 4000000
namespace PySem
namespace RefX
open PySem.W PySem.Calls PyProof.Rows PySem.HandSPX
/-! ### the text of __init__ -/
def iA (p1 p2 : Pos) : Arguments := { posonlyargs := [], args := [{ arg := "self", annotation := none, pos := p1 }, { arg := "at", annotation := none, pos := p2 }], vararg := none, kwonlyargs := [], kw_defaults := [], kwarg := none, defaults := [] }
def iB (q1 q2 q3 q4 : Pos) : List Stmt := [.Assign [.Attribute (.Name "self" q1) "at" q2] (.Name "at" q3) q4]
def iS : Scope := { kind := .function, names := [(PySem.Str.ofString "self", .local), (PySem.Str.ofString "at", .local)], isGenerator := false, isCoroutine := false, more := [] }
/-- what the written part says of Low, at C, and of its __init__, at fI -/
structure LowTxt (cn qn : Str) (K : Frag) (mg : Str → Option Value) (C fI : Addr) : Prop where
  gC : mg cn = some (.ref C)
  cls : ∃ nm q N bs bm sn sub ab col dd k0 k1 k2 k3 k5, K.lookup C = some (excClassObj nm q C N bs bm true sn sub ab col dd k0 k1 k2 k3 k5 "ValueError.__new__") ∧ refsVE bm = true
  sa : findIn K (.ref C) "__setattr__" = some (some (.builtin "object.__setattr__"))
  ga : findIn K (.ref C) "__getattribute__" = some (some (.builtin "BaseException.__getattribute__"))
  gg : findIn K (.ref C) "__getattr__" = some none
  noN : findIn K (.ref C) "at" = some none
  iC : findIn K (.ref C) "__init__" = some (some (.ref fI))
  tC : typeIn K (.ref fI) = some (.type "function")
  kC : keepIn K (.ref C) = true
  exC : subIn K (.ref C) (.type "BaseException") = some true
  tyC : typeIn K (.ref C) = some (.type "type")
  hdC : hasDictIn K C = true
  te : exmOne K (.ref C) (.ref C) = some true
  fn : ∃ (oc : Value) (od : Option Addr) (doc pm : Value) (an : Option Addr) (cdv ct : Value) (osl : Array (Option Value)) (p1 p2 q1 q2 q3 q4 : Pos),
    K.lookup fI = some ⟨oc, od, .func (fnOf "__init__" qn (iA p1 p2) (iB q1 q2 q3 q4) iS .none .none doc pm an cdv ct), osl⟩ ∧ codeIn K cdv qn = true
theorem one_size (v : Value) : [v].length ≤ sizeLine := by
  rw [sizeLine_eq]
  exact (by decide : 1 ≤ 16777216)
theorem kept_but {K : Frag} {h h' : Heap} {x : Addr} (X : K.In h) (hx : K.lookup x = none) (k : ∀ b o, b ≠ x → h.get? b = some o → h'.get? b = some o) : K.In h' := fun a o e =>
  k a o (fun z => by rw [z, hx] at e; cases e) (X a o e)
theorem ldC {M : Model} {s : Shared} {name : Str} {scope : Scope} {L a : Addr} {cd : Value} {m : Str → Option Value} {x : Str} {pos : Pos} {v : Value} {Q : Value → Shared → Prop} {A : Around} {E : Value → Shared → Prop} (hn : s.heap.Ns L m) (hv : m x = some v) (h : Q v s)
    (hk : scope.kind = .function := by rfl) (hl : (envOfC name scope L a cd).kindOf x = some .local := by rfl) (hd : (x == ("__debug__" : Str)) = false := by decide) :
    wpAny M A (eval (.Name x pos) (envOfC name scope L a cd)) Q E s := wpAny_Name (wpAny_loadName_local hk hl hn hv h) hd
/-- what __init__ leaves of a fresh exception at x -/
structure InitEnd (h h' : Heap) (x C dx t1 : Addr) (v : Value) : Prop where
  keep : ∀ b o, b ≠ x → h.get? b = some o → h'.get? b = some o
  obj : h'.get? x = some { cls := .ref C, dict := some dx, data := .fields #[.ref t1, .none, .none, .none, .bool false, .none] }
  dbig : h.objs.size ≤ dx
  dne : dx ≠ x
  ns : h'.Ns1 dx (fun y => if y = "at" then some v else none)
/-- a made Low -/
structure OwnMade (h h' : Heap) (e C d : Addr) (v : Value) : Prop where
  keep : ∀ b o, h.get? b = some o → h'.get? b = some o
  new : h.objs.size ≤ e
  obj : ∃ oe vs, h'.get? e = some oe ∧ oe.cls = .ref C ∧ oe.dict = some d ∧ oe.data = .fields vs ∧ vs[1]? = some .none
  dbig : h.objs.size ≤ d
  dne : d ≠ e
  ns : h'.Ns1 d (fun y => if y = "at" then some v else none)
section
variable {prog : Program} {w : World} {A : Around} {E : Value → Shared → Prop} {R : Result → Shared → Prop} {s : Shared} {K : Frag} {mg : Str → Option Value} {C fI : Addr} {cn qn : Str}
theorem low_init (T : LowTxt cn qn K mg C fI) {x t0 : Addr} {v : Value} (X : K.In s.heap) (hlim : s.heap.NoLimit) (hx : s.heap.get? x = some (excO C t0)) (hnx : K.lookup x = none) (hroom : A.depth < recursionLimit)
    (hq : ∀ h' tk dx, InitEnd s.heap h' x C dx t0 v → R (.ok (.ret .none)) { s with heap := h', toks := tk }) :
    codeAny (model prog w) A (.call (.ref fI) ⟨[.ref x, v], []⟩) R s := by
  obtain ⟨oc, od, doc, pm, an, cdv, ct, osl, p1, p2, q1, q2, q3, q4, ho, hcd⟩ := T.fn
  obtain ⟨nm, q, N, bs, bm, sn, sub, ab, col, dd, k0, k1, k2, k3, k5, hC, hbm⟩ := T.cls
  have hcl : clsIn K C = some { name := nm, bases := bs, mro := .ref C :: bm, ns := N, qualname := q, hasDict := true, slotNames := sn, subclasses := sub, abstract := ab, collection := col, hasDel := false } := by unfold clsIn; rw [hC] <;> rfl
  refine Att.call_fn (binds := [("self", .ref x), ("at", v)]) X hlim ho hcd hroom (BindsTo.of_eq (by first | rfl | with_unfolding_all rfl)) (by first | rfl | decide | with_unfolding_all rfl) (fun s₁ IC => ?_) rfl rfl rfl
  obtain ⟨h₁, tk₁, rfl⟩ := IC.toInCall.same
  have k : ∀ b o, s.heap.get? b = some o → h₁.get? b = some o := IC.toInCall.keep
  have hn := IC.toInCall.ns
  have hxL : s.heap.objs.size ≠ x := Nat.ne_of_gt (Heap.lt_size hx)
  have X₁ : K.In h₁ := X.keeps k
  have hx₁ := k _ _ hx
  -- self.by = by
  show wpAny _ _ (execs _ _) _ _ _
  refine wpAny_execs_cons (plainObj_wpAny_Assign_Attribute ?_)
  refine ldC (v := v) hn (by first | rfl | with_unfolding_all rfl | kernel_rfl) (ldC (v := .ref x) hn (by first | rfl | with_unfolding_all rfl | kernel_rfl) ?_)
  refine set_plain X₁ (ox := excO C t0) (od := none) ⟨hx₁, rfl, rfl, trivial⟩ T.sa ?_
  refine exc_osa X₁ hx₁ hcl (show refsVE (.ref C :: bm) = true from hbm) rfl T.noN (fun h₃ tk₃ dx k₃ dn dne hx₃ hn₃ => ?_)
  show wpAny _ _ (execs _ _) _ _ _
  have z : s.heap.objs.size < h₁.objs.size := hn.lt
  exact wpAny_execs_nil (hq h₃ tk₃ dx ⟨fun b o hb e => k₃ b o hb (k b o e), hx₃, Nat.le_of_lt (Nat.lt_of_lt_of_le z dn), dne, hn₃⟩)
theorem low_made (T : LowTxt cn qn K mg C fI) {v : Value} (X : K.In s.heap) (hlim : s.heap.NoLimit) (hroom : A.depth + 1 < recursionLimit)
    (hq : ∀ h' tk e d, OwnMade s.heap h' e C d v → R (.ok (.ret (.ref e))) { s with heap := h', toks := tk }) :
    codeAny (model prog w) A (.call (.ref C) ⟨[v], []⟩) R s := by
  obtain ⟨nm, q, N, bs, bm, sn, sub, ab, col, dd, k0, k1, k2, k3, k5, hC, hbm⟩ := T.cls
  obtain ⟨hp, g, dr, tk, os⟩ := s
  have k : ∀ b o, hp.get? b = some o → ((hp.push (kdv_tup [v])).push (excO C hp.objs.size)).get? b = some o := fun b o e => Heap.get?_push_of_some _ (Heap.get?_push_of_some _ e)
  have hget : ((hp.push (kdv_tup [v])).push (excO C hp.objs.size)).get? (hp.objs.size + 1) = some (excO C hp.objs.size) := by heap_get
  have hnx : K.lookup (hp.objs.size + 1) = none := by
    cases e : K.lookup (hp.objs.size + 1) with
    | none => rfl
    | some o =>
      have z : hp.get? (hp.objs.size + 1) = some o := X _ _ e
      exact absurd (Nat.lt_of_succ_lt (Heap.lt_size z)) (Nat.lt_irrefl _)
  refine call_own F.excBase_ValueError (fun X => refsVE_contains X bm hbm) (X _ _ hC) (looks_findIn X T.iC) (fun self => bind_fn X self T.tC) (one_size v) ?_
  refine low_init (s := ⟨(hp.push (kdv_tup [v])).push (excO C hp.objs.size), g, dr, tk, os⟩) T (X.keeps k) (hlim.keeps k) hget hnx ?_ fun h' tk' dx ⟨k', hx, dn, dne, hns⟩ => ?_
  · show A.depth + 1 < recursionLimit
    exact hroom
  · have old : ∀ b o, hp.get? b = some o → h'.get? b = some o := fun b o e => k' b o (Nat.ne_of_lt (Nat.lt_succ_of_lt (Heap.lt_size e))) (k b o e)
    have z : hp.objs.size + 1 + 1 ≤ dx := by
      first
        | (simpa only [Heap.size_push] using dn)
        | exact dn
        | (have q := dn; rw [Heap.size_push, Heap.size_push] at q; exact q)
    exact ⟨rfl, hq h' tk' (hp.objs.size + 1) dx ⟨old, Nat.le_succ _, ⟨_, _, hx, rfl, rfl, rfl, rfl⟩, Nat.le_trans (Nat.le_trans (Nat.le_succ _) (Nat.le_succ _)) z, dne, hns⟩⟩
end
end RefX
end PySem
namespace L2
open PySem PySem.Spec PyProof.Rows
theorem relO_low {v : V} {v' : Value} (r : RelV v v') (f : Str) : RelO (List.lookup f [(("at" : Str), v)]) (if f = "at" then some v' else none) := by
  by_cases hw : f = "at"
  · subst hw
    rw [if_pos rfl]
    have q : List.lookup ("at" : Str) [(("at" : Str), v)] = some v := by simp [List.lookup]
    rw [q]
    exact r
  · rw [if_neg hw]
    have qw : (f == ("at" : Str)) = false := by simpa using hw
    have q2 : List.lookup f [(("at" : Str), v)] = none := by simp [List.lookup, qw]
    rw [q2]
    trivial
section
variable {X : Cx} {C fI : Addr} {cn qn : Str}
/-- Low(e) -/
def tMkLow (C : Addr) (ta : TA) : St → Hp → XK → Prop := fun σ H Q => ta σ H fun vs H1 => ∃ v, vs = [v] ∧ ∀ d, H1 d = none → Q (.ref C) (some d) (upd H1 d (.xd [(("at" : Str), v)]))
theorem pmk_low {a : Expr} {ta : TA} {p pos : Pos} {k : Nat} (T : PySem.RefX.LowTxt cn qn X.K X.mg C fI) (hr : Room k X.A) (ha : PA X [a] ta) (hg : Gl X cn := by rfl) (hdb : (cn == ("__debug__" : Str)) = false := by decide)
    (he : starEach (a :: []) X.env = (false, eval a X.env) :: starEach [] X.env := by rfl) (hpl : (backTo pos (starEach [] X.env)).any (·.1) = false := by rfl) :
    PMk X (.Call (.Name cn p) [a] [] pos) (tMkLow C ta) := by
  intro pins s σ H Q I h
  refine wpAny_Call_Name_kw (ld_glob I hg T.gC ?_ hdb)
  refine PySem.W.callWith_K (h₀ := X.base) I.ok.mod.kin T.kC (thn (ha.run pos pins s σ H _ I h) fun us s1 hh => ?_) he hpl
  obtain ⟨vs, H1, I1, r1, v, ev, q1⟩ := hh
  subst ev
  refine ⟨I1.kIn, ?_⟩
  cases r1 with
  | cons rv rn =>
    rename_i v' us'
    cases rn
    show wpAny _ _ (call (.ref C) [v']) _ _ _
    have hlim := I1.nolimit
    obtain ⟨hp, g, dr, tk, os⟩ := s1
    refine wpAny_call (PySem.RefX.low_made T I1.kIn hlim (by have := hr.dp; omega) fun h' tk' e d M => ?_)
    show MkP X pins σ Q (.ref e) ⟨h', g, dr, tk', os⟩
    obtain ⟨oe, fv, hoe, hc, hd, hdat, h1⟩ := M.obj
    have hns := M.ns
    obtain ⟨G', g1, g2⟩ := restrict h' fun b => decide (b ≠ e)
    have gk : ∀ b, b ≠ e → G'.get? b = h'.get? b := fun b hb => g1 b (decide_eq_true hb)
    have ge : G'.get? e = none := g2 e (by simp)
    have old : ∀ b o, hp.get? b = some o → G'.get? b = some o := fun b o q => (gk b (Nat.ne_of_lt (Nat.lt_of_lt_of_le (Heap.lt_size q) M.new))).trans (M.keep b o q)
    have ob : ObjOk X.prog X.w (upd H1 d (.xd [(("at" : Str), v)])) G' d (.xd [(("at" : Str), v)]) :=
      ⟨_, hns.at (fun o q => (gk d M.dne).trans q), fun f => relO_low rv f⟩
    have J : Inv X pins σ (upd H1 d (.xd [(("at" : Str), v)])) ⟨G', g, dr, tk', os⟩ := I1.laid (t' := tk') old M.dbig ob
    refine ⟨e, oe, fv, ⟨G', g, dr, tk', os⟩, _, .ref C, some d, rfl, J, fun b o q => ?_, ge, hoe, ⟨hc, hd⟩, hdat, h1, ?_, rfl, I1.bare, raises_own T.exC T.tyC, q1 d (I1.hok.fresh M.dbig)⟩
    · by_cases hb : b = e
      · have q' : G'.get? b = some o := q
        rw [hb, ge] at q'; cases q'
      · exact (gk b hb).symm.trans q
    · rw [upd_ne (Ne.symm M.dne)]
      exact I1.hok.fresh M.new
/-- raise Low(e) -/
def tRaiseLow (C : Addr) (W : WX) (ta : TA) : TS := fun _ σ H => tMkLow C ta σ H fun cls d H' => W cls d σ H'
theorem ps_raiseLow {a : Expr} {ta : TA} {W : WX} {p pos pos2 : Pos} {k : Nat} (hc : X.calm = true) (T : PySem.RefX.LowTxt cn qn X.K X.mg C fI) (hr : Room k X.A) (tk : Takes X W) (ha : PA X [a] ta) (hg : Gl X cn := by rfl) (hdb : (cn == ("__debug__" : Str)) = false := by decide)
    (he : starEach (a :: []) X.env = (false, eval a X.env) :: starEach [] X.env := by rfl) (hpl : (backTo pos (starEach [] X.env)).any (·.1) = false := by rfl) :
    PS X (.Raise (some (.Call (.Name cn p) [a] [] pos)) none pos2) (tRaiseLow C W ta) := ps_raise hc tk (pmk_low T hr ha hg hdb he hpl)
/-- low.by, low the exception that the suite holds (at a; its class cls, its dict d) -/
def tByLow (C : Addr) (a : Addr) (cls : Value) (d : Option Addr) (te : TE) : TE := fun σ H Q => te σ H fun x H1 => x = .ref a ∧ cls = .ref C ∧ ∃ (dd : Addr) (v : V), d = some dd ∧ H1 dd = some (.xd [(("at" : Str), v)]) ∧ Q v H1
theorem pe_byLow {a : Addr} {oe : Obj} {cls : Value} {d : Option Addr} {pn : List (Addr × Obj)} {e : Expr} {te : TE} {pos : Pos} (T : PySem.RefX.LowTxt cn qn X.K X.mg C fI) (hz : Zc cls d oe) (hf : ∃ vs, oe.data = .fields vs) (he : PE (X.suite a ((a, oe) :: pn)) e te)
    (hb : attributeBase e "at" X.env (eval e X.env) = eval e X.env := by rfl) :
    PE (X.suite a ((a, oe) :: pn)) (.Attribute e "at" pos) (tByLow C a cls d te) := by
  refine ⟨fun pins s σ H Q I h => ?_⟩
  refine attr_of hb (thn (he.run pins s σ H _ I h) fun u s1 hh => ?_)
  obtain ⟨x, H1, I1, rx, ex, ec, dd, v, ed, ea, q⟩ := hh
  subst ex
  obtain rfl : u = Value.ref a := rx
  subst ec
  subst ed
  obtain ⟨ha, _⟩ := I1.pin (a, oe) (List.mem_append_left _ List.mem_cons_self)
  obtain ⟨vs, hd⟩ := hf
  have hx : ObjOk X.prog X.w H1 s1.heap dd (.xd [(("at" : Str), v)]) := I1.hok dd _ ea
  obtain ⟨mA, hns, hr⟩ := hx
  obtain ⟨od, ho, hl⟩ := lookIn_ns hns
  have l : List.lookup ("at" : Str) [(("at" : Str), v)] = some v := by simp [List.lookup]
  obtain ⟨u, hu, ru⟩ := RelO.some_of (v := v) (o := mA "at") (by rw [← l]; exact hr "at")
  have J : PySem.W.InstAt s1.heap a oe C (some od) := ⟨ha, hz.1, by unfold PySem.W.notCls; rw [hd] <;> rfl, by rw [hz.2]; exact ho⟩
  exact HandSPX.exc_get I1.kIn J T.ga T.gg T.exC (PySem.W.findObj_own T.hdC T.noN rfl (by rw [hl, hu])) (handed_of ru) ⟨v, H1, I1.tok _, ru, q⟩
end
end L2

end
section
set_option Elab.async false
set_option linter.all false
set_option maxRecDepth 100000
set_option maxHeartbeats 4000000
namespace Ms
open PySem PySem.Spec PyProof.Rows L2
open PySem.W (Frag kitOne kit_cls)
/-! ### isinstance that is true, of an exception with its own dict -/
theorem kit_true {K : Frag} {x t c : Value} {Z : Heap → Prop} (ty : ∀ (M : Model) (h : Heap), K.In h → Z h → PySem.W.Looks M h (typeOf x) t) (ne : (t == c) = false) (e : kitOne K t c = some true) :
    Answers (fun s => K.In s.heap ∧ Z s.heap) x c true := by
  rintro dep tk prog w A R ⟨h0, g, d, tt, os⟩ ⟨⟨X, p⟩, hq⟩
  have LT := ty (model prog w) h0 X p
  unfold kitOne at e
  rw [if_neg (by rw [ne]; exact Bool.false_ne_true)] at e
  obtain ⟨hty, his, hsub⟩ := kit_cls (M := model prog w) X e
  have LI : PySem.W.Looks (model prog w) h0 (isInstance x c) true := LT.andThen hsub
  unfold Builtin.«isinstance.nested»
  refine wpAny_bind (LT.at ?_)
  rw [if_neg (by rw [ne]; exact Bool.false_ne_true)]
  refine wpAny_bind (hty.at ?_)
  rw [if_pos (by decide)]
  k_delta "plainIsInstance"
  refine wpAny_bind (wpAny_bind (his.at ?_))
  simp only [Bool.not_true, Bool.false_eq_true, if_false]
  refine wpAny_bind (LI.at ?_)
  first
    | exact wpAny_pure (wpAny_pure (hq tt))
    | (simp only [if_true]; first | exact wpAny_pure (wpAny_pure (hq tt)) | exact wpAny_pure (hq tt) | exact wpAny_bind (wpAny_pure (wpAny_pure (hq tt))))
theorem call_isX {X : Cx} {a C B : Addr} {cls : Value} {d : Option Addr} {oe : Obj} {pn : List (Addr × Obj)} (hz : Zc cls d oe) (hf : ∃ vs, oe.data = .fields vs) (hne : C ≠ B) (hk : kitOne X.K (.ref C) (.ref B) = some true) :
    CallR (X.suite a ((a, oe) :: pn)) (.builtin "isinstance") (fun xs H Q => xs = [.ref a, .ref B] ∧ cls = .ref C ∧ (∃ dd fs, d = some dd ∧ H dd = some (.xd fs)) ∧ Q (.bl true) H) := by
  intro pins s σ H xs us Q I r h
  obtain ⟨rfl, rfl, ⟨dd, fs, rfl, hd⟩, q⟩ := h
  obtain ⟨u1, u2, rfl, r1, r2⟩ := vals2 r
  obtain rfl : u1 = Value.ref a := r1
  obtain rfl : u2 = Value.ref B := r2
  obtain ⟨hget, _⟩ := I.pin (a, oe) (List.mem_append.mpr (.inl List.mem_cons_self))
  obtain ⟨vs, hv⟩ := hf
  obtain ⟨mA, hns, _⟩ := (show ObjOk X.prog X.w H s.heap dd (.xd fs) from I.hok dd _ hd)
  obtain ⟨od, ho, _⟩ := lookIn_ns hns
  have J : PySem.W.InstAt s.heap a oe C (some od) := ⟨hget, hz.1, by unfold PySem.W.notCls; rw [hv], by rw [hz.2]; exact ho⟩
  exact call_isinstance (S := fun _ R s => (X.K.In s.heap ∧ PySem.W.InstAt s.heap a oe C (some od)) ∧ ∀ tk, R (.ok (.ret (.bool true))) { s with toks := tk })
    (fun prog w A R s hs => isinstance_outer (kit_true (Z := fun h => PySem.W.InstAt h a oe C (some od)) (fun _ _ _ (J : PySem.W.InstAt _ a oe C (some od)) => J.type) (by exact beq_eq_false_iff_ne.mpr fun z => hne (Value.ref.inj z)) hk 0 _ prog w A R s hs) (fun z => nomatch z)) ⟨⟨I.kIn, J⟩, fun tk => ⟨.bl true, H, I.tok tk, rfl, q⟩⟩

/-! ### raise, defs that raise -/
def sRaise (cn : Str) (F : Fn D) : Sn := sOf F fun d _ bx => .er cn d bx
section
variable {X : Cx} {P : Pm} {E : XK} {pos : Pos} {a : Expr} {F : Fn D}
theorem sOf_cons {k : D → Sn} {δ : List (Option D)} {bx : Sto} : sOf (fCons F (pur [])) (fun ds => match ds with | [d] => k d | _ => fun _ _ => .bad) δ bx = sOf F k δ bx := by
  unfold sOf
  cases hF : F δ bx with
  | ok d bx1 =>
    rw [show fCons F (pur []) δ bx = .ok [d] bx1 from bnd_ok hF]
  | err c d bx1 => rw [show fCons F (pur []) δ bx = .err c d bx1 from bnd_err hF]
  | bad => rw [show fCons F (pur []) δ bx = .bad from bnd_bad hF]
theorem sd_raise {cn qn : Str} {fI : Addr} {k : Nat} {p pos2 : Pos} (hc : X.calm = true) (T : PySem.RefX.LowTxt cn qn X.K X.mg (P.CR cn) fI) (hr : Room k X.A) (tk : Takes X fun cls d _ H => E cls d H) (ha : ED X P E a F) (hg : Gl X cn := by rfl) (hdb : (cn == ("__debug__" : Str)) = false := by decide)
    (h1 : starEach (a :: []) X.env = (false, eval a X.env) :: starEach [] X.env := by rfl) (h2 : (backTo pos (starEach [] X.env)).any (·.1) = false := by rfl) :
    SD X P E (.Raise (some (.Call (.Name cn p) [a] [] pos)) none pos2) (sRaise cn F) := by
  refine ps_imp (ps_raiseLow hc T hr tk (ea_cons (P := P) (E := E) ha ea_nil h1) hg hdb h1 h2) ?_
  rintro Z σ H ⟨β, δ, bx, ev, g, o⟩
  unfold sRaise at o
  rw [← sOf_cons] at o
  refine sa_bind ev g o fun β1 bx' vs ds H1 l1 g1 r1 o1 => ?_
  split at o1
  · rename_i d
    obtain ⟨v, rfl, rv⟩ := r1.one
    exact ⟨v, rfl, fun q hq => o1 _ q v _ (.new hq) (g1.new hq) upd_same (rv.le (.new hq))⟩
  · exact o1.elim
end
theorem pass0' {X : Cx} {E : XK} : Passes CX0 X E := fun _ _ _ _ _ _ _ h => h.elim
section
variable {Pg : Program} {w : World} {K : PySem.W.Frag} {mg : Str → Option Value} {base : Heap} {P : Pm}
theorem fn_okX {x qual : Str} {st : Stmt} {f : Addr} {fd : FuncData} {N ps : List Str} {k n : Nat} {S : Sn} (F : Fun K x qual st f fd) (sc : FnScope N ps (defScope st)) (hn : ps.length = n)
    (hb : ∀ (cdv : Value) (A : Around) (outer : List Env) (s : Shared) (H : Hp) (E : XK), Room k (A.deeper (envOfC qual (defScope st) s.heap.objs.size f cdv)) →
      SSD (cxOf (L2.CX Pg w) Pg w K mg base N qual (defScope st) f cdv A outer s H E) P E (defBody st) S) : FnOk Pg w K mg base (L2.CX Pg w) (k + 1) f fd ps (spD K P n (fnD N S)) :=
  F.okX sc (fun vs H Q E h => (spD_len _ _ _ _ h).trans hn.symm) fun cdv A outer s H vs Q E hr h => ⟨tDS K P E S, hb cdv A outer s H E hr, fn_end h⟩
end
/-! ### heard(lambda: e): what a call tells or is refused with -/
theorem takes_len {X : Cx} {W : WX} (t : Takes X W) : Takes X (fun cls d σ H => σ.length = X.N.length → W cls d σ H) := fun u s' ⟨a, B, sI, pins, σ, H, cls, d, e, I, nb, up, sky, na, os, ag, w⟩ =>
  t u s' ⟨a, B, sI, pins, σ, H, cls, d, e, I, nb, up, sky, na, os, ag, w I.len⟩
/-- the error's part -/
def EHeard (K : PySem.W.Frag) (CR : Addr) (Q : VK) : XK := fun cls d H' => cls = .ref CR ∧ ∃ dd v pd, d = some dd ∧ H' dd = some (.xd [(("at" : Str), v)]) ∧ Dp K H' v pd ∧ pd.showable = true ∧ pd.hasDict = false ∧ pd.depth ≤ 60 ∧ pd.shown.length ≤ sizeLine ∧
  ∀ p, H' p = none → Q (.ref p) (upd H' p (.tup [.str "refused", .str pd.shown, .bl true]))
def TTHeard (K : PySem.W.Frag) (CR : Addr) : (XK → Hp → VK → Prop) → Hp → VK → Prop := fun tl H Q =>
  tl (EHeard K CR Q) H fun v H' => [V.str "told", v].length ≤ sizeLine ∧ ∀ p, H' p = none → Q (.ref p) (upd H' p (.tup [.str "told", v]))
theorem b_repr : bootBuiltins ("repr" : Str) = some (.builtin "repr") := by decide +kernel
theorem b_isinstance : bootBuiltins ("isinstance" : Str) = some (.builtin "isinstance") := by decide +kernel
theorem nd_heard : (["_law_ask", "fault"] : List Str).Nodup := by decide +kernel
theorem heard_gives {X : Cx} {x q qn : Str} {sg : Scope} {g CR B fI : Addr} {cdg : Value} {k : Nat} {j1 j2 k1 k2 : Nat} {p0 p1 p2 p3 p4 p5 p6 p7 p8 p9 q1 q2 q3 q4 q5 q6 q7 q8 q9 : Pos}
    (hga : X.A.guards = some []) (hr : Room (k + 2) X.A) (T : PySem.RefX.LowTxt "Refused" qn X.K X.mg CR fI) (hne : CR ≠ B) (hk : PySem.W.kitOne X.K (.ref CR) (.ref B) = some true) (gB : X.mg "WreckError" = some (.ref B)) (gr : X.mg "repr" = none) (gi : X.mg "isinstance" = none)
    (s1 : sg.names.lookup ("Refused" : Str) = some .globalImplicit) (s2 : sg.names.lookup ("repr" : Str) = some .globalImplicit) (s3 : sg.names.lookup ("isinstance" : Str) = some .globalImplicit) (s4 : sg.names.lookup ("WreckError" : Str) = some .globalImplicit) (s5 : sg.names.lookup ("fault" : Str) = some .local) (s6 : sg.names.lookup ("_law_ask" : Str) = some .local) :
    LamX.GivesTo X ["_law_ask", "fault"] x sg g cdg [.Try [.Return (some (.Tuple [.Constant (.str "told") j1 p0, .Call (.Name "_law_ask" p1) [] [] p2] k1 p3)) p4]
      [.ExceptHandler (some (.Name "Refused" p5)) (some "fault") [.Return (some (.Tuple [.Constant (.str "refused") j2 p6, .Call (.Name "repr" p7) [.Attribute (.Name "fault" p8) "at" p9] [] q1, .Call (.Name "isinstance" q2) [.Name "fault" q3, .Name "WreckError" q4] [] q5] k2 q6)) q7] q8] [] [] q9] "_law_ask" q (TTHeard X.K CR) := by
  intro f c' s H Q tl act hc h
  have hga' : (X.A.deeper (envOfC x sg s.heap.objs.size g cdg)).guards = some [] := hga
  have hr' : Room (k + 1) (X.A.deeper (envOfC x sg s.heap.objs.size g cdg)) := hr.deeper _
  refine ⟨_, pss_one (ps_try_as (X := (cxOf C8.CX0 X.prog X.w X.K X.mg X.base ["_law_ask", "fault"] x sg g cdg X.A X.stack s H C8.E0).nox) (i := 1) (c := .ref CR) (Wout := fun _ _ _ _ => False)
      (tb := fun W D σ H => ∃ Ech : XK, (∀ cls d σ' H', Ech cls d H' → σ'.length = 2 → W cls d σ' H') ∧ σ[0]? = some (some (.ref f)) ∧ H c' = some (LamX.CodeO c' q) ∧ tl Ech H fun v H' => [V.str "told", v].length ≤ sizeLine ∧ ∀ p, H' p = none → D.rt (.ref p) (upd H' p (.tup [.str "told", v])))
      rfl rfl nd_heard rfl s5 ⟨s1, by decide, .inl T.gC⟩ LamX.takes0 (fun W pn xe tk _ => ?_) (fun a oe cls d pn hz hf => pss_one (ps_ret (pe_tup (pa_cons pe_str (pa_cons
        (pe_callB (show CallR (((cxOf C8.CX0 X.prog X.w X.K X.mg X.base ["_law_ask", "fault"] x sg g cdg X.A X.stack s H C8.E0).nox).suite a ((a, oe) :: pn)) (.builtin "repr") (rRepr X.K) from call_repr (X := ((cxOf C8.CX0 X.prog X.w X.K X.mg X.base ["_law_ask", "fault"] x sg g cdg X.A X.stack s H C8.E0).nox).suite a ((a, oe) :: pn)) hga' hr'.units) (by exact s2) (by exact gr) b_repr (pa_cons (pe_byLow (X := (cxOf C8.CX0 X.prog X.w X.K X.mg X.base ["_law_ask", "fault"] x sg g cdg X.A X.stack s H C8.E0).nox) T hz hf (pv 1 rfl (.inl s5))) pa_nil))
        (pa_cons (pe_callB (call_isX (X := (cxOf C8.CX0 X.prog X.w X.K X.mg X.base ["_law_ask", "fault"] x sg g cdg X.A X.stack s H C8.E0).nox) hz hf hne hk) (by exact s3) (by exact gi) b_isinstance (pa_cons (pv 1 rfl (.inl s5)) (pa_cons (pe_glob (v := .ref B) (by exact s4) (by exact gB) rfl) pa_nil))) pa_nil))))))), ?_⟩
  · refine ⟨fun pins s' σ H' D I h' => ?_⟩
    obtain ⟨Ech, hW, h1, h2, h3⟩ := h'
    have hp := act _ pn xe Ech p1 p2 (takes_len tk) fun cls d σ' H' he hl => hW cls d σ' H' he hl
    have hq := pss_one (ps_ret (pos := p4) (pe_tup (x1 := k1) (pos := p3) (pa_cons (pe_str (x := "told") (j := j1) (pos := p0)) (pa_cons hp pa_nil))))
    exact hq.run pins s' σ H' D I ⟨h1, h2, h3⟩
  · refine ⟨EHeard X.K CR Q, fun cls d σ' H' ⟨e1, dd, v, pd, e2, e3, e4, e5, e6, e7, e8, e9⟩ hl => ⟨true, ?_, fun _ a ha => ?_, fun z => nomatch z⟩, rfl, hc, h⟩
    · rw [e1]
      exact T.te
    · rw [e1]
      have h1 : (σ'.set 1 (some (V.ref a)))[1]? = some (some (V.ref a)) := List.getElem?_set_self (by omega)
      refine ⟨.ref a, h1, rfl, rfl, dd, v, e2, e3, v, pd, rfl, e4, e5, e6, e7, e8, .ref a, h1, rfl, rfl, ⟨dd, _, e2, e3⟩, le1000 (by show 3 ≤ 1000; omega), e9⟩
end Ms

end
section
set_option Elab.async false
set_option linter.all false
set_option maxRecDepth 100000
set_option maxHeartbeats 4000000
namespace Ms
open PySem PySem.Spec PyProof.Rows L2
def showOk (d : D) : Bool := d.pure && d.py.showable && decide (d.py.depth ≤ 60) && decide (d.py.shown.length ≤ sizeLine)
def hRes : Res D → Res D
  | .ok d bx => .ok (.tup [.str "told", d]) bx
  | .err c d bx => if c = "Refused" then (if showOk d = true then .ok (.tup [.str "refused", .str d.py.shown, .bl true]) bx else .bad) else .bad
  | .bad => .bad
def fHeard (F : Fn D) : Fn D := fun δ bx => hRes (F δ bx)
theorem heard_of {K : PySem.W.Frag} {P : Pm} {E : XK} {F : Fn D} {σ : L2.St} {H : Hp} {Q : VK} (h : tD K P E (fHeard F) σ H Q) : LamX.tLam P.T.tb (TTHeard K (P.CR "Refused")) (fun E' => tD K P E' F) σ H Q := by
  obtain ⟨β, δ, bx, ev, g, o⟩ := h
  refine ⟨g.tb, fun H1 x t1 => ?_⟩
  have l : Le β H β H1 := .ext x
  have x' : ∀ b o, H b = some o → (∀ ps, o ≠ .tbl ps) → H1 b = some o := x
  have sm : ∀ (k : Nat) (a : Addr) (b : Bool), β.cs[k]? = some (a, b) → ∃ o, H1 a = some o ∧ ∀ ps, o ≠ .tbl ps := fun k a b h => by
    obtain ⟨o, z, t⟩ := g.sm k a b h
    exact ⟨o, x' _ _ z t, t⟩
  have g1 : Good K P.T β bx H1 := ⟨g.ln, fun k a b h => by
    obtain ⟨c, h1, h2⟩ := g.cs k a b h
    exact ⟨c, h1, h2.le l (g.xk l) fun xs z => x _ _ z (fun ps z => by cases z)⟩, g.inj, sm, fun e he => by
    obtain ⟨⟨l, h⟩, n⟩ := g.ex e he
    exact ⟨⟨l, x _ _ h (fun ps z => by cases z)⟩, n⟩, t1⟩
  refine ⟨β, δ, bx, ev.le l, g1, ?_⟩
  unfold fHeard at o
  cases hF : F δ bx with
  | ok d bx' =>
    rw [hF] at o
    exact fun β' v H' l' g' r => ⟨le1000 (by show 2 ≤ 1000; omega), fun p hp => o _ _ _ ((l.trans l').trans (.new hp)) (g'.new hp) (.tup ⟨.inl upd_same, g'.ne hp⟩ (.cons (.str _) (.cons (r.le (.new hp)) .nil)))⟩
  | err c d bx' =>
    rw [hF] at o
    have o' : Out K P β H (if c = "Refused" then (if showOk d = true then .ok (.tup [.str "refused", .str d.py.shown, .bl true]) bx' else .bad) else .bad) Q E := o
    split at o'
    · rename_i hcn
      subst hcn
      split at o'
      · rename_i hs
        unfold showOk at hs
        simp only [Bool.and_eq_true, decide_eq_true_eq] at hs
        exact fun β' a v H' l' g' hx r => ⟨rfl, a, v, d.py, rfl, hx, r.dp hs.1.1.1, hs.1.1.2, d.noDict, hs.1.2, hs.2, fun p hp => o' _ _ _ ((l.trans l').trans (.new hp)) (g'.new hp) (.tup ⟨.inl upd_same, g'.ne hp⟩ (.cons (.str _) (.cons (.str _) (.cons (.bl _) .nil))))⟩
      · exact o'.elim
    · exact o'.elim
  | bad =>
    rw [hF] at o
    exact o.elim
section
variable {X : Cx} {P : Pm} {E : XK} {F : Fn D}
theorem ed_heard {x a : Str} {g c Pt : Addr} {k : Nat} {pg : Arguments} {bg : List Stmt} {sg : Scope} {dV kV doc pm cdv ct oc : Value} {an od : Option Addr} {osl : Array (Option Value)} {Ng : List Str}
    {params : Arguments} {body : Expr} {scope : Scope} {p lpos pos : Pos} (hg : Gl X x) (hm : X.mg x = some (.ref g)) (hk : PySem.W.keepIn X.K (.ref g) = true)
    (lk : X.K.lookup g = some ⟨oc, od, .func (PySem.W.fnOf x x pg bg sg dV kV doc pm an cdv ct), osl⟩) (hcg : PySem.W.codeIn X.K cdv x = true) (hb : L2.Binds X.K (PySem.W.fnOf x x pg bg sg dV kV doc pm an cdv ct) [a] []) (Sg : FnScope Ng [a] sg) (hNg : Ng[0]? = some a) (hva : Vis sg a)
    (hG : LamX.GivesTo X Ng x sg g cdv bg a (X.env.qual ++ "<lambda>") (TTHeard X.K (P.CR "Refused")))
    (TB : LamX.TabB X.base X.mg c Pt) (hcode : X.env.code = .ref c) (hmT : (Pt, X.env.qual ++ "<lambda>") ∈ P.T.tb) (hu : ∀ q ∈ P.T.tb, q.1 = Pt → q.2 = X.env.qual ++ "<lambda>") (hr : Room (k + 2) X.A) (L : LamX.LamS X.env.scope scope) (hdef : defaultsOf params X.env = ([], []))
    (hbind : ∀ (q : Str) (cl : List (Str × Addr)) (pm cv ctv : Value), bindArgs (PySem.W.kla_fn "<lambda>" q params body scope cl pm cv ctv) ⟨[], []⟩ = pure [])
    (hbody : ∀ (A : Around) (outer : List Env) (s : Shared) (H : Hp) (E' : XK) (f c' : Addr), Room k (A.deeper (LamX.lamEnv X scope s.heap.objs.size f c')) → ED (LamX.lamCx X A outer s H E' scope f c') P E' body F)
    (hdb : (x == ("__debug__" : Str)) = false := by decide) (hd : (a == ("__debug__" : Str)) = false := by decide) (hcd : (a == ("__classdict__" : Str)) = false := by decide) :
    ED X P E (.Call (.Name x p) [.Lambda params body scope lpos] [] pos) (fHeard F) :=
  pe_imp (LamX.pe_lamcall (t := fun E' => tD X.K P E' F) hg hm hk lk hcg hb Sg hNg hva hG TB hcode hmT hu hr L hdef hbind hbody hdb hd hcd) fun _ _ _ h => heard_of h
end
end Ms

end
section
set_option Elab.async false
set_option linter.all false
set_option maxRecDepth 100000
set_option maxHeartbeats 4000000
namespace Ms
open PySem PySem.Spec PyProof.Rows L2
/-! ### objects under way: a list that a comprehension makes -/
def Mu.hide (β : Mu) (a : Addr) : Mu := ⟨β.cs, a :: β.ex⟩
def Mu.back (β : Mu) (ex : List Addr) : Mu := ⟨β.cs, ex⟩
theorem rd_ne {H : Hp} {a b : Addr} {u : HO} (h : L2.Rd H b u) (n : H a = none) : b ≠ a := fun z => by
  subst z
  rcases h with h | ⟨o, h⟩ <;> rw [n] at h <;> cases h
theorem rd_upd {H : Hp} {a b : Addr} {u o : HO} (h : L2.Rd H b u) (n : b ≠ a) : L2.Rd (upd H a o) b u := by
  rcases h with h | ⟨q, h⟩
  · exact .inl (by rw [upd_ne n]; exact h)
  · exact .inr ⟨q, by rw [upd_ne n]; exact h⟩
/-- a new object that is under way -/
theorem Le.hide {β : Mu} {H : Hp} {a : Addr} {o : HO} (n : H a = none) : Le β H (β.hide a) (upd H a o) := ⟨fun k c b h => ⟨b, h, id⟩, fun k c b h z => (by
    have z' : (β.hide a).cs[k]? = none := z
    rw [z'] at h
    cases h), fun e h => List.mem_cons_of_mem _ h, fun e h z o ho => (by
    rcases List.mem_cons.mp h with h | h
    · rw [h, n] at ho
      cases ho
    · exact (z h).elim), fun b u h _ _ => keep_new n b u h, fun b u h t => ⟨u, keep_new n b u h, t⟩⟩
/-- written once more -/
theorem Le.updN {β β' : Mu} {H H' : Hp} {a : Addr} {l l' : List V} (l0 : Le β H β' H') (n : H a = none) (h : H' a = some (.lst l)) : Le β H β' (upd H' a (.lst l')) := ⟨l0.cs, l0.nw, l0.e1, l0.e2, fun b u hb nb t => by
    rw [upd_ne (ne_of_none hb n)]
    exact l0.kp b u hb nb t, fun b u hb t => by
    rw [upd_ne (ne_of_none hb n)]
    exact l0.dm b u hb t⟩
theorem Le.back {β β' : Mu} {H H' : Hp} (l : Le β H β' H') : Le β H (β'.back β.ex) H' := ⟨l.cs, l.nw, fun _ h => h, fun e h n => (n h).elim, l.kp, l.dm⟩
theorem back_ok {β : Mu} {ex : List Addr} {a : Addr} (s : ∀ e, e ∈ ex → e ∈ β.ex) (h : β.ok a) : (β.back ex).ok a := ⟨h.1, fun z => h.2 (s a z)⟩
mutual
theorem R.back {K : PySem.W.Frag} {β : Mu} {H : Hp} {ex : List Addr} (s : ∀ e, e ∈ ex → e ∈ β.ex) : ∀ {v : V} {d : D}, R K β H v d → R K (β.back ex) H v d
  | _, _, .non => .non
  | _, _, .bl b => .bl b
  | _, _, .int i => .int i
  | _, _, .str x => .str x
  | _, _, .lst h r => .lst ⟨h.1, back_ok s h.2⟩ (RA.back s r)
  | _, _, .tup h r => .tup ⟨h.1, back_ok s h.2⟩ (RA.back s r)
  | _, _, .ref h => .ref h
  | _, _, .fn h k => .fn h k
  | _, _, .scr h => .scr (h.imp (fun h => ⟨h.1, back_ok s h.2⟩) id)
theorem RA.back {K : PySem.W.Frag} {β : Mu} {H : Hp} {ex : List Addr} (s : ∀ e, e ∈ ex → e ∈ β.ex) : ∀ {vs : List V} {ds : List D}, RA K β H vs ds → RA K (β.back ex) H vs ds
  | _, _, .nil => .nil
  | _, _, .cons h r => .cons (R.back s h) (RA.back s r)
end
mutual
/-- what is told does not speak of an object that is under way, or of a cell's own -/
theorem R.upd {K : PySem.W.Frag} {β : Mu} {H : Hp} {a : Addr} {o : HO} (n : ¬ β.ok a) : ∀ {v : V} {d : D}, R K β H v d → R K β (upd H a o) v d
  | _, _, .non => .non
  | _, _, .bl b => .bl b
  | _, _, .int i => .int i
  | _, _, .str x => .str x
  | _, _, .lst h r => .lst ⟨rd_upd h.1 (fun z => n (z ▸ h.2)), h.2⟩ (RA.upd n r)
  | _, _, .tup h r => .tup ⟨rd_upd h.1 (fun z => n (z ▸ h.2)), h.2⟩ (RA.upd n r)
  | _, _, .ref h => .ref h
  | _, _, .fn h k => .fn h k
  | _, _, .scr h => .scr (h.imp (fun h => ⟨rd_upd h.1 (fun z => n (z ▸ h.2)), h.2⟩) id)
theorem RA.upd {K : PySem.W.Frag} {β : Mu} {H : Hp} {a : Addr} {o : HO} (n : ¬ β.ok a) : ∀ {vs : List V} {ds : List D}, RA K β H vs ds → RA K β (upd H a o) vs ds
  | _, _, .nil => .nil
  | _, _, .cons h r => .cons (R.upd n h) (RA.upd n r)
end
theorem Ev.upd {K : PySem.W.Frag} {β : Mu} {H : Hp} {σ : L2.St} {δ : List (Option D)} {a : Addr} {o : HO} (e : Ev K β H σ δ) (n : ¬ β.ok a) : Ev K β (upd H a o) σ δ := ⟨e.len, fun i d h => by
  obtain ⟨v, h1, h2⟩ := e.at_ i d h
  exact ⟨v, h1, h2.upd n⟩⟩
theorem Ev.none_ {K : PySem.W.Frag} {β : Mu} {H : Hp} {σ : L2.St} {δ : List (Option D)} (e : Ev K β H σ δ) (i : Nat) : Ev K β H (σ.set i none) (δ.set i none) := by
  refine ⟨by simp [e.len], fun j d h => ?_⟩
  by_cases hj : i = j
  · subst hj
    by_cases hl : i < δ.length
    · rw [List.getElem?_set_self hl] at h
      cases h
    · rw [List.getElem?_eq_none (by simp; omega)] at h
      cases h
  · rw [List.getElem?_set_ne hj] at h
    obtain ⟨v, h1, h2⟩ := e.at_ j d h
    exact ⟨v, by rw [List.getElem?_set_ne hj]; exact h1, h2⟩
theorem ext_upd {H : Hp} {a : Addr} {l l' : List V} (h : H a = some (.lst l)) : ∀ b p, H b = some (.ext p) → (upd H a (.lst l')) b = some (.ext p) := fun b p e => by
  rw [upd_ne (fun z => by rw [z, h] at e; cases e)]
  exact e
theorem tabs_upd {T : List (Addr × Str)} {H : Hp} {a : Addr} {l l' : List V} (t : LamX.Tabs T H) (h : H a = some (.lst l)) : LamX.Tabs T (upd H a (.lst l')) := fun p hp => by
  obtain ⟨ps, h1, h2, h3⟩ := t p hp
  refine ⟨ps, by rw [upd_ne (fun z => by rw [z, h] at h1; cases h1)]; exact h1, h2, fun pos cv hc => ?_⟩
  obtain ⟨c, e1, e2⟩ := h3 pos cv hc
  exact ⟨c, e1, by rw [upd_ne (fun z => by rw [z, h] at e2; unfold LamX.CodeO at e2; cases e2)]; exact e2⟩
section
variable {K : PySem.W.Frag} {T : Tb} {β : Mu} {st : Sto} {H : Hp} {a : Addr} {l l' xs : List V} {ds : List D} {k : Nat} {b : Bool}
/-- the list under way is written -/
theorem Good.updX (g : Good K T β st H) (x : a ∈ β.ex) (h : H a = some (.lst l)) : Good K T β st (upd H a (.lst l')) := by
  have n : ¬ β.ok a := fun z => z.2 x
  have nc := (g.ex a x).2
  refine ⟨g.ln, fun k c b hk => ?_, g.inj, fun k c b hk => ?_, fun e he => ?_, tabs_upd g.tb h⟩
  · obtain ⟨cl, h1, h2⟩ := g.cs k c b hk
    refine ⟨cl, h1, ?_⟩
    cases cl with
    | dead => exact h2
    | lam m => exact ⟨h2.1, T.st _ _ _ _ h2.2 (ext_upd h)⟩
    | lst ds =>
      obtain ⟨h3, xs, h4, h5⟩ := h2
      exact ⟨h3, xs, by rw [upd_ne (show c ≠ a from fun z => nc b (by rw [← z]; exact List.mem_of_getElem? hk))]; exact h4, h5.upd n⟩
  · obtain ⟨o, h1, h2⟩ := g.sm k c b hk
    exact ⟨o, by rw [upd_ne (show c ≠ a from fun z => nc b (by rw [← z]; exact List.mem_of_getElem? hk))]; exact h1, h2⟩
  · obtain ⟨⟨m, hm⟩, q⟩ := g.ex e he
    by_cases z : e = a
    · exact ⟨⟨l', z ▸ upd_same⟩, q⟩
    · exact ⟨⟨m, by rw [upd_ne z]; exact hm⟩, q⟩
theorem Good.hide (g : Good K T β st H) (n : H a = none) : Good K T (β.hide a) st (upd H a (.lst l)) := by
  refine ⟨g.ln, fun k c b hk => ?_, g.inj, fun k c b hk => ?_, fun e he => ?_, (g.new n).tb⟩
  · obtain ⟨cl, h1, h2⟩ := g.cs k c b hk
    refine ⟨cl, h1, ?_⟩
    cases cl with
    | dead => exact h2
    | lam m => exact ⟨h2.1, T.st _ _ _ _ h2.2 fun b p e => keep_new n _ _ e⟩
    | lst ds =>
      obtain ⟨h3, xs, h4, h5⟩ := h2
      exact ⟨h3, xs, keep_new n _ _ h4, h5.le (.hide n)⟩
  · obtain ⟨o, h1, h2⟩ := g.sm k c b hk
    exact ⟨o, keep_new n _ _ h1, h2⟩
  · rcases List.mem_cons.mp he with rfl | he
    · refine ⟨⟨l, upd_same⟩, fun b z => ?_⟩
      obtain ⟨k, hk⟩ := List.getElem?_of_mem z
      obtain ⟨o, h1, _⟩ := g.sm k _ _ hk
      rw [n] at h1
      cases h1
    · obtain ⟨⟨m, hm⟩, q⟩ := g.ex e he
      exact ⟨⟨m, keep_new n _ _ hm⟩, q⟩
theorem Good.back {ex : List Addr} (g : Good K T β st H) (s : ∀ e, e ∈ ex → e ∈ β.ex) : Good K T (β.back ex) st H := ⟨g.ln, fun k c b hk => by
  obtain ⟨cl, h1, h2⟩ := g.cs k c b hk
  refine ⟨cl, h1, ?_⟩
  cases cl with
  | dead => exact h2
  | lam m => exact h2
  | lst ds =>
    obtain ⟨h3, xs, h4, h5⟩ := h2
    exact ⟨h3, xs, h4, h5.back s⟩, g.inj, g.sm, fun e he => g.ex e (s e he), g.tb⟩

/-! ### cells -/
def Mu.cell (β : Mu) (a : Addr) : Mu := ⟨β.cs ++ [(a, true)], β.ex⟩
theorem cell_get {β : Mu} {a c : Addr} {k : Nat} {b : Bool} (h : (β.cell a).cs[k]? = some (c, b)) : β.cs[k]? = some (c, b) ∨ (k = β.cs.length ∧ c = a ∧ b = true) := by
  have h' : (β.cs ++ [(a, true)])[k]? = some (c, b) := h
  by_cases hk : k < β.cs.length
  · rw [List.getElem?_append_left hk] at h'
    exact .inl h'
  · rw [List.getElem?_append_right (by omega)] at h'
    by_cases hz : k - β.cs.length = 0
    · rw [hz] at h'
      cases h'
      exact .inr ⟨by omega, rfl, rfl⟩
    · rw [List.getElem?_eq_none (by simp; omega)] at h'
      cases h'
theorem cell_old {β : Mu} {a : Addr} {k : Nat} {p : Addr × Bool} (h : β.cs[k]? = some p) : (β.cell a).cs[k]? = some p := by
  show (β.cs ++ [(a, true)])[k]? = some p
  rw [List.getElem?_append_left (List.getElem?_eq_some_iff.mp h).1]
  exact h
theorem Le.cell (n : H a = none) {o : HO} : Le β H (β.cell a) (upd H a o) := ⟨fun k c b h => ⟨b, cell_old h, id⟩, fun k c b h z u hu => (by
    rcases cell_get h with h | ⟨_, rfl, _⟩
    · rw [z] at h
      cases h
    · rw [n] at hu
      cases hu), fun _ h => h, fun e h z => (z h).elim, fun b u h _ _ => keep_new n b u h, fun b u h t => ⟨u, keep_new n b u h, t⟩⟩
theorem Good.cell (g : Good K T β st H) (n : H a = none) (r : RA K β H xs ds) : Good K T (β.cell a) (st ++ [.lst ds]) (upd H a (.lst xs)) := by
  have l : Le β H (β.cell a) (upd H a (.lst xs)) := .cell n
  have fr : ∀ k c b, β.cs[k]? = some (c, b) → c ≠ a := fun k c b hk z => by
    obtain ⟨o, h1, _⟩ := g.sm k c b hk
    rw [z, n] at h1
    cases h1
  refine ⟨?_, fun k c b hk => ?_, fun i j c b hi hj => ?_, fun k c b hk => ?_, fun e he => ?_, (g.new n).tb⟩
  · show (β.cs ++ [(a, true)]).length = _
    rw [List.length_append, List.length_append, g.ln]
    rfl
  · rcases cell_get hk with h | ⟨rfl, rfl, rfl⟩
    · obtain ⟨cl, h1, h2⟩ := g.cs k c b h
      exact ⟨cl, by rw [List.getElem?_append_left (List.getElem?_eq_some_iff.mp h1).1]; exact h1, h2.le l (g.xk l) fun ys z => keep_new n _ _ z⟩
    · refine ⟨.lst ds, by rw [g.ln, List.getElem?_append_right (Nat.le_refl _), Nat.sub_self]; rfl, rfl, xs, upd_same, r.le l⟩
  · rcases cell_get hi with h | ⟨rfl, rfl, _⟩
    · rcases cell_get hj with h' | ⟨rfl, rfl, _⟩
      · exact g.inj i j c b h h'
      · exact (fr _ _ _ h rfl).elim
    · rcases cell_get hj with h' | ⟨rfl, _, _⟩
      · exact (fr _ _ _ h' rfl).elim
      · rfl
  · rcases cell_get hk with h | ⟨rfl, rfl, rfl⟩
    · obtain ⟨o, h1, h2⟩ := g.sm k c b h
      exact ⟨o, keep_new n _ _ h1, h2⟩
    · exact ⟨_, upd_same, fun ps z => by cases z⟩
  · obtain ⟨⟨m, hm⟩, q⟩ := g.ex e he
    refine ⟨⟨m, keep_new n _ _ hm⟩, fun b z => ?_⟩
    rcases List.mem_append.mp (show (e, b) ∈ β.cs ++ [(a, true)] from z) with z | z
    · exact q b z
    · cases List.mem_singleton.mp z
      rw [n] at hm
      cases hm
theorem R.cell {β : Mu} {st : Sto} {H' : Hp} (g : β.cs.length = st.length) : R K (β.cell a) H' (.ref a) (.ref st.length) := .ref (b := true) (by
  show (β.cs ++ [(a, true)])[st.length]? = _
  rw [← g, List.getElem?_append_right (Nat.le_refl _), Nat.sub_self]
  rfl)
/-- what a living cell is -/
theorem R.live {v : V} {l : List D} (r : R K β H v (.ref k)) (g : Good K T β st H) (h : st[k]? = some (.lst l)) : ∃ a xs, v = .ref a ∧ β.cs[k]? = some (a, true) ∧ H a = some (.lst xs) ∧ RA K β H xs l := by
  cases r with
  | ref hk =>
    obtain ⟨c, h1, h2⟩ := g.cs _ _ _ hk
    rw [h] at h1
    cases h1
    obtain ⟨rfl, xs, h3, h4⟩ := h2
    exact ⟨_, xs, rfl, hk, h3, h4⟩
theorem Le.put (hk : β.cs[k]? = some (a, true)) (h : H a = some (.lst l)) : Le β H β (upd H a (.lst l')) := ⟨fun k c b h => ⟨b, h, id⟩, fun k c b h n => (by rw [n] at h; cases h), fun _ h => h, fun e h n => (n h).elim, fun b u hb nb _ => by
    rw [upd_ne (show b ≠ a from fun z => nb (by rw [z]; exact List.mem_of_getElem? hk))]
    exact hb, fun b u hb t => by
    by_cases z : b = a
    · exact ⟨.lst l', by rw [z]; exact upd_same, fun ps z => by cases z⟩
    · exact ⟨u, by rw [upd_ne z]; exact hb, t⟩⟩
theorem Good.put (g : Good K T β st H) (hk : β.cs[k]? = some (a, true)) (h : H a = some (.lst l)) (r : RA K β H xs ds) : Good K T β (st.set k (.lst ds)) (upd H a (.lst xs)) := by
  have n : ¬ β.ok a := fun z => z.1 (List.mem_of_getElem? hk)
  have hlt : k < st.length := by
    rw [← g.ln]
    exact (List.getElem?_eq_some_iff.mp hk).1
  refine ⟨by rw [List.length_set]; exact g.ln, fun j c b hj => ?_, g.inj, fun j c b hj => ?_, fun e he => ?_, tabs_upd g.tb h⟩
  · by_cases z : k = j
    · subst z
      rw [hk] at hj
      cases hj
      exact ⟨.lst ds, List.getElem?_set_self hlt, rfl, xs, upd_same, r.upd n⟩
    · obtain ⟨cl, h1, h2⟩ := g.cs j c b hj
      refine ⟨cl, by rw [List.getElem?_set_ne z]; exact h1, ?_⟩
      cases cl with
      | dead => exact h2
      | lam m => exact ⟨h2.1, T.st _ _ _ _ h2.2 (ext_upd h)⟩
      | lst ds =>
        obtain ⟨rfl, ys, h4, h5⟩ := h2
        exact ⟨rfl, ys, by rw [upd_ne (show c ≠ a from fun q => z (g.inj k j a true hk (by rw [← q]; exact hj)))]; exact h4, h5.upd n⟩
  · obtain ⟨o, h1, h2⟩ := g.sm j c b hj
    by_cases z : c = a
    · exact ⟨.lst xs, by rw [z]; exact upd_same, fun ps z => by cases z⟩
    · exact ⟨o, by rw [upd_ne z]; exact h1, h2⟩
  · obtain ⟨⟨m, hm⟩, q⟩ := g.ex e he
    exact ⟨⟨m, by rw [upd_ne (show e ≠ a from fun z => q true (by rw [z]; exact List.mem_of_getElem? hk))]; exact hm⟩, q⟩
/-- a cell that is let go: its list changes no more -/
def Mu.frz (β : Mu) (k : Nat) (a : Addr) : Mu := ⟨β.cs.set k (a, false), β.ex⟩
theorem frz_get {c : Addr} {j : Nat} (h : (β.frz k a).cs[j]? = some (c, b)) : (j = k ∧ c = a ∧ b = false) ∨ (j ≠ k ∧ β.cs[j]? = some (c, b)) := by
  have h' : (β.cs.set k (a, false))[j]? = some (c, b) := h
  by_cases z : k = j
  · subst z
    rw [List.getElem?_set_self' ] at h'
    cases hk : β.cs[k]? with
    | none => rw [hk] at h'; cases h'
    | some p =>
      rw [hk] at h'
      cases h'
      exact .inl ⟨rfl, rfl, rfl⟩
  · rw [List.getElem?_set_ne z] at h'
    exact .inr ⟨fun q => z q.symm, h'⟩
theorem Le.frz (hk : β.cs[k]? = some (a, true)) : Le β H (β.frz k a) H := ⟨fun j c b h => by
    by_cases z : k = j
    · subst z
      rw [hk] at h
      cases h
      exact ⟨false, by show (β.cs.set k (a, false))[k]? = _; rw [List.getElem?_set_self (List.getElem?_eq_some_iff.mp hk).1], fun q => by cases q⟩
    · exact ⟨b, by show (β.cs.set k (a, false))[j]? = _; rw [List.getElem?_set_ne z]; exact h, id⟩, fun j c b h n => (by
    rcases frz_get h with ⟨rfl, _, _⟩ | ⟨_, h⟩
    · rw [n] at hk
      cases hk
    · rw [n] at h
      cases h), fun _ h => h, fun e h n => (n h).elim, fun b u h _ _ => h, fun b u h t => ⟨u, h, t⟩⟩
theorem frz_ok (g : Good K T β st H) (hk : β.cs[k]? = some (a, true)) : (β.frz k a).ok a := by
  refine ⟨fun z => ?_, fun z => (g.ex a z).2 true (List.mem_of_getElem? hk)⟩
  obtain ⟨j, hj⟩ := List.getElem?_of_mem z
  rcases frz_get hj with ⟨_, _, q⟩ | ⟨q, h⟩
  · cases q
  · exact q (g.inj k j a true hk h).symm
theorem Good.frz (g : Good K T β st H) (hk : β.cs[k]? = some (a, true)) : Good K T (β.frz k a) (st.set k .dead) H := by
  have hlt : k < st.length := by
    rw [← g.ln]
    exact (List.getElem?_eq_some_iff.mp hk).1
  refine ⟨by show (β.cs.set k (a, false)).length = _; rw [List.length_set, List.length_set]; exact g.ln, fun j c b hj => ?_, fun i j c b hi hj => ?_, fun j c b hj => ?_, fun e he => ?_, g.tb⟩
  · rcases frz_get hj with ⟨rfl, rfl, rfl⟩ | ⟨z, hj⟩
    · exact ⟨.dead, List.getElem?_set_self hlt, rfl⟩
    · obtain ⟨cl, h1, h2⟩ := g.cs j c b hj
      exact ⟨cl, by rw [List.getElem?_set_ne (Ne.symm z)]; exact h1, h2.le (.frz hk) (g.xk (.frz hk)) fun _ q => q⟩
  · rcases frz_get hi with ⟨_, _, q⟩ | ⟨z, hi⟩
    · cases q
    · rcases frz_get hj with ⟨rfl, rfl, _⟩ | ⟨_, hj⟩
      · rename_i hi' _
        exact (z (g.inj i j c true (by first | exact hi | exact hi') hk)).elim
      · exact g.inj i j c b hi hj
  · rcases frz_get hj with ⟨rfl, rfl, rfl⟩ | ⟨_, hj⟩
    · exact g.sm _ _ _ hk
    · exact g.sm _ _ _ hj
  · obtain ⟨m, q⟩ := g.ex e he
    refine ⟨m, fun b z => ?_⟩
    obtain ⟨j, hj⟩ := List.getElem?_of_mem z
    rcases frz_get hj with ⟨_, rfl, _⟩ | ⟨_, hj⟩
    · exact q true (List.mem_of_getElem? hk)
    · exact q b (List.mem_of_getElem? hj)
end
/-! ### what makes, changes, lets go a cell -/
def fNew (A : Fn (List D)) : Fn D := bnd A fun ds => fun _ bx => if ds.length ≤ 1000000 then .ok (.ref bx.length) (bx ++ [.lst ds]) else .bad
/-- list(x), a list that will change -/
def fNewOf (F : Fn D) : Fn D := bnd F fun d => fun _ bx => match vs bx d with
  | some ds => .ok (.ref bx.length) (bx ++ [.lst ds])
  | none => .bad
def sFrz (i : Nat) : Sn := fun δ bx => match δ[i]? with
  | some (some (.ref k)) => (match bx[k]? with
    | some (.lst l) => .nx (δ.set i (some (.lst l))) (bx.set k .dead)
    | _ => .bad)
  | _ => .bad
def appK (k : Nat) (e : D) : Sn := fun δ bx => match bx[k]? with
  | some (.lst l) => if l.length < 1000000 then .nx δ (bx.set k (.lst (l ++ [e]))) else .bad
  | _ => .bad
def sApp (F G : Fn D) : Sn := sOf F fun d δ bx => match d with
  | .ref k => (match bx[k]? with
    | some (.lst _) => sOf G (appK k) δ bx
    | _ => .bad)
  | _ => .bad
/-- x[i] = e -/
def sPut (F G J : Fn D) : Sn := sOf F fun e => sOf G fun d => sOf J fun i => fun δ bx => match d, i with
  | .ref k, .int i => (match bx[k]? with
    | some (.lst l) => (match ixN l.length i with
      | some j => .nx δ (bx.set k (.lst (l.set j e)))
      | none => .bad)
    | _ => .bad)
  | _, _ => .bad
theorem RA.set {K : PySem.W.Frag} {β : Mu} {H : Hp} {v : V} {d : D} (r : R K β H v d) : ∀ {vs : List V} {ds : List D} (j : Nat), RA K β H vs ds → RA K β H (vs.set j v) (ds.set j d)
  | _, _, _, .nil => .nil
  | _, _, 0, .cons _ ra => .cons r ra
  | _, _, j + 1, .cons a ra => .cons a (RA.set r j ra)
section
variable {X : Cx} {P : Pm} {E : XK} {pos : Pos} {a b : Expr} {F G J : Fn D} {es : List Expr} {A : Fn (List D)} {ss : List Stmt} {S : Sn}
theorem ed_lstM (h : EA X P E es A) : ED X P E (.List es pos) (fNew A) := by
  refine pe_imp (pe_lst h) ?_
  rintro σ H Q ⟨β, δ, bx, ev, g, o⟩
  refine a_bind ev g o.x fun β1 bx1 xs ds H1 l1 g1 r1 o1 => ?_
  split at o1
  · rename_i hl
    exact ⟨by rw [r1.length]; exact leM hl, fun p hp => o1 _ _ (.cell hp) (g1.cell hp r1) _ (.cell g1.ln)⟩
  · exact o1.elim
theorem ed_listM {p : Pos} (hg : Gl X "list") (hm : X.mg "list" = none) (hv : bootBuiltins "list" = some (.type "list")) (ha : ED X P E a F)
    (he : starEach (a :: []) X.env = (false, eval a X.env) :: starEach [] X.env := by rfl) (hpl : (backTo pos (starEach [] X.env)).any (·.1) = false := by rfl) : ED X P E (.Call (.Name "list" p) [a] [] pos) (fNewOf F) := by
  refine pe_imp (pe_callTy call_list_of hg hm hv (ea_cons ha ea_nil he) (by decide) (by decide) he hpl) ?_
  rintro σ H Q ⟨β, δ, bx, ev, g, o⟩
  have o' : OutX P X.K β H (bnd (fCons F (pur [])) (fun ds => match ds with | [d] => (fun _ bx => match vs bx d with | some ds => .ok (.ref bx.length) (bx ++ [.lst ds]) | none => .bad) | _ => fun _ _ => .bad) δ bx) E fun d β' _ H' => ∀ v, R X.K β' H' v d → Q v H' := by
    have o := o.x
    unfold fNewOf at o
    cases hF : F δ bx with
    | ok d bx1 => rw [bnd_ok hF] at o; rw [bnd_ok (show fCons F (pur []) δ bx = .ok [d] bx1 from bnd_ok hF)]; exact o
    | err c d bx1 => rw [bnd_err hF] at o; rw [bnd_err (show fCons F (pur []) δ bx = .err c d bx1 from bnd_err hF)]; exact o
    | bad => rw [bnd_bad hF] at o; exact o.elim
  refine a_bind ev g o' fun β1 bx1 xs ds H1 l1 g1 r1 o1 => ?_
  split at o1
  · obtain ⟨v, rfl, r⟩ := r1.one
    split at o1
    · rename_i ds hd
      obtain ⟨a, ys, rfl, s, ra⟩ := r.vs g1 hd
      exact ⟨a, ys, rfl, s, fun p hp => o1 _ _ (.cell hp) (g1.cell hp ra) _ (.cell g1.ln)⟩
    · exact o1.elim
  · exact o1.elim
theorem ssd_frz (i : Nat) (h : SSD X P E ss S) : SSD X P E ss (sSeq (sFrz i) S) := by
  refine pss_imp h ?_
  rintro Z σ H ⟨β, δ, bx, ev, g, o⟩
  unfold sSeq sFrz at o
  split at o
  · rename_i o'
    split at o'
    · rename_i k hk
      split at o'
      · rename_i l hl
        cases o'
        obtain ⟨v, h1, h2⟩ := ev.at_ i _ hk
        obtain ⟨a, xs, rfl, h3, h4, h5⟩ := h2.live g hl
        refine ⟨β.frz k a, _, _, ?_, g.frz h3, OutS.le (.frz h3) o⟩
        have e2 : Ev X.K (β.frz k a) H σ δ := ev.le (.frz h3)
        have e3 := e2.set i (.lst ⟨.inl h4, frz_ok g h3⟩ (h5.le (.frz h3)))
        have e4 : σ.set i (some (V.ref a)) = σ := by
          refine List.ext_getElem? fun j => ?_
          by_cases z : i = j
          · subst z
            rw [List.getElem?_set_self (List.getElem?_eq_some_iff.mp h1).1, h1]
          · rw [List.getElem?_set_ne z]
        rw [e4] at e3
        exact e3
      · cases o'
    · cases o'
  all_goals first
    | exact o.elim
    | (rename_i o'; split at o' <;> first | (split at o' <;> cases o') | cases o')
theorem sd_app {apos cpos : Pos} (ha : ED X P E a F) (hb : ED X P E b G)
    (hbase : attributeBase a "append" X.env (eval a X.env) = eval a X.env := by rfl)
    (hfew : ((backTo cpos (starEach [b] X.env)).all (fun x => !x.1) && (backToKw cpos (keywordEach [] X.env)).all (fun x => x.1.isSome)
      && decide ([b].length + ([] : List Keyword).length + (if ([] : List Keyword).isEmpty then 0 else 1) < 30)) = true := by rfl)
    (hline : (apos.endLine == cpos.line) = true := by rfl) (hs : starEach [b] X.env = (false, eval b X.env) :: starEach [] X.env := by rfl) (hplain : (backTo cpos (starEach [] X.env)).any (·.1) = false := by rfl)
    (hsw : swapsWith (.Call (.Attribute a "append" apos) [b] [] cpos) none pos.line X.env = pure false := by rfl) :
    SD X P E (.Expr (.Call (.Attribute a "append" apos) [b] [] cpos) pos) (sApp F G) := by
  refine ps_imp (ps_expr (pe_bm PySem.F.plainAttrs_list PySem.F.slot_list_append PySem.F.type_list_append mt_append ha (ea_cons hb ea_nil hs) hbase hfew hline hs hplain) hsw) ?_
  rintro Z σ H ⟨β, δ, bx, ev, g, o⟩
  refine sd_bind ev g o fun β1 bx1 x d H1 l1 g1 r1 o1 => ?_
  cases d with
  | ref k =>
    dsimp only at o1
    split at o1
    · rename_i l0 hl0
      obtain ⟨a, xs, rfl, _, h4, _⟩ := r1.live g1 hl0
      refine ⟨.inl ⟨rfl, xs, SqL.of h4⟩, ?_⟩
      rw [← sOf_cons] at o1
      refine sa_bind (ev.le l1) g1 o1 fun β2 bx2 ys ds H2 l2 g2 r2 o3 => ?_
      split at o3
      · obtain ⟨y, rfl, ry⟩ := r2.one
        unfold appK at o3
        split at o3
        · rename_i l hl
          split at o3
          · rename_i hlen
            obtain ⟨a', xs', e, h5, h6, h7⟩ := (r1.le l2).live g2 hl
            cases e
            refine ⟨a, xs', y, rfl, rfl, h6, ?_, o3 β2 _ _ (.put h5 h6) (g2.put h5 h6 (h7.append (.cons ry .nil))) (((ev.le l1).le l2).upd fun z => z.1 (List.mem_of_getElem? h5))⟩
            rw [h7.length]
            rw [sizeLine_eq]
            omega
          · exact o3.elim
        · exact o3.elim
      · exact o3.elim
    · exact o1.elim
  | non => exact o1.elim
  | bl _ => exact o1.elim
  | int _ => exact o1.elim
  | str _ => exact o1.elim
  | lst _ => exact o1.elim
  | tup _ => exact o1.elim
  | fn _ => exact o1.elim
  | scr _ => exact o1.elim
theorem sd_put {e o i : Expr} {p3 : Pos} (he : ED X P E e F) (ho : ED X P E o G) (hi : ED X P E i J)
    (hs : swapsWithSole [.Subscript o i p3] e pos.line X.env = pure false := by rfl) (hw : swappedStores [.Subscript o i p3] e X.env = pure none := by rfl)
    (h1 : (assignEach [.Subscript o i p3] X.env).map (·.2) = [assign (.Subscript o i p3) X.env] := by rfl)
    (ha : ∀ v, assign (.Subscript o i p3) X.env v = (do
      let ov ← holding [v] (eval o X.env)
      let iv ← holding [v, ov] (eval i X.env)
      standAt p3
      holding [v, ov, iv] (setItem ov iv v)
      release [v, ov, iv] []) := by intro _; rfl) :
    SD X P E (.Assign [.Subscript o i p3] e pos) (sPut F G J) := by
  refine ps_imp (ps_asg he (pg_sub ho hi set_list ha) hs hw h1) ?_
  rintro Z σ H ⟨β, δ, bx, ev, g, o⟩
  refine sd_bind ev g o fun β1 bx1 v d1 H1 l1 g1 r1 o1 => ?_
  refine sd_bind (ev.le l1) g1 o1 fun β2 bx2 x d H2 l2 g2 r2 o2 => ?_
  refine sd_bind ((ev.le l1).le l2) g2 o2 fun β3 bx3 y d3 H3 l3 g3 r3 o3 => ?_
  split at o3
  · rename_i k i'
    split at o3
    · rename_i l hl
      split at o3
      · rename_i j hj
        obtain ⟨a, xs, e, h5, h6, h7⟩ := (r2.le l3).live g3 hl
        subst e
        exact ⟨a, xs, i', j, rfl, r3.int_inv, h6, by rw [h7.length]; exact hj, o3 β3 _ _ (.put h5 h6) (g3.put h5 h6 (RA.set ((r1.le l2).le l3) j h7)) ((((ev.le l1).le l2).le l3).upd fun z => z.1 (List.mem_of_getElem? h5))⟩
      · exact o3.elim
    · exact o3.elim
  · exact o3.elim
end
end Ms

end
section
set_option Elab.async false
set_option linter.all false
set_option maxRecDepth 100000
set_option maxHeartbeats 4000000
namespace Ms
open PySem PySem.Spec PyProof.Rows L2 RZ
/-! ### what is walked: data one behind another -/
structure Wk (K : PySem.W.Frag) (T : Tb) (β0 : Mu) (H0 : Hp) (J : It) (ds : List D) : Prop where
  goes : ∀ (i : Nat) (β : Mu) (st : Sto) (H : Hp), i < ds.length → Le β0 H0 β H → Good K T β st H → J.go i H
  yields : ∀ (i : Nat) (d : D) (β : Mu) (st : Sto) (H : Hp) (x : V) (H' : Hp), ds[i]? = some d → Le β0 H0 β H → Good K T β st H → J.yld i H x H' → (∀ b o, H b = some o → H' b = some o) ∧ R K β H' x d
  stops : ∀ (β : Mu) (st : Sto) (H : Hp), Le β0 H0 β H → Good K T β st H → J.stop ds.length H
def tDL (K : PySem.W.Frag) (P : Pm) (E : XK) (F : Fn (List D)) : TI := fun σ H Rr => ∃ β δ bx, Ev K β H σ δ ∧ Good K P.T β bx H ∧ OutX P K β H (F δ bx) E fun ds β' bx' H1 => Good K P.T β' bx' H1 → ∀ J, Wk K P.T β' H1 J ds → Rr J H1
theorem pi_imp {X : Cx} {tg it : Expr} {t t' : TI} (h : PI X tg it t) (k : ∀ σ H Q, t' σ H Q → t σ H Q) : PI X tg it t' := ⟨fun pins s σ H Q I q => h.run pins s σ H Q I (k σ H Q q)⟩
abbrev EI (X : Cx) (P : Pm) (E : XK) (tg it : Expr) (F : Fn (List D)) : Prop := PI X tg it (tDL X.K P E F)
def rgl (lo : Int) (n : Nat) : List D := (List.range n).map fun (i : Nat) => D.int (lo + i)
theorem rgl_get {lo : Int} {n i : Nat} {d : D} (h : (rgl lo n)[i]? = some d) : d = .int (lo + i) := by
  unfold rgl at h
  rw [List.getElem?_map] at h
  cases hr : (List.range n)[i]? with
  | none => rw [hr] at h; cases h
  | some j =>
    rw [hr] at h
    cases h
    obtain ⟨h1, h2⟩ := List.getElem?_eq_some_iff.mp hr
    rw [List.getElem_range] at h2
    rw [h2]
theorem rgl_len {lo : Int} {n : Nat} : (rgl lo n).length = n := by unfold rgl; rw [List.length_map, List.length_range]
section
variable {K : PySem.W.Frag} {T : Tb} {β : Mu} {H : Hp}
theorem wk_range (lo : Int) (n : Nat) : Wk K T β H (Itr lo n) (rgl lo n) := ⟨fun i β st H hi _ _ => by rw [rgl_len] at hi; exact hi, fun i d β st H x H' hd _ _ y => by
    obtain ⟨rfl, rfl⟩ := y
    rw [rgl_get hd]
    exact ⟨fun _ _ h => h, .int _⟩, fun β st H _ _ => by rw [rgl_len]; exact Nat.le_refl _⟩
theorem wk_list {a : Addr} {xs : List V} {ds : List D} (s : SL β H a xs) (ra : RA K β H xs ds) : Wk K T β H (Itl K a) ds := ⟨fun i β' st H' hi l _ => ⟨xs, xs[i]'(by rw [ra.length]; exact hi), (s.le l).sq, by simp⟩, fun i d β' st H' x H2 hd l g y => by
    obtain ⟨rfl, h⟩ := y
    obtain ⟨v, h1, h2⟩ := ra.get hd
    have := h xs (s.le l).sq
    rw [h1] at this
    cases this
    exact ⟨fun _ _ h => h, h2.le l⟩, fun β' st H' l _ => ⟨xs, (s.le l).sq, by rw [ra.length]; exact Nat.le_refl _⟩⟩
theorem wk_scr {a : Addr} {ns : List Int} (s : SS K β H a (ns.map V.int)) : Wk K T β H (Itl K a) (ns.map D.int) := ⟨fun i β' st H' hi l _ => ⟨ns.map V.int, (ns.map V.int)[i]'(by rw [List.length_map] at hi ⊢; exact hi), (s.le l).sq, by simp⟩, fun i d β' st H' x H2 hd l g y => by
    obtain ⟨rfl, h⟩ := y
    obtain ⟨v, h1, h2⟩ := (RA.ints (K := K) (β := β') (H := H2) ns).get hd
    have := h _ (s.le l).sq
    rw [h1] at this
    cases this
    exact ⟨fun _ _ h => h, h2⟩, fun β' st H' l _ => ⟨_, (s.le l).sq, by rw [List.length_map, List.length_map]; exact Nat.le_refl _⟩⟩
theorem wk_tup {a : Addr} {xs : List V} {ds : List D} (s : ST β H a xs) (ra : RA K β H xs ds) : Wk K T β H (Itt K a) ds := ⟨fun i β' st H' hi l _ => ⟨xs, xs[i]'(by rw [ra.length]; exact hi), (s.le l).sq, by simp⟩, fun i d β' st H' x H2 hd l g y => by
    obtain ⟨rfl, h⟩ := y
    obtain ⟨v, h1, h2⟩ := ra.get hd
    have := h xs (s.le l).sq
    rw [h1] at this
    cases this
    exact ⟨fun _ _ h => h, h2.le l⟩, fun β' st H' l _ => ⟨xs, (s.le l).sq, by rw [ra.length]; exact Nat.le_refl _⟩⟩
def signs (x : Str) : List D := x.cps.toList.map fun c => D.str ⟨#[c]⟩
theorem wk_str {x : Str} : Wk K T β H (Its x) (signs x) := ⟨fun i β st H hi _ _ => by simpa [signs, Its] using hi, fun i d β st H v H' hd _ _ y => by
    obtain ⟨rfl, c, hc, rfl⟩ := y
    unfold signs at hd
    rw [List.getElem?_map, Array.getElem?_toList, hc] at hd
    cases hd
    exact ⟨fun _ _ h => h, .str _⟩, fun β st H _ _ => by simp [signs, Its]⟩
def zipD : List D → List D → List D
  | x :: r, y :: t => .tup [x, y] :: zipD r t
  | _, _ => []
theorem zip_get : ∀ {ds es : List D} {i : Nat} {z : D}, (zipD ds es)[i]? = some z → ∃ x y, z = .tup [x, y] ∧ ds[i]? = some x ∧ es[i]? = some y
  | x :: r, y :: t, 0, z, h => by cases h; exact ⟨x, y, rfl, rfl, rfl⟩
  | x :: r, y :: t, i + 1, z, h => by
    obtain ⟨u, v, h1, h2, h3⟩ := zip_get (ds := r) (es := t) (i := i) h
    exact ⟨u, v, h1, h2, h3⟩
  | [], _, _, _, h => by simp [zipD] at h
  | _ :: _, [], _, _, h => by simp [zipD] at h
theorem zip_len : ∀ {ds es : List D}, (zipD ds es).length = min ds.length es.length
  | [], es => by simp [zipD]
  | _ :: _, [] => by simp [zipD]
  | x :: r, y :: t => by
    simp only [zipD, List.length_cons]
    rw [zip_len (ds := r) (es := t)]
    omega
theorem wk_zipL {a b : Addr} {xs ys : List V} {ds es : List D} (s : SL β H a xs) (s2 : SL β H b ys) (ra : RA K β H xs ds) (rb : RA K β H ys es) : Wk K T β H (Itz K a b) (zipD ds es) := ⟨fun i β' st H' hi l _ => by
    rw [zip_len] at hi
    exact ⟨xs, ys, xs[i]'(by rw [ra.length]; omega), ys[i]'(by rw [rb.length]; omega), (s.le l).sq, (s2.le l).sq, by simp, by simp⟩, fun i d β' st H' v H2 hd l g y => by
    obtain ⟨Tt, x, y, rfl, hT, rfl, h1, h2⟩ := y
    obtain ⟨p, q, rfl, h3, h4⟩ := zip_get hd
    obtain ⟨x', e1, r1⟩ := ra.get h3
    obtain ⟨y', e2, r2⟩ := rb.get h4
    have z1 := h1 xs (s.le l).sq
    have z2 := h2 ys (s2.le l).sq
    rw [e1] at z1
    rw [e2] at z2
    cases z1
    cases z2
    exact ⟨keep_new hT, .tup ⟨.inl upd_same, g.ne hT⟩ (.cons ((r1.le l).le (.new hT)) (.cons ((r2.le l).le (.new hT)) .nil))⟩, fun β' st H' l _ => by
    refine ⟨xs, ys, (s.le l).sq, (s2.le l).sq, ?_⟩
    rw [zip_len, ra.length, rb.length]
    omega⟩
theorem wk_zipT {a b : Addr} {xs ys : List V} {ds es : List D} (s : ST β H a xs) (s2 : ST β H b ys) (ra : RA K β H xs ds) (rb : RA K β H ys es) : Wk K T β H (ItzT K a b) (zipD ds es) := ⟨fun i β' st H' hi l _ => by
    rw [zip_len] at hi
    exact ⟨xs, ys, xs[i]'(by rw [ra.length]; omega), ys[i]'(by rw [rb.length]; omega), (s.le l).sq, (s2.le l).sq, by simp, by simp⟩, fun i d β' st H' v H2 hd l g y => by
    obtain ⟨Tt, x, y, rfl, hT, rfl, h1, h2⟩ := y
    obtain ⟨p, q, rfl, h3, h4⟩ := zip_get hd
    obtain ⟨x', e1, r1⟩ := ra.get h3
    obtain ⟨y', e2, r2⟩ := rb.get h4
    have z1 := h1 xs (s.le l).sq
    have z2 := h2 ys (s2.le l).sq
    rw [e1] at z1
    rw [e2] at z2
    cases z1
    cases z2
    exact ⟨keep_new hT, .tup ⟨.inl upd_same, g.ne hT⟩ (.cons ((r1.le l).le (.new hT)) (.cons ((r2.le l).le (.new hT)) .nil))⟩, fun β' st H' l _ => by
    refine ⟨xs, ys, (s.le l).sq, (s2.le l).sq, ?_⟩
    rw [zip_len, ra.length, rb.length]
    omega⟩
def enumD : Nat → List D → List D
  | _, [] => []
  | i, x :: r => .tup [.int (i : Nat), x] :: enumD (i + 1) r
theorem enum_get : ∀ {k : Nat} {ds : List D} {i : Nat} {z : D}, (enumD k ds)[i]? = some z → ∃ x, z = .tup [.int ((k + i : Nat) : Int), x] ∧ ds[i]? = some x
  | k, x :: r, 0, z, h => by cases h; exact ⟨x, rfl, rfl⟩
  | k, x :: r, i + 1, z, h => by
    obtain ⟨u, h1, h2⟩ := enum_get (k := k + 1) (ds := r) (i := i) h
    exact ⟨u, by rw [h1]; have : k + 1 + i = k + (i + 1) := by omega
                 rw [this], h2⟩
  | _, [], _, _, h => by simp [enumD] at h
theorem enum_len : ∀ {k : Nat} {ds : List D}, (enumD k ds).length = ds.length
  | _, [] => rfl
  | k, x :: r => by simp only [enumD, List.length_cons]; rw [enum_len (k := k + 1) (ds := r)]
theorem wk_enumL {a : Addr} {xs : List V} {ds : List D} (s : SL β H a xs) (ra : RA K β H xs ds) : Wk K T β H (Ite K a) (enumD 0 ds) := ⟨fun i β' st H' hi l _ => by
    rw [enum_len] at hi
    exact ⟨xs, xs[i]'(by rw [ra.length]; omega), (s.le l).sq, by simp⟩, fun i d β' st H' v H2 hd l g y => by
    obtain ⟨Tt, x, rfl, hT, rfl, h1⟩ := y
    obtain ⟨p, rfl, h3⟩ := enum_get hd
    obtain ⟨x', e1, r1⟩ := ra.get h3
    have z1 := h1 xs (s.le l).sq
    rw [e1] at z1
    cases z1
    rw [Nat.zero_add]
    exact ⟨keep_new hT, .tup ⟨.inl upd_same, g.ne hT⟩ (.cons (.int _) (.cons ((r1.le l).le (.new hT)) .nil))⟩, fun β' st H' l _ => ⟨xs, (s.le l).sq, by rw [enum_len, ra.length]; exact Nat.le_refl _⟩⟩
end
/-- a list, a tuple, a text -/
def iAny (K : PySem.W.Frag) (tl : TE) : TI := fun σ H Rr => tl σ H fun x H1 => (∃ a, x = .ref a ∧ (∃ xs, SqL K H1 a xs) ∧ Rr (Itl K a) H1) ∨ (∃ a, x = .ref a ∧ (∃ xs, SqT K H1 a xs) ∧ Rr (Itt K a) H1) ∨ (∃ w, x = .str w ∧ Rr (Its w) H1)
theorem pi_any {X : Cx} {tg l : Expr} {tl : TE} (hl : PE X l tl) : PI X tg l (iAny X.K tl) := by
  refine ⟨fun pins s σ H Rr I h => ?_⟩
  refine thn (hl.run pins s σ H _ I h) fun v s1 ⟨x, H1, I1, r1, q1⟩ => ?_
  rcases q1 with ⟨a, e, ⟨xs, hq⟩, q⟩ | ⟨a, e, ⟨xs, hq⟩, q⟩ | ⟨w, e, q⟩
  · subst e
    cases r1
    obtain ⟨its, rv, p, hz⟩ := I1.list hq
    refine wpAny_pyIter_list p.isList ?_
    refine ⟨s1.heap.objs.size, [s1.heap.objs.size], _, _, H1, rfl, I1.kept (t' := s1.toks) fun b o e => Heap.get?_push_of_some _ e, turn_list a _, ⟨_, Heap.get?_push_size _ rfl, rfl, rfl⟩, fun b hb => ?_, q⟩
    have e : b = s1.heap.objs.size := by simpa using hb
    subst e
    exact I1.fpOk (Nat.le_refl _) (I1.hok.fresh (Nat.le_refl _))
  · subst e
    cases r1
    obtain ⟨its, rv, p, hz⟩ := I1.tuple hq
    refine wpAny_pyIter_tuple (show s1.heap.IsTuple a its.toArray from p) ?_
    refine ⟨s1.heap.objs.size, [s1.heap.objs.size], _, _, H1, rfl, I1.kept (t' := s1.toks) fun b o e => Heap.get?_push_of_some _ e, turn_tuple a _, ⟨_, Heap.get?_push_size _ rfl, rfl, rfl⟩, fun b hb => ?_, q⟩
    have e : b = s1.heap.objs.size := by simpa using hb
    subst e
    exact I1.fpOk (Nat.le_refl _) (I1.hok.fresh (Nat.le_refl _))
  · subst e
    obtain ⟨t, rfl⟩ := r1
    cases ha : w.cps.all (· < 128)
    · exact wpAny_pyIter_wide ha (pi_one (tk := s1.toks) I1 _ (turn_str _ w t "str_iterator" (.inr rfl)) ⟨_, Heap.get?_push_size _ rfl, rfl, rfl⟩ q)
    · exact wpAny_pyIter_ascii ha (pi_one (tk := s1.toks) I1 _ (turn_str _ w t "str_ascii_iterator" (.inl rfl)) ⟨_, Heap.get?_push_size _ rfl, rfl, rfl⟩ q)
def wlk : D → Option (List D)
  | .lst l => some l
  | .tup l => some l
  | .scr l => some (l.map D.int)
  | .str x => some (signs x)
  | _ => none
def fWk (F : Fn D) : Fn (List D) := bnd F fun d => lft (wlk d)
def fRg1 (A : Fn (List D)) : Fn (List D) := bnd A fun ds => fun _ bx => match ds with
  | [.int j] => if -(2 ^ 62) ≤ j ∧ j < 2 ^ 62 then .ok (rgl 0 j.toNat) bx else .bad
  | _ => .bad
def fRg2 (A : Fn (List D)) : Fn (List D) := bnd A fun ds => fun _ bx => match ds with
  | [.int i, .int j] => if -(2 ^ 62) ≤ i ∧ i < 2 ^ 62 ∧ -(2 ^ 62) ≤ j ∧ j < 2 ^ 62 then .ok (rgl i (j - i).toNat) bx else .bad
  | _ => .bad
def fZip (A : Fn (List D)) : Fn (List D) := bnd A fun ds => fun _ bx => match ds with
  | [.lst l, .lst m] => .ok (zipD l m) bx
  | [.tup l, .tup m] => .ok (zipD l m) bx
  | _ => .bad
def fEnum (A : Fn (List D)) : Fn (List D) := bnd A fun ds => fun _ bx => match ds with
  | [.lst l] => .ok (enumD 0 l) bx
  | _ => .bad
section
variable {X : Cx} {P : Pm} {E : XK} {pos : Pos} {tg a b : Expr} {A : Fn (List D)} {F : Fn D}
theorem ei_any_imp {K : PySem.W.Frag} {P : Pm} {E : XK} {F : Fn D} : ∀ {σ : L2.St} {H : Hp} {Q : It → Hp → Prop}, tDL K P E (fWk F) σ H Q → iAny K (tD K P E F) σ H Q := by
  rintro σ H Q ⟨β, δ, bx, ev, g, o⟩
  refine d_bind ev g o fun β1 bx1 x d H1 l1 g1 r1 o1 => ?_
  obtain ⟨ds, hd, k⟩ := OutX.lft' o1
  have q := k β1 H1 .refl g1 g1
  cases r1 with
  | lst s ra => cases hd; exact .inl ⟨_, rfl, ⟨_, s.sq⟩, q _ (wk_list s ra)⟩
  | tup s ra => cases hd; exact .inr (.inl ⟨_, rfl, ⟨_, s.sq⟩, q _ (wk_tup s ra)⟩)
  | scr s => cases hd; exact .inl ⟨_, rfl, ⟨_, s.sq⟩, q _ (wk_scr s)⟩
  | str x => cases hd; exact .inr (.inr ⟨_, rfl, q _ wk_str⟩)
  | non => cases hd
  | bl _ => cases hd
  | int _ => cases hd
  | ref _ => cases hd
  | fn _ _ => cases hd
theorem ei_any (ha : ED X P E a F) : EI X P E tg a (fWk F) := pi_imp (pi_any ha) fun _ _ _ h => ei_any_imp h
theorem ei_rg1 {p : Pos} (hg : Gl X "range") (hm : X.mg "range" = none) (ha : EA X P E [a] A) (hs : starEach [a] X.env = [(false, eval a X.env)] := by rfl) : EI X P E tg (.Call (.Name "range" p) [a] [] pos) (fRg1 A) := by
  refine pi_imp (pi_range1 hg hm ha hs) ?_
  rintro σ H Q ⟨β, δ, bx, ev, g, o⟩
  refine a_bind ev g o fun β1 bx1 xs ds H1 l1 g1 r1 o1 => ?_
  split at o1
  · split at o1
    · rename_i j hj
      obtain ⟨v, rfl, r⟩ := r1.one
      exact ⟨j, by rw [r.int_inv], hj.1, hj.2, o1 β1 H1 .refl g1 g1 _ (wk_range _ _)⟩
    · exact o1.elim
  · exact o1.elim
theorem ei_rg2 {p : Pos} (hg : Gl X "range") (hm : X.mg "range" = none) (ha : EA X P E [a, b] A) (hs : starEach [a, b] X.env = [(false, eval a X.env), (false, eval b X.env)] := by rfl) (hs2 : starEach [b] X.env = [(false, eval b X.env)] := by rfl) : EI X P E tg (.Call (.Name "range" p) [a, b] [] pos) (fRg2 A) := by
  refine pi_imp (pi_range2 hg hm ha hs hs2) ?_
  rintro σ H Q ⟨β, δ, bx, ev, g, o⟩
  refine a_bind ev g o fun β1 bx1 xs ds H1 l1 g1 r1 o1 => ?_
  split at o1
  · split at o1
    · rename_i i j hj
      obtain ⟨v, w, rfl, r, r'⟩ := r1.two
      exact ⟨i, j, by rw [r.int_inv, r'.int_inv], hj, o1 β1 H1 .refl g1 g1 _ (wk_range _ _)⟩
    · exact o1.elim
  · exact o1.elim
theorem ei_zip {p tpos : Pos} {elts : List Expr} {kk : Nat} (hg : Gl X "zip") (hm : X.mg "zip" = none) (ha : EA X P E [a, b] A)
    (hs : starEach [a, b] X.env = (false, eval a X.env) :: starEach [b] X.env := by rfl) (hpl : (backTo pos (starEach [b] X.env)).any (·.1) = false := by rfl) : EI X P E (.Tuple elts kk tpos) (.Call (.Name "zip" p) [a, b] [] pos) (fZip A) := by
  refine pi_imp (pi_zipA hg hm ha hs hpl) ?_
  rintro σ H Q ⟨β, δ, bx, ev, g, o⟩
  refine a_bind ev g o fun β1 bx1 xs ds H1 l1 g1 r1 o1 => ?_
  split at o1
  · obtain ⟨v, w, rfl, r, r'⟩ := r1.two
    have q := o1 β1 H1 .refl g1 g1
    cases r with
    | lst s ra => cases r' with
      | lst s2 rb => exact ⟨_, _, _, _, rfl, .inl ⟨s.sq, s2.sq, q _ (wk_zipL s s2 ra rb)⟩⟩
  · obtain ⟨v, w, rfl, r, r'⟩ := r1.two
    have q := o1 β1 H1 .refl g1 g1
    cases r with
    | tup s ra => cases r' with
      | tup s2 rb => exact ⟨_, _, _, _, rfl, .inr ⟨s.sq, s2.sq, q _ (wk_zipT s s2 ra rb)⟩⟩
  · exact o1.elim
theorem ei_enum {p tpos : Pos} {elts : List Expr} {kk : Nat} (hg : Gl X "enumerate") (hm : X.mg "enumerate" = none) (ha : EA X P E [a] A) (hs : starEach [a] X.env = [(false, eval a X.env)] := by rfl) : EI X P E (.Tuple elts kk tpos) (.Call (.Name "enumerate" p) [a] [] pos) (fEnum A) := by
  refine pi_imp (pi_enum hg hm ha hs) ?_
  rintro σ H Q ⟨β, δ, bx, ev, g, o⟩
  refine a_bind ev g o fun β1 bx1 xs ds H1 l1 g1 r1 o1 => ?_
  split at o1
  · obtain ⟨v, rfl, r⟩ := r1.one
    have q := o1 β1 H1 .refl g1 g1
    cases r with
    | lst s ra => exact ⟨_, _, rfl, s.sq, q _ (wk_enumL s ra)⟩
  · exact o1.elim
end
/-! ### what a turn binds -/
abbrev Bd := Sto → List (Option D) → D → Option (List (Option D))
def bOne (i : Nat) : Bd := fun _ δ d => some (δ.set i (some d))
def bTup (is : List Nat) : Bd := fun bx δ d => (vs bx d).bind fun l => setAll is l δ
/-- the target t binds the slots is, by b -/
def GD (K : PySem.W.Frag) (t : TG) (is : List Nat) (b : Bd) : Prop := ∀ (T : Tb) (β : Mu) (st : Sto) (δ δ' : List (Option D)) (σ : L2.St) (H : Hp) (v : V) (d : D) (Q : L2.St → Hp → Prop), Ev K β H σ δ → Good K T β st H → R K β H v d → b st δ d = some δ' →
  (∀ σ', Ev K β H σ' δ' → (∀ vs, (∀ i ∈ is, i ∈ vs) → wipe σ' vs = wipe σ vs) → Q σ' H) → t v σ H Q
theorem wipe_get (σ : L2.St) : ∀ (vs : List Nat) (j : Nat), (wipe σ vs)[j]? = if j ∈ vs ∧ j < σ.length then some none else σ[j]?
  | [], j => by simp [wipe]
  | v :: vs, j => by
    show ((wipe σ vs).set v none)[j]? = _
    by_cases h : v = j
    · subst h
      by_cases hl : v < σ.length
      · rw [List.getElem?_set_self (by rw [wipe_length]; exact hl), if_pos ⟨List.mem_cons_self, hl⟩]
      · rw [List.getElem?_eq_none (by rw [List.length_set, wipe_length]; omega), if_neg (fun z => hl z.2), List.getElem?_eq_none (by omega)]
    · rw [List.getElem?_set_ne h, wipe_get σ vs j]
      by_cases hj : j ∈ vs ∧ j < σ.length
      · rw [if_pos hj, if_pos ⟨List.mem_cons_of_mem _ hj.1, hj.2⟩]
      · rw [if_neg hj, if_neg (fun z => hj ⟨(List.mem_cons.mp z.1).resolve_left (Ne.symm h), z.2⟩)]
theorem wipe_set {σ : L2.St} {i : Nat} {o : Option V} {vs : List Nat} (h : i ∈ vs) : wipe (σ.set i o) vs = wipe σ vs := by
  refine List.ext_getElem? fun j => ?_
  rw [wipe_get, wipe_get, List.length_set]
  by_cases hj : j ∈ vs ∧ j < σ.length
  · rw [if_pos hj, if_pos hj]
  · rw [if_neg hj, if_neg hj]
    by_cases e : i = j
    · subst e
      have : ¬ i < σ.length := fun z => hj ⟨h, z⟩
      rw [List.getElem?_eq_none (by rw [List.length_set]; omega), List.getElem?_eq_none (by omega)]
    · rw [List.getElem?_set_ne e]
theorem gd_one {K : PySem.W.Frag} (i : Nat) : GD K (gName i) [i] (bOne i) := fun T β st δ δ' σ H v d Q ev g r hb k => by
  cases hb
  exact k _ (ev.set i r) fun vs h => wipe_set (h i List.mem_cons_self)
theorem tNames_ofW {K : PySem.W.Frag} {β : Mu} {H : Hp} {Z : L2.St → Hp → Prop} : ∀ {is : List Nat} {ds : List D} {δ δ' : List (Option D)} {vs : List V} {σ : L2.St}, setAll is ds δ = some δ' → RA K β H vs ds → Ev K β H σ δ → (∀ σ', Ev K β H σ' δ' → (∀ ws, (∀ i ∈ is, i ∈ ws) → wipe σ' ws = wipe σ ws) → Z σ' H) → tNames is vs σ H Z
  | [], [], δ, δ', vs, σ, h, r, ev, k => by
    cases r
    cases h
    exact ⟨rfl, k σ ev fun _ _ => rfl⟩
  | [], _ :: _, _, _, _, _, h, _, _, _ => by cases h
  | _ :: _, [], _, _, _, _, h, _, _, _ => by cases h
  | i :: is, d :: ds, δ, δ', _, σ, h, .cons (v := v) (vs := vs) r ra, ev, k => ⟨v, vs, rfl, tNames_ofW (is := is) h ra (ev.set i r) fun σ' ev' hw => k σ' ev' fun ws hm => (hw ws fun j hj => hm j (List.mem_cons_of_mem _ hj)).trans (wipe_set (hm i List.mem_cons_self))⟩
abbrev gTL (K : PySem.W.Frag) (n : Nat) (is : List Nat) : TG := fun v σ H Q => gTup K n (tNames is) v σ H Q ∨ gLst K n (tNames is) v σ H Q
theorem gd_tup {K : PySem.W.Frag} (is : List Nat) {n : Nat} (hn : is.length = n) : GD K (gTL K n is) is (bTup is) := fun T β st δ δ' σ H v d Q ev g r hb k => by
  unfold bTup at hb
  cases hl : vs st d with
  | none => rw [hl] at hb; cases hb
  | some l =>
    rw [hl] at hb
    replace hb : setAll is l δ = some δ' := hb
    obtain ⟨a, xs, rfl, s, ra⟩ := r.vs g hl
    rcases s with s | s
    · exact .inr ⟨_, _, rfl, s, by rw [ra.length, ← hn]; exact setAll_len hb, tNames_ofW hb ra ev k⟩
    · exact .inl ⟨_, _, rfl, s, by rw [ra.length, ← hn]; exact setAll_len hb, tNames_ofW hb ra ev k⟩
theorem pg_tl {X : Cx} {is : List Nat} {kk : Nat} {p : Pos} {tgs : List Expr} {n : Nat} (hc : X.calm = true) (ht : PGs X tgs (tNames is)) (hn : (assignEach tgs X.env).length = n := by rfl) (hst : (assignEach tgs X.env).findIdx? (·.1) = none := by rfl) : PG X (.Tuple tgs kk p) (gTL X.K n is) :=
  pg_or (pg_tup hc ht hn hst) (pg_lst hc ht hn hst)
/-! ### for -/
def forL (b : Bd) (S : Sn) : List D → Sn
  | [], δ, bx => .nx δ bx
  | d :: r, δ, bx => match b bx δ d with
    | none => .bad
    | some δ1 => match S δ1 bx with
      | .nx δ' bx' => forL b S r δ' bx'
      | .rt e bx' => .rt e bx'
      | .er c e bx' => .er c e bx'
      | .bad => .bad
def sFor (b : Bd) (F : Fn (List D)) (S : Sn) : Sn := sOf F fun ds => forL b S ds
section
variable {X : Cx} {P : Pm} {E : XK} {pos : Pos}
theorem sd_for {t : TG} {is : List Nat} {b : Bd} {tg it : Expr} {body : List Stmt} {F : Fn (List D)} {S : Sn} (hp : PassesOwn (model X.prog X.w) X.A X.env X.xe) (hc : X.calm = true) (hi : EI X P E tg it F) (hg : PG X tg t) (hgd : GD X.K t is b) (hb : SSD X P E body S)
    (hs : ∀ x, foldedSetIterable it X.env x = pure x := by intro _; rfl) : SD X P E (.For tg it body [] pos) (sFor b F S) := by
  refine ps_imp (ps_for hp hc hi hg hb hs) ?_
  rintro Z σ H ⟨β, δ, bx, ev, g, o⟩
  refine ⟨β, δ, bx, ev, g, ?_⟩
  unfold sFor sOf at o
  cases hF : F δ bx with
  | bad =>
    rw [hF] at o
    exact o
  | err c d bx' =>
    rw [hF] at o
    exact o
  | ok ds bx1 =>
    rw [hF] at o
    intro β1 H1 l1 g1 _ J wk
    refine ⟨fun i m σ' H' => m = ds.length - i ∧ i ≤ ds.length ∧ ∃ β' δ' bx', Le β1 H1 β' H' ∧ Ev X.K β' H' σ' δ' ∧ Good X.K P.T β' bx' H' ∧ OutS X.K P β1 H1 (forL b S (ds.drop i) δ' bx') Z E, ⟨ds.length, rfl, Nat.zero_le _, β1, δ, bx1, .refl, ev.le l1, g1, OutS.le l1 (by simpa using o)⟩, ?_⟩
    rintro i m σ' H' ⟨rfl, hi, β', δ', bx', l, ev', g', o'⟩
    by_cases hlt : i < ds.length
    · refine .inr ⟨wk.goes i β' bx' H' hlt l g', fun σ2 H2 => ∃ β2 δ2 bx2, Le β1 H1 β2 H2 ∧ Ev X.K β2 H2 σ2 δ2 ∧ Good X.K P.T β2 bx2 H2 ∧ OutS X.K P β1 H1 (forL b S (ds.drop (i + 1)) δ2 bx2) Z E, fun σ2 H2 h => ⟨ds.length - (i + 1), by omega, rfl, hlt, h⟩, fun x H2 y => ?_⟩
      have hdi : ds[i]? = some ds[i] := List.getElem?_eq_getElem hlt
      obtain ⟨kp, rx⟩ := wk.yields i _ β' bx' H' x H2 hdi l g' y
      rw [List.drop_eq_getElem_cons hlt] at o'
      simp only [forL] at o'
      cases hbd : b bx' δ' ds[i] with
      | none =>
        rw [hbd] at o'
        exact o'.elim
      | some δ1 =>
        rw [hbd] at o'
        dsimp only at o'
        refine hgd P.T β' bx' δ' δ1 σ' H2 x _ _ (ev'.le (.of kp)) (g'.ext kp) rx hbd fun σ3 ev3 _ => ?_
        refine ⟨β', δ1, bx', ev3, g'.ext kp, ?_⟩
        have lk := l.trans (.of kp)
        cases hS : S δ1 bx' with
        | nx δ2 bx2 =>
          rw [hS] at o'
          exact fun β2 σ2 H4 l2 g2 ev2 => ⟨β2, δ2, bx2, lk.trans l2, ev2, g2, o'⟩
        | rt e b =>
          rw [hS] at o'
          exact fun β2 v H4 l2 g2 r => o' β2 v H4 (lk.trans l2) g2 r
        | er c e b =>
          rw [hS] at o'
          exact OutE.le lk o'
        | bad =>
          rw [hS] at o'
          exact o'
    · have e : i = ds.length := by omega
      subst e
      rw [List.drop_length] at o'
      exact .inl ⟨wk.stops β' bx' H' l g', o' β' σ' H' l g' ev'⟩
end
/-! ### list comprehensions -/
def unset : List Nat → List (Option D) → List (Option D)
  | [], δ => δ
  | i :: is, δ => (unset is δ).set i none
def lcGo (b : Bd) (δ : List (Option D)) (C : Fn Bool) (F : Fn D) : List D → Sto → List D → Res (List D)
  | [], bx, acc => .ok acc bx
  | d :: r, bx, acc => match b bx δ d with
    | none => .bad
    | some δ1 => match C δ1 bx with
      | .ok true bx1 => (match F δ1 bx1 with
        | .ok d bx2 => lcGo b δ C F r bx2 (acc ++ [d])
        | _ => .bad)
      | .ok false bx1 => lcGo b δ C F r bx1 acc
      | _ => .bad
def fLcA (is : List Nat) (b : Bd) (Fi : Fn (List D)) (C : Fn Bool) (F : Fn D) : Fn (List D) := bnd Fi fun ds => fun δ bx => if ds.length ≤ 1000000 then lcGo b (unset is δ) C F ds bx [] else .bad
def fLc (is : List Nat) (b : Bd) (Fi : Fn (List D)) (C : Fn Bool) (F : Fn D) : Fn D := bnd (fLcA is b Fi C F) fun l => pur (.lst l)
def fLcM (is : List Nat) (b : Bd) (Fi : Fn (List D)) (C : Fn Bool) (F : Fn D) : Fn D := bnd (fLcA is b Fi C F) fun l => fun _ bx => .ok (.ref bx.length) (bx ++ [.lst l])
theorem Ev.unset {K : PySem.W.Frag} {β : Mu} {H : Hp} {σ : L2.St} {δ : List (Option D)} (e : Ev K β H σ δ) : ∀ is : List Nat, Ev K β H (wipe σ is) (Ms.unset is δ)
  | [] => e
  | i :: is => (Ev.unset e is).none_ i
def LcK (K : PySem.W.Frag) (β : Mu) (H : Hp) (Q : VK) : List D → Mu → Sto → Hp → Prop := fun ds βi _ Hi => ∀ p xs, (∀ o, H p = some o → ∃ ps, o = .tbl ps) → p ∈ βi.ex → p ∉ β.ex → Hi p = some (.lst xs) → RA K βi Hi xs ds → Q (.ref p) Hi
theorem wipe_wipe (σ : L2.St) (is : List Nat) : wipe (wipe σ is) is = wipe σ is := by
  refine List.ext_getElem? fun j => ?_
  rw [wipe_get, wipe_length, wipe_get]
  by_cases hj : j ∈ is ∧ j < σ.length
  · rw [if_pos hj, if_pos hj]
  · rw [if_neg hj]
theorem hid_kp {K : PySem.W.Frag} {T : Tb} {β β' : Mu} {st : Sto} {H H' : Hp} {p : Addr} {l : List V} (le : Le β H β' H') (g : Good K T β st H) (hx : p ∈ β.ex) (h : H p = some (.lst l)) : H' p = some (.lst l) := le.kp _ _ h ((g.ex p hx).2 true) fun ps z => by cases z
theorem Le.cellAt {K : PySem.W.Frag} {T : Tb} {β βi : Mu} {st : Sto} {H Hi : Hp} {p : Addr} (l : Le β H βi Hi) (h0 : ∀ o, H p = some o → ∃ ps, o = .tbl ps) (g : Good K T βi st Hi) (hp : p ∈ βi.ex) : Le β H ((βi.back β.ex).cell p) Hi := ⟨fun k a b h => by
    obtain ⟨b', h1, h2⟩ := l.cs k a b h
    exact ⟨b', cell_old h1, h2⟩, fun k a b h n o ho => by
    rcases cell_get h with h | ⟨_, rfl, _⟩
    · exact l.nw k a b h n o ho
    · exact h0 o ho, fun _ h => h, fun e h n => (n h).elim, l.kp, l.dm⟩
theorem cellAt_ok {β βi : Mu} {p a : Addr} (s : ∀ e, e ∈ β.ex → e ∈ βi.ex) (hp : p ∈ βi.ex) (h : βi.ok a) : ((βi.back β.ex).cell p).ok a := by
  refine ⟨fun z => ?_, fun z => h.2 (s a z)⟩
  rcases List.mem_append.mp (show (a, true) ∈ βi.cs ++ [(p, true)] from z) with z | z
  · exact h.1 z
  · cases List.mem_singleton.mp z
    exact h.2 hp
mutual
theorem R.cellAt {K : PySem.W.Frag} {β βi : Mu} {H : Hp} {p : Addr} (s : ∀ e, e ∈ β.ex → e ∈ βi.ex) (hp : p ∈ βi.ex) : ∀ {v : V} {d : D}, R K βi H v d → R K ((βi.back β.ex).cell p) H v d
  | _, _, .non => .non
  | _, _, .bl b => .bl b
  | _, _, .int i => .int i
  | _, _, .str x => .str x
  | _, _, .lst h r => .lst ⟨h.1, cellAt_ok s hp h.2⟩ (RA.cellAt s hp r)
  | _, _, .tup h r => .tup ⟨h.1, cellAt_ok s hp h.2⟩ (RA.cellAt s hp r)
  | _, _, .ref h => .ref (cell_old h)
  | _, _, .fn h k => .fn h k
  | _, _, .scr h => .scr (h.imp (fun h => ⟨h.1, cellAt_ok s hp h.2⟩) id)
theorem RA.cellAt {K : PySem.W.Frag} {β βi : Mu} {H : Hp} {p : Addr} (s : ∀ e, e ∈ β.ex → e ∈ βi.ex) (hp : p ∈ βi.ex) : ∀ {vs : List V} {ds : List D}, RA K βi H vs ds → RA K ((βi.back β.ex).cell p) H vs ds
  | _, _, .nil => .nil
  | _, _, .cons h r => .cons (R.cellAt s hp h) (RA.cellAt s hp r)
end
theorem Good.cellAt {K : PySem.W.Frag} {T : Tb} {β βi : Mu} {st : Sto} {H : Hp} {p : Addr} {xs : List V} {ds : List D} (g : Good K T βi st H) (s : ∀ e, e ∈ β.ex → e ∈ βi.ex) (hp : p ∈ βi.ex) (np : p ∉ β.ex) (h : H p = some (.lst xs)) (r : RA K βi H xs ds) : Good K T ((βi.back β.ex).cell p) (st ++ [.lst ds]) H := by
  have nc := (g.ex p hp).2
  refine ⟨?_, fun k c b hk => ?_, fun i j c b hi hj => ?_, fun k c b hk => ?_, fun e he => ?_, g.tb⟩
  · show (βi.cs ++ [(p, true)]).length = _
    rw [List.length_append, List.length_append, g.ln]
    rfl
  · rcases cell_get hk with h' | ⟨rfl, rfl, rfl⟩
    · obtain ⟨cl, h1, h2⟩ := g.cs k c b h'
      refine ⟨cl, by rw [List.getElem?_append_left (List.getElem?_eq_some_iff.mp h1).1]; exact h1, ?_⟩
      cases cl with
      | dead => exact h2
      | lam m => exact h2
      | lst es =>
        obtain ⟨h3, ys, h4, h5⟩ := h2
        exact ⟨h3, ys, h4, h5.cellAt s hp⟩
    · refine ⟨.lst ds, ?_, rfl, xs, h, r.cellAt s hp⟩
      show (st ++ [.lst ds])[βi.cs.length]? = _
      rw [g.ln, List.getElem?_append_right (Nat.le_refl _), Nat.sub_self]
      rfl
  · rcases cell_get hi with h' | ⟨rfl, rfl, _⟩
    · rcases cell_get hj with h'' | ⟨rfl, rfl, _⟩
      · exact g.inj i j c b h' h''
      · exact (nc true (List.mem_of_getElem? h')).elim
    · rcases cell_get hj with h'' | ⟨rfl, _, _⟩
      · exact (nc b (List.mem_of_getElem? h'')).elim
      · rfl
  · rcases cell_get hk with h' | ⟨rfl, rfl, rfl⟩
    · exact g.sm k c b h'
    · exact ⟨_, h, fun ps z => by cases z⟩
  · obtain ⟨m, q⟩ := g.ex e (s e he)
    refine ⟨m, fun b z => ?_⟩
    rcases List.mem_append.mp (show (e, b) ∈ βi.cs ++ [(p, true)] from z) with z | z
    · exact q b z
    · cases List.mem_singleton.mp z
      exact np he
theorem lc_core_of {K : PySem.W.Frag} {P : Pm} {E : XK} {t : TG} {is : List Nat} {b : Bd} {Fi : Fn (List D)} {C : Fn Bool} {F : Fn D} (hgd : GD K t is b) {β : Mu} {δ : List (Option D)} {bx : Sto} {σ : L2.St} {H : Hp} {Q : VK} (ev : Ev K β H σ δ) (g : Good K P.T β bx H)
    (o : OutX P K β H (fLcA is b Fi C F δ bx) E (LcK K β H Q)) {tt : TT} (htt : ∀ σ2 H2 Q2, wipe σ2 is = wipe σ is → tDT K P E C σ2 H2 Q2 → tt σ2 H2 Q2) : tLc (tDL K P E Fi) t tt (tD K P E F) is σ H Q := by
  have o2 := x_bind o
  refine ⟨β, δ, bx, ev, g, ?_⟩
  cases hF : Fi δ bx with
  | bad =>
    rw [hF] at o2
    exact o2
  | err c d bx' =>
    rw [hF] at o2
    exact o2
  | ok ds bx1 =>
    rw [hF] at o2
    intro β1 H1 l1 g1 _ J wk Dd hD
    have o3 := o2 β1 H1 l1 g1 l1
    split at o3
    case isFalse => exact o3.elim
    case isTrue hn =>
    have hD0 : ∀ o, H Dd = some o → ∃ ps, o = .tbl ps := fun u e => by
      by_cases ht : ∃ ps, u = .tbl ps
      · exact ht
      · obtain ⟨o', z, _⟩ := l1.dm Dd u e fun ps z => ht ⟨ps, z⟩
        rw [hD] at z
        cases z
    have ev1 : Ev K (β1.hide Dd) (upd H1 Dd (.lst [])) (wipe σ is) (Ms.unset is δ) := ((ev.le l1).le (.hide hD)).unset is
    have le0 : Le β1 H1 (β1.hide Dd) (upd H1 Dd (.lst [])) := .hide hD
    refine ⟨fun i m Hc => m = ds.length - i ∧ i ≤ ds.length ∧ ∃ βi bx' acc as, Le β1 H1 βi Hc ∧ Dd ∈ βi.ex ∧ Ev K βi Hc (wipe σ is) (Ms.unset is δ) ∧ Good K P.T βi bx' Hc ∧ RA K βi Hc acc as ∧ Hc Dd = some (.lst acc) ∧ acc.length ≤ i ∧
      OutX P K β1 H1 (lcGo b (Ms.unset is δ) C F (ds.drop i) bx' as) E (LcK K β H Q),
      ⟨ds.length, rfl, Nat.zero_le _, β1.hide Dd, bx1, [], [], le0, List.mem_cons_self, ev1, g1.hide hD, .nil, upd_same, Nat.le_refl _, by simpa using o3⟩, ?_⟩
    rintro i m Hi ⟨rfl, hi, βi, bx', acc, as, li, hx, evi, gi, ra, hd, hl, oi⟩
    have nok : ∀ {β' : Mu}, Dd ∈ β'.ex → ¬ β'.ok Dd := fun h z => z.2 h
    by_cases hlt : i < ds.length
    · refine .inr ⟨wk.goes i βi bx' Hi hlt li gi, fun Hc => ∃ βi bx' acc as, Le β1 H1 βi Hc ∧ Dd ∈ βi.ex ∧ Ev K βi Hc (wipe σ is) (Ms.unset is δ) ∧ Good K P.T βi bx' Hc ∧ RA K βi Hc acc as ∧ Hc Dd = some (.lst acc) ∧ acc.length ≤ i + 1 ∧
        OutX P K β1 H1 (lcGo b (Ms.unset is δ) C F (ds.drop (i + 1)) bx' as) E (LcK K β H Q), fun H2 h => ⟨ds.length - (i + 1), by omega, rfl, hlt, h⟩, fun x H2 y => ?_⟩
      have hdi : ds[i]? = some ds[i] := List.getElem?_eq_getElem hlt
      obtain ⟨kp, rx⟩ := wk.yields i _ βi bx' Hi x H2 hdi li gi y
      have lk : Le βi Hi βi H2 := .of kp
      rw [List.drop_eq_getElem_cons hlt] at oi
      simp only [lcGo] at oi
      cases hbd : b bx' (Ms.unset is δ) ds[i] with
      | none =>
        rw [hbd] at oi
        exact oi.elim
      | some δ1 =>
        rw [hbd] at oi
        dsimp only at oi
        refine hgd P.T βi bx' _ δ1 _ H2 x _ _ (evi.le lk) (gi.ext kp) rx hbd fun σ3 ev3 hw => ?_
        refine ⟨(hw is fun _ h => h).trans (wipe_wipe σ is), htt _ _ _ ((hw is fun _ h => h).trans (wipe_wipe σ is)) ⟨βi, δ1, bx', ev3, gi.ext kp, ?_⟩⟩
        cases hC : C δ1 bx' with
        | bad =>
          rw [hC] at oi
          exact oi
        | err c d b =>
          rw [hC] at oi
          exact oi.elim
        | ok c bx2 =>
          rw [hC] at oi
          intro β3 H3 l3 g3
          cases c with
          | false =>
            dsimp only at oi
            refine iteF ⟨β3, bx2, acc, as, (li.trans lk).trans l3, l3.e1 _ hx, (evi.le lk).le l3, g3, (ra.le lk).le l3, ?_, by omega, oi⟩
            exact hid_kp l3 (gi.ext kp) hx (kp _ _ hd)
          | true =>
            dsimp only at oi
            refine iteT ⟨β3, δ1, bx2, ev3.le l3, g3, ?_⟩
            cases hE : F δ1 bx2 with
            | bad =>
              rw [hE] at oi
              exact oi
            | err c d b =>
              rw [hE] at oi
              exact oi.elim
            | ok d bx3 =>
              rw [hE] at oi
              intro β4 y H4 l4 g4 ry
              have hx3 := l3.e1 _ hx
              have hx4 := l4.e1 _ hx3
              have hd3 : H3 Dd = some (.lst acc) := hid_kp l3 (gi.ext kp) hx (kp _ _ hd)
              have hd4 : H4 Dd = some (.lst acc) := hid_kp l4 g3 hx3 hd3
              have la := ((li.trans lk).trans l3).trans l4
              refine ⟨acc, hd4, by rw [sizeLine_eq]; omega, β4, bx3, acc ++ [y], as ++ [d], la.updN hD hd4, hx4, (((evi.le lk).le l3).le l4).upd (nok hx4), g4.updX hx4 hd4, ((((ra.le lk).le l3).le l4).append (.cons ry .nil)).upd (nok hx4), upd_same, by rw [List.length_append]; simp; omega, oi⟩
    · have e : i = ds.length := by omega
      subst e
      rw [List.drop_length] at oi
      simp only [lcGo] at oi
      have nx : Dd ∉ β.ex := fun z => (g1.ne hD).2 (l1.e1 _ z)
      exact .inl ⟨wk.stops βi bx' Hi li gi, oi βi Hi li gi Dd acc hD0 hx nx hd ra⟩
section
variable {X : Cx} {P : Pm} {E : XK} {pos : Pos} {t : TG} {is : List Nat} {b : Bd} {tg iter elt : Expr} {scope : Scope} {Fi : Fn (List D)} {C : Fn Bool} {F : Fn D} {ifs : List Expr} {own : List (Str × Nat)}
theorem tLc_of (hgd : GD X.K t is b) : ∀ σ H Q, tD X.K P E (fLc is b Fi C F) σ H Q → tLc (tDL X.K P E Fi) t (tDT X.K P E C) (tD X.K P E F) is σ H Q := by
  rintro σ H Q ⟨β, δ, bx, ev, g, o⟩
  refine lc_core_of hgd ev g ?_ (fun _ _ _ _ h => h)
  unfold fLc bnd at o
  cases hF : fLcA is b Fi C F δ bx with
  | bad => rw [hF] at o; exact o
  | err c d bx' => rw [hF] at o; exact o
  | ok ds bx' =>
    rw [hF] at o
    exact fun βi Hi l gi p xs _ hp np h ra => o (βi.back β.ex) (.ref p) Hi l.back (gi.back l.e1) (.lst ⟨.inl h, fun z => (gi.ex p hp).2 true z, np⟩ (ra.back l.e1))
theorem tLcM_of (hgd : GD X.K t is b) : ∀ σ H Q, tD X.K P E (fLcM is b Fi C F) σ H Q → tLc (tDL X.K P E Fi) t (tDT X.K P E C) (tD X.K P E F) is σ H Q := by
  rintro σ H Q ⟨β, δ, bx, ev, g, o⟩
  refine lc_core_of hgd ev g ?_ (fun _ _ _ _ h => h)
  unfold fLcM bnd at o
  cases hF : fLcA is b Fi C F δ bx with
  | bad => rw [hF] at o; exact o
  | err c d bx' => rw [hF] at o; exact o
  | ok ds bx' =>
    rw [hF] at o
    exact fun βi Hi l gi p xs h0 hp np h ra => o ((βi.back β.ex).cell p) (.ref p) Hi (l.cellAt h0 gi hp) (gi.cellAt l.e1 hp np h ra) (.cell gi.ln)
abbrev blkX (X : Cx) (scope : Scope) (s : Shared) (H : Hp) (Cc : Addr) (cl : List (Str × Addr)) (fp : List Addr) : Cx := X.blk s H scope (compEnvC scope cl Cc X.env) fp
theorem ed_lc (hc : X.calm = true) (hN : X.N.Nodup) (hi : EI X P E tg iter Fi) (ok : BlkOk X.N X.env.scope scope own) (hgd : GD X.K t (own.map (·.2)) b)
    (hg : ∀ (s : Shared) (H : Hp) (Cc : Addr) (cl : List (Str × Addr)) (fp : List Addr), PG (blkX X scope s H Cc cl fp) tg t) (ht : ∀ (s : Shared) (H : Hp) (Cc : Addr) (cl : List (Str × Addr)) (fp : List Addr), PTs (blkX X scope s H Cc cl fp) ifs (tDT X.K P E C))
    (he : ∀ (s : Shared) (H : Hp) (Cc : Addr) (cl : List (Str × Addr)) (fp : List Addr), ED (blkX X scope s H Cc cl fp) P E elt F) (hs : ∀ x, foldedSetIterable iter X.env x = pure x := by intro _; rfl) :
    ED X P E (.ListComp elt [⟨tg, iter, ifs, 0⟩] scope pos) (fLc (own.map (·.2)) b Fi C F) := pe_imp (pe_lc hc hN hi ok hg ht he hs) (tLc_of hgd)
theorem ed_lcM (hc : X.calm = true) (hN : X.N.Nodup) (hi : EI X P E tg iter Fi) (ok : BlkOk X.N X.env.scope scope own) (hgd : GD X.K t (own.map (·.2)) b)
    (hg : ∀ (s : Shared) (H : Hp) (Cc : Addr) (cl : List (Str × Addr)) (fp : List Addr), PG (blkX X scope s H Cc cl fp) tg t) (ht : ∀ (s : Shared) (H : Hp) (Cc : Addr) (cl : List (Str × Addr)) (fp : List Addr), PTs (blkX X scope s H Cc cl fp) ifs (tDT X.K P E C))
    (he : ∀ (s : Shared) (H : Hp) (Cc : Addr) (cl : List (Str × Addr)) (fp : List Addr), ED (blkX X scope s H Cc cl fp) P E elt F) (hs : ∀ x, foldedSetIterable iter X.env x = pure x := by intro _; rfl) :
    ED X P E (.ListComp elt [⟨tg, iter, ifs, 0⟩] scope pos) (fLcM (own.map (·.2)) b Fi C F) := pe_imp (pe_lc hc hN hi ok hg ht he hs) (tLcM_of hgd)
theorem sd_setLc {i : Nat} {y : Str} {py spos : Pos} (hc : X.calm = true) (hN : X.N.Nodup) (hy : X.N[i]? = some y) (hyl : X.env.scope.names.lookup y = some .local)
    (hsw : swapsWith (.ListComp elt [⟨tg, iter, ifs, 0⟩] scope pos) (some (.Name y py)) spos.line X.env = pure true) (hi : EI X P E tg iter Fi) (ok : BlkOk X.N X.env.scope scope own) (hgd : GD X.K t (own.map (·.2)) b)
    (hg : ∀ (s : Shared) (H : Hp) (Cc : Addr) (cl : List (Str × Addr)) (fp : List Addr), PG (blkX X scope s H Cc cl fp) tg t) (ht : ∀ (s : Shared) (H : Hp) (Cc : Addr) (cl : List (Str × Addr)) (fp : List Addr), PTs (blkX X scope s H Cc cl fp) ifs (tDT X.K P E C))
    (he : ∀ (s : Shared) (H : Hp) (Cc : Addr) (cl : List (Str × Addr)) (fp : List Addr), ED (blkX X scope s H Cc cl fp) P E elt F) (hs : ∀ x, foldedSetIterable iter X.env x = pure x := by intro _; rfl) :
    SD X P E (.Assign [.Name y py] (.ListComp elt [⟨tg, iter, ifs, 0⟩] scope pos) spos) (sSet i (fLc (own.map (·.2)) b Fi C F)) := by
  refine ps_imp (ps_setLc (te := tD X.K P E F) hc hN hy hyl hsw hi ok hg ht he hs) ?_
  rintro Z σ H ⟨β, δ, bx, ev, g, o⟩
  refine tLc_of hgd σ H _ (sd_bind ev g o fun β1 bx' x d H1 l1 g1 r1 o1 => o1 _ _ H1 .refl g1 ((ev.le l1).set i r1))
theorem sd_setLcM {i : Nat} {y : Str} {py spos : Pos} (hc : X.calm = true) (hN : X.N.Nodup) (hy : X.N[i]? = some y) (hyl : X.env.scope.names.lookup y = some .local)
    (hsw : swapsWith (.ListComp elt [⟨tg, iter, ifs, 0⟩] scope pos) (some (.Name y py)) spos.line X.env = pure true) (hi : EI X P E tg iter Fi) (ok : BlkOk X.N X.env.scope scope own) (hgd : GD X.K t (own.map (·.2)) b)
    (hg : ∀ (s : Shared) (H : Hp) (Cc : Addr) (cl : List (Str × Addr)) (fp : List Addr), PG (blkX X scope s H Cc cl fp) tg t) (ht : ∀ (s : Shared) (H : Hp) (Cc : Addr) (cl : List (Str × Addr)) (fp : List Addr), PTs (blkX X scope s H Cc cl fp) ifs (tDT X.K P E C))
    (he : ∀ (s : Shared) (H : Hp) (Cc : Addr) (cl : List (Str × Addr)) (fp : List Addr), ED (blkX X scope s H Cc cl fp) P E elt F) (hs : ∀ x, foldedSetIterable iter X.env x = pure x := by intro _; rfl) :
    SD X P E (.Assign [.Name y py] (.ListComp elt [⟨tg, iter, ifs, 0⟩] scope pos) spos) (sSet i (fLcM (own.map (·.2)) b Fi C F)) := by
  refine ps_imp (ps_setLc (te := tD X.K P E F) hc hN hy hyl hsw hi ok hg ht he hs) ?_
  rintro Z σ H ⟨β, δ, bx, ev, g, o⟩
  refine tLcM_of hgd σ H _ (sd_bind ev g o fun β1 bx' x d H1 l1 g1 r1 o1 => o1 _ _ H1 .refl g1 ((ev.le l1).set i r1))
theorem et_yes : PTs X [] (tDT X.K P E (pur true)) := ⟨fun pins s σ H Q I ⟨β, δ, bx, ev, g, o⟩ => pts_nil.run pins s σ H Q I (o _ H .refl g)⟩
theorem et_one {c : Expr} (h : ET X P E c C) : PTs X [c] (tDT X.K P E C) := pts_one h
end
end Ms

end
section
set_option Elab.async false
set_option linter.all false
set_option maxRecDepth 100000
set_option maxHeartbeats 4000000
namespace Ms
open PySem PySem.Spec PyProof.Rows L2
/-- a def of the text that keeps its promise, by its name -/
structure Df (Pg : Program) (w : World) (K : PySem.W.Frag) (mg : Str → Option Value) (base : Heap) (P : Pm) (CX : CXT) (j : Nat) (x : Str) (st : Stmt) (ps : List Str) (m : List D → Sto → Res D) : Prop where
  ex : ∃ (f : Addr) (fd : FuncData), mg x = some (.ref f) ∧ Fun K x x st f fd ∧ L2.Binds K fd ps [] ∧ FnOk Pg w K mg base CX j f fd ps (spD K P ps.length m)
section
variable {X : Cx} {P : Pm} {E : XK} {pos : Pos} {es : List Expr} {A : Fn (List D)} {CX : CXT} {k : Nat} {st : Stmt} {ps : List Str} {m : List D → Sto → Res D} {x : Str} {p : Pos} {e : Expr} {kws : List Keyword}
theorem ed_callD (d : Df X.prog X.w X.K X.mg X.base P CX k x st ps m) (hr : Room k X.A) (hx : Passes CX X E) (hg : Gl X x) (ha : EA X P E (e :: es) A) (hA : ∀ δ bx ds bx', A δ bx = .ok ds bx' → ds.length = ps.length) (hn : (e :: es).length = ps.length := by rfl)
    (hdb : (x == ("__debug__" : Str)) = false := by decide) (he : starEach (e :: es) X.env = (false, eval e X.env) :: starEach es X.env := by rfl) (hpl : (backTo pos (starEach es X.env)).any (·.1) = false := by rfl) :
    ED X P E (.Call (.Name x p) (e :: es) [] pos) (fCall m A) := by
  obtain ⟨f, fd, h1, h2, h3, h4⟩ := d.ex
  exact ed_call h4 hr hg h1 h2.kp h3 hx hn ha hdb he hpl hA
theorem bindsK {K : PySem.W.Frag} {x qual : Str} {st : Stmt} {f : Addr} {fd : FuncData} {ps ks : List Str} {π : List Nat} (F : Fun K x qual st f fd)
    (h : ∀ (kV doc pm : Value) (an : Option Addr) (cdv ct : Value) (ws : List Value), ws.length = ks.length → bindArgs (PySem.W.fnOf x qual (defArgs st) (defBody st) (defScope st) .none kV doc pm an cdv ct) ⟨[], ks.zip ws⟩ = pure (ps.zip (pick .none π ws))) :
    ∀ (s : Shared) (ws : List Value), K.In s.heap → ws.length = ks.length → BindsTo s fd ⟨[], ks.zip ws⟩ (ps.zip (pick .none π ws)) := by
  obtain ⟨oc, od, kV, doc, pm, an, cdv, ct, osl, rfl, lk, hcd⟩ := F.ex
  exact fun s ws _ hl => .of_eq (h kV doc pm an cdv ct ws hl)
theorem ed_callDK {ks : List Str} (π : List Nat) (d : Df X.prog X.w X.K X.mg X.base P CX k x st ps m) (hr : Room k X.A) (hx : Passes CX X E) (hg : Gl X x)
    (hb : ∀ (kV doc pm : Value) (an : Option Addr) (cdv ct : Value) (ws : List Value), ws.length = ks.length → bindArgs (PySem.W.fnOf x x (defArgs st) (defBody st) (defScope st) .none kV doc pm an cdv ct) ⟨[], ks.zip ws⟩ = pure (ps.zip (pick .none π ws)))
    (ha : EK X P E kws A) (hA : ∀ δ bx ds bx', A δ bx = .ok ds bx' → ds.length = ks.length) (hp : π.length = ps.length := by rfl) (hall : (backToKw pos (keywordEach kws X.env)).all (·.1.isSome) = true := by rfl) (hks : (backToKw pos (keywordEach kws X.env)).filterMap (·.1) = ks := by rfl)
    (hdb : (x == ("__debug__" : Str)) = false := by decide) (hpl : ((backTo pos (starEach [] X.env)).any (·.1) || (backToKw pos (keywordEach kws X.env)).any (·.1.isNone)) = false := by rfl) :
    ED X P E (.Call (.Name x p) [] kws pos) (fCallK m π A) := by
  obtain ⟨f, fd, h1, h2, h3, h4⟩ := d.ex
  exact ed_callK π h4 hr hg h1 h2.kp (bindsK h2 hb) hx hp rfl ha hA hall hks hdb hpl
theorem ed_globS {w : Str} (hg : Gl X x) (hm : ∃ t, X.mg x = some (.str w t)) (hd : (x == ("__debug__" : Str)) = false := by decide) : ED X P E (.Name x pos) (pur (.str w)) := by
  obtain ⟨t, h⟩ := hm
  exact ed_c (v := .str w) (pe_glob hg h ⟨t, rfl⟩ hd) fun _ _ => .str w
theorem ed_globE {i : Int} (hg : Gl X x) (hm : ∃ t, X.mg x = some (.int i t)) (hd : (x == ("__debug__" : Str)) = false := by decide) : ED X P E (.Name x pos) (pur (.int i)) := by
  obtain ⟨t, h⟩ := hm
  exact ed_glob hg h hd
theorem sd_expr {F : Fn D} {e : Expr} (he : ED X P E e F) (hs : swapsWith e none pos.line X.env = pure false := by rfl) : SD X P E (.Expr e pos) (sDrop F) := by
  refine ps_imp (ps_expr he hs) ?_
  rintro Z σ H ⟨β, δ, bx, ev, g, o⟩
  exact sd_bind ev g o fun β1 bx' x d H1 l1 g1 r1 o1 => o1 _ _ H1 .refl g1 (ev.le l1)
theorem passX {W : WX} (tk : Takes X W) (hW : ∀ cls d σ H, E cls d H → W cls d σ H) : Passes (L2.CX X.prog X.w) X E := passes_call tk hW
end
theorem b_int : bootBuiltins ("int" : Str) = some (.type "int") := by decide +kernel
theorem b_bool : bootBuiltins ("bool" : Str) = some (.type "bool") := by decide +kernel
theorem b_list : bootBuiltins ("list" : Str) = some (.type "list") := by decide +kernel
theorem b_tuple : bootBuiltins ("tuple" : Str) = some (.type "tuple") := by decide +kernel
theorem b_len : bootBuiltins ("len" : Str) = some (.builtin "len") := by decide +kernel
theorem b_abs : bootBuiltins ("abs" : Str) = some (.builtin "abs") := by decide +kernel
theorem b_max : bootBuiltins ("max" : Str) = some (.builtin "max") := by decide +kernel
theorem b_min : bootBuiltins ("min" : Str) = some (.builtin "min") := by decide +kernel
theorem b_range : bootBuiltins ("range" : Str) = some (.type "range") := by decide +kernel
theorem b_all : bootBuiltins ("all" : Str) = some (.builtin "all") := by decide +kernel
theorem b_sum : bootBuiltins ("sum" : Str) = some (.builtin "sum") := by decide +kernel
section
variable {Pg : Program} {w : World} {K : PySem.W.Frag} {mg : Str → Option Value} {base : Heap} {P : Pm}
theorem df_ok {x : Str} {st : Stmt} {f : Addr} {fd : FuncData} {N ps : List Str} {k : Nat} {S : Sn} (hm : mg x = some (.ref f)) (F : Fun K x x st f fd) (B : L2.Binds K fd ps []) (sc : FnScope N ps (defScope st))
    (hb : ∀ (cdv : Value) (A : Around) (outer : List Env) (s : Shared) (H : Hp), Room k (A.deeper (envOfC x (defScope st) s.heap.objs.size f cdv)) →
      SSD (cxOf CX0 Pg w K mg base N x (defScope st) f cdv A outer s H E0).nox P E0 (defBody st) S) : Df Pg w K mg base P CX0 (k + 1) x st ps (fun ds bx => noErr (fnD N S ds bx)) :=
  ⟨f, fd, hm, F, B, fn_ok F sc rfl hb⟩
theorem df_okX {x : Str} {st : Stmt} {f : Addr} {fd : FuncData} {N ps : List Str} {k : Nat} {S : Sn} (hm : mg x = some (.ref f)) (F : Fun K x x st f fd) (B : L2.Binds K fd ps []) (sc : FnScope N ps (defScope st))
    (hb : ∀ (cdv : Value) (A : Around) (outer : List Env) (s : Shared) (H : Hp) (E : XK), Room k (A.deeper (envOfC x (defScope st) s.heap.objs.size f cdv)) →
      SSD (cxOf (L2.CX Pg w) Pg w K mg base N x (defScope st) f cdv A outer s H E) P E (defBody st) S) : Df Pg w K mg base P (L2.CX Pg w) (k + 1) x st ps (fnD N S) :=
  ⟨f, fd, hm, F, B, fn_okX F sc rfl hb⟩
end
end Ms

end
section
set_option Elab.async false
set_option linter.all false
set_option maxRecDepth 100000
set_option maxHeartbeats 4000000
namespace Ms
open PySem PySem.Spec PyProof.Rows L2
/-! ### defs that show data: nothing is being shown where they are called -/
structure FnG (Pg : Program) (w : World) (K : PySem.W.Frag) (mg : Str → Option Value) (base : Heap) (CX : CXT) (k : Nat) (f : Addr) (fd : FuncData) (ps : List Str) (sp : Sp) : Prop where
  len : ∀ vs H Q E, sp vs H Q E → vs.length = ps.length
  run : ∀ (A : Around) (outer : List Env) (s : Shared) (H : Hp) (args : Args) (us : List Value) (vs : List V) (Q : VK) (E : XK), A.guards = some [] → Room k A → Env0 Pg w K mg base A outer s H → BindsTo s fd args (ps.zip us) → Vals vs us → sp vs H Q E →
    codeAny (model Pg w) A (.call (.ref f) args) (CR CX outer Pg w H s Q E) s
structure DfG (Pg : Program) (w : World) (K : PySem.W.Frag) (mg : Str → Option Value) (base : Heap) (P : Pm) (CX : CXT) (j : Nat) (x : Str) (st : Stmt) (ps : List Str) (m : List D → Sto → Res D) : Prop where
  ex : ∃ (f : Addr) (fd : FuncData), mg x = some (.ref f) ∧ Fun K x x st f fd ∧ L2.Binds K fd ps [] ∧ FnG Pg w K mg base CX j f fd ps (spD K P ps.length m)
section
variable {X : Cx} {P : Pm} {E : XK} {pos : Pos} {es : List Expr} {A : Fn (List D)} {CX : CXT} {k : Nat} {st : Stmt} {ps : List Str} {m : List D → Sto → Res D} {x : Str} {p : Pos} {e : Expr}
theorem ed_callG (hga : X.A.guards = some []) (d : DfG X.prog X.w X.K X.mg X.base P CX k x st ps m) (hr : Room k X.A) (hx : Passes CX X E) (hg : Gl X x) (ha : EA X P E (e :: es) A) (hA : ∀ δ bx ds bx', A δ bx = .ok ds bx' → ds.length = ps.length)
    (hdb : (x == ("__debug__" : Str)) = false := by decide) (he : starEach (e :: es) X.env = (false, eval e X.env) :: starEach es X.env := by rfl) (hpl : (backTo pos (starEach es X.env)).any (·.1) = false := by rfl) :
    ED X P E (.Call (.Name x p) (e :: es) [] pos) (fCall m A) := by
  obtain ⟨f, fd, hm, hF, hb, F⟩ := d.ex
  refine ⟨fun pins s σ H Q I h => ?_⟩
  obtain ⟨β, δ, bx, ev, gd, o⟩ := h
  have o2 := x_bind o.x
  have h' : (tDA X.K P E A) σ H fun zs H1 => spD X.K P ps.length m zs H1 Q E := by
    refine ⟨β, δ, bx, ev, gd, ?_⟩
    cases hF : A δ bx with
    | ok ds bx' =>
      rw [hF] at o2
      exact fun β' vs H' l g' r => ⟨β', ds, bx', by rw [r.length]; exact hA _ _ _ _ hF, r, g', (o2 β' H' l g' l).out⟩
    | err c d bx' =>
      rw [hF] at o2
      exact o2
    | bad =>
      rw [hF] at o2
      exact o2
  refine wpAny_Call_Name_kw (ld_glob I hg hm ?_ hdb)
  refine PySem.W.callWith_K (h₀ := X.base) I.ok.mod.kin hF.kp (thn (ha.run pos pins s σ H _ I h') fun us s1 hs => ?_) he hpl
  obtain ⟨vs, H1, I1, r, q⟩ := hs
  refine ⟨I1.kIn, ?_⟩
  have hl : us.length = ps.length := by rw [← r.length]; exact F.len _ _ _ _ q
  have hbb := hb s1 us I1.kIn (by rw [List.append_nil]; exact hl)
  rw [List.append_nil] at hbb
  show wpAny _ _ (call (.ref f) us) _ _ _
  refine wpAny_call (codeAny_mono (F.run X.A X.stack s1 H1 ⟨us, []⟩ us vs Q E hga hr I1.env0 hbb r q) fun rr s' hq => ?_)
  match rr, hq with
  | .error er, hq => exact hx pins σ H1 s1 er s' I1 hq
  | .ok fl, hq =>
    cases fl
    all_goals first
      | exact I1.after hq
      | exact False.elim hq
end
section
variable {Pg : Program} {w : World} {K : PySem.W.Frag} {mg : Str → Option Value} {base : Heap} {P : Pm}
theorem fnG_ok {x qual : Str} {params : Arguments} {body : List Stmt} {scope : Scope} {f : Addr} {dV kV doc pm cdv ct oc : Value} {an od : Option Addr} {osl : Array (Option Value)} {N ps : List Str} {k : Nat} {S : Sn}
    (lk : K.lookup f = some ⟨oc, od, .func (PySem.W.fnOf x qual params body scope dV kV doc pm an cdv ct), osl⟩) (hcd : PySem.W.codeIn K cdv qual = true) (sc : FnScope N ps scope)
    (hb : ∀ (A : Around) (outer : List Env) (s : Shared) (H : Hp), A.guards = some [] → Room k (A.deeper (envOfC qual scope s.heap.objs.size f cdv)) →
      SSD (cxOf CX0 Pg w K mg base N qual scope f cdv A outer s H E0).nox P E0 body S) :
    FnG Pg w K mg base CX0 (k + 1) f (PySem.W.fnOf x qual params body scope dV kV doc pm an cdv ct) ps (spD K P ps.length fun ds bx => noErr (fnD N S ds bx)) := by
  refine ⟨fun vs H Q E h => spD_len _ _ _ _ h, fun A outer s H args us vs Q E hg hr e0 hbn r h => ?_⟩
  have hs : spD K P ps.length (fnD N S) vs H Q E0 := by
    obtain ⟨β, ds, bx, h1, h2, h3, o⟩ := h
    refine ⟨β, ds, bx, h1, h2, h3, ?_⟩
    replace o : Out K P β H (noErr (fnD N S ds bx)) Q E := o
    cases hF : fnD N S ds bx with
    | ok d bx' =>
      rw [hF] at o
      exact o
    | err c d bx' =>
      rw [hF] at o
      exact o.elim
    | bad =>
      rw [hF] at o
      exact o
  have z := LamX.run_ofS (CX := CX0) (E := E0) (Q := Q) lk hcd sc hr e0 hbn r (spD_len _ _ _ _ h) fun hr' => ⟨tDS K P E0 S, (hb A outer s H hg hr').nox, fn_end hs⟩
  refine codeAny_mono z fun rr s' hq => ?_
  match rr, hq with
  | .ok _, hq => exact hq
  | .error _, hq => exact False.elim hq
end
end Ms

end
section
set_option Elab.async false
set_option linter.all false
set_option maxRecDepth 100000
set_option maxHeartbeats 4000000
namespace Ms
open PySem PySem.Spec PyProof.Rows L2
/-! ### the end of a law whose defs show data: the law is called where nothing is being shown -/
abbrev tabE : Obj := { cls := .none, data := .fields #[] }
abbrev lstE (vs : List Value) : Obj := { cls := .type "list", data := .seq vs.toArray }
/-- what is tracked at the law's call: the tables, and the script if it is no object of the text -/
def H₀ (K : PySem.W.Frag) (a : Addr) (vs : List Value) (ns : List Int) (T : List Addr) : Hp := fun b =>
  if b ∈ T then some (.tbl #[]) else if b = a ∧ (K.lookup a).isNone = true then some (.frz (lstE vs) (.lst (ns.map V.int))) else none
section
variable {Pg : Program} {w : World} {K : PySem.W.Frag} {a : Addr} {vs : List Value} {ns : List Int} {T : List Addr} {h : Heap}
theorem H₀_tab {b : Addr} (hb : b ∈ T) : H₀ K a vs ns T b = some (.tbl #[]) := if_pos hb
theorem H₀_cases (b : Addr) : (b ∈ T ∧ H₀ K a vs ns T b = some (.tbl #[])) ∨ (b ∉ T ∧ b = a ∧ K.lookup a = none ∧ H₀ K a vs ns T b = some (.frz (lstE vs) (.lst (ns.map V.int)))) ∨ (b ∉ T ∧ H₀ K a vs ns T b = none) := by
  by_cases h1 : b ∈ T
  · exact .inl ⟨h1, if_pos h1⟩
  · by_cases h2 : b = a ∧ (K.lookup a).isNone = true
    · refine .inr (.inl ⟨h1, h2.1, Option.isNone_iff_eq_none.mp h2.2, ?_⟩)
      unfold H₀
      rw [if_neg h1, if_pos h2]
    · refine .inr (.inr ⟨h1, ?_⟩)
      unfold H₀
      rw [if_neg h1, if_neg h2]
theorem H₀_ok (hT : ∀ b, b ∈ T → h.get? b = some tabE) (ha : h.get? a = some (lstE vs)) (hi : IntsAre vs ns) (hl : ns.length ≤ sizeLine) : HOk Pg w (H₀ K a vs ns T) h := fun b o e => by
  rcases H₀_cases (K := K) (a := a) (vs := vs) (ns := ns) (T := T) b with ⟨h1, h2⟩ | ⟨_, rfl, _, h2⟩ | ⟨_, h2⟩
  · rw [h2] at e
    cases e
    exact hT b h1
  · rw [h2] at e
    cases e
    exact ⟨ha, by rw [List.length_map]; exact hl, vs, _, vals_ints hi, ha⟩
  · rw [h2] at e
    cases e
theorem H₀_seq (X : K.In h) (ha : h.get? a = some (lstE vs)) (hi : IntsAre vs ns) (hl : ns.length ≤ sizeLine) (aT : a ∉ T) : SqL K (H₀ K a vs ns T) a (ns.map V.int) := by
  rcases H₀_cases (K := K) (a := a) (vs := vs) (ns := ns) (T := T) a with ⟨h1, _⟩ | ⟨_, _, _, h2⟩ | ⟨_, h2⟩
  · exact (aT h1).elim
  · exact .inl (.inr ⟨_, h2⟩)
  · cases hk : K.lookup a with
    | none =>
      unfold H₀ at h2
      rw [if_neg aT, if_pos ⟨rfl, by rw [hk]; rfl⟩] at h2
      cases h2
    | some o =>
      have e := X a o hk
      rw [ha] at e
      cases e
      exact .inr ⟨_, vs.toArray, _, hk, rfl, rfl, rfl, by rw [List.size_toArray, hi.length]; exact hl, by simpa using vals_ints hi⟩
end
/-- the law's call, from what holds at any ground on which it may stand -/
theorem law_callG {Pg : Program} {w : World} {K : PySem.W.Frag} {mg mb : Str → Option Value} {fa a : Addr} {cs : List (Addr × Addr)} {s₁ : Shared} {vs : List Value} {ns : List Int}
    (KX : K.In s₁.heap) (hns : s₁.heap.Ns mainGlobals mg) (hb : s₁.heap.Ns builtinsNs mb) (hbb : ∀ x : Str, x ≠ "__name__" → mb x = bootBuiltins x) (hlim : s₁.heap.NoLimit) (hg : s₁.gens = #[])
    (hT : ∀ p ∈ cs, s₁.heap.get? p.2 = some tabE) (nT : ∀ p ∈ cs, K.lookup p.2 = none) (C : ∀ p ∈ cs, PySem.W.CodeHd s₁.heap p.1 p.2)
    (hbm : ∃ (bm : Addr) (ob : Obj), mg "__builtins__" = some (.ref bm) ∧ bm ≠ builtinsNs ∧ s₁.heap.get? bm = some ob ∧ ob.cls = .type "module" ∧ ob.dict = some builtinsNs ∧ ob.data = .plain)
    (ha : s₁.heap.get? a = some (lstE vs)) (hi : IntsAre vs ns) (hl : ns.length ≤ sizeLine)
    (call : ∀ (base : Heap) (H : Hp), Env0 Pg w K mg base callerA [] s₁ H → (∀ p ∈ cs, LamX.TabB base mg p.1 p.2) → (∀ p ∈ cs, H p.2 = some (.tbl #[])) → SqL K H a (ns.map V.int) →
      codeAny (model Pg w) callerA (.call (.ref fa) ⟨[.ref a], []⟩) (CR CX0 [] Pg w H s₁ (fun v _ => v = .bl true) E0) s₁) :
    codeAny (model Pg w) callerA (.call (.ref fa) ⟨[.ref a], []⟩) (fun r s' => r = .ok (.ret (.bool true)) ∧ OldK s₁.heap s'.heap ∧ s'.os = s₁.os ∧ AllBare s'.gens) s₁ := by
  obtain ⟨T, eT⟩ : ∃ T, T = cs.map (·.2) := ⟨_, rfl⟩
  have inT : ∀ p ∈ cs, p.2 ∈ T := fun p hp => eT ▸ List.mem_map.mpr ⟨p, hp, rfl⟩
  have ofT : ∀ b, b ∈ T → ∃ p ∈ cs, p.2 = b := fun b h => by
    rw [eT] at h
    exact List.mem_map.mp h
  have tT : ∀ b, b ∈ T → s₁.heap.get? b = some tabE := fun b h => by
    obtain ⟨p, hp, rfl⟩ := ofT b h
    exact hT p hp
  have aT : a ∉ T := fun z => by
    have q := (tT a z).symm.trans ha
    injection q with q
    have q2 := congrArg Obj.data q
    cases q2
  -- an object that is neither the script nor a table is not tracked
  have free : ∀ b, b ≠ a → b ∉ T → H₀ K a vs ns T b = none := fun b h1 h2 => by
    rcases H₀_cases (K := K) (a := a) (vs := vs) (ns := ns) (T := T) b with ⟨h, _⟩ | ⟨_, h, _⟩ | ⟨_, h⟩
    · exact (h2 h).elim
    · exact (h1 h).elim
    · exact h
  have plain : ∀ b o, s₁.heap.get? b = some o → (∀ its n, o.data ≠ .seq its n) → o.data ≠ .fields #[] → H₀ K a vs ns T b = none := fun b o e n1 n2 => by
    refine free b (fun z => ?_) fun z => ?_
    · rw [z, ha] at e
      cases e
      exact n1 _ _ rfl
    · rw [tT b z] at e
      cases e
      exact n2 rfl
  have nsOf : ∀ {b : Addr} {m : Str → Option Value}, s₁.heap.Ns b m → (hidT s₁.heap (H₀ K a vs ns T)).Ns b m := by
    rintro b m ⟨o, es, ep, e, d, r⟩
    refine ⟨o, es, ep, hidT_get e (plain b o e (fun its n z => ?_) fun z => ?_), d, r⟩ <;> rw [d] at z <;> cases z
  have KB : K.In (hidT s₁.heap (H₀ K a vs ns T)) := fun b o e => by
    refine hidT_get (KX b o e) ?_
    rcases H₀_cases (K := K) (a := a) (vs := vs) (ns := ns) (T := T) b with ⟨h, _⟩ | ⟨_, rfl, h, _⟩ | ⟨_, h⟩
    · obtain ⟨p, hp, rfl⟩ := ofT b h
      rw [nT p hp] at e
      cases e
    · rw [h] at e
      cases e
    · exact h
  have gOf : ∀ b, s₁.heap.get? b = some tabE → b ≠ mainGlobals := fun b e z => by
    obtain ⟨o, es, ep, e2, d, _⟩ := hns
    rw [← z, e] at e2
    cases e2
    cases d
  have TB : ∀ p ∈ cs, LamX.TabB (hidT s₁.heap (H₀ K a vs ns T)) mg p.1 p.2 := fun p hp => by
    refine ⟨?_, ?_, fun z => gOf _ (hT p hp) z.symm⟩
    · obtain ⟨o, us, file, tf, flags, tg, inF, text, tt, e1, r1, r2, r3, r⟩ := C p hp
      refine ⟨o, us, file, tf, flags, tg, inF, text, tt, hidT_get e1 (plain _ o e1 (fun its n z => ?_) fun z => ?_), r1, r2, r3, r⟩
      · rw [r2] at z
        cases z
      · rw [r2] at z
        cases z
        simp at r3
    · obtain ⟨bm, ob, b1, b2, b3, b4, b5, b6⟩ := hbm
      refine ⟨bm, ob, b1, b2, fun z => ?_, fun z => ?_, hidT_get b3 (plain _ ob b3 (fun its n z => ?_) fun z => ?_), b4, b5, b6⟩
      · obtain ⟨o, es, ep, e2, d, _⟩ := hns
        rw [← z, b3] at e2
        cases e2
        rw [b6] at d
        cases d
      · rw [z, hT p hp] at b3
        cases b3
        cases b6
      · rw [b6] at z
        cases z
      · rw [b6] at z
        cases z
  have hok : HOk Pg w (H₀ K a vs ns T) s₁.heap := H₀_ok tT ha hi hl
  have e0 : Env0 Pg w K mg (hidT s₁.heap (H₀ K a vs ns T)) callerA [] s₁ (H₀ K a vs ns T) :=
    ⟨rfl, ⟨KB, nsOf hns, ⟨mb, nsOf hb, hbb⟩, let ⟨mc, h1, h2⟩ := hlim; ⟨mc, nsOf h1, h2⟩⟩, fun b o e => of_hidT e, Nat.le_of_eq (hidT_size _ _), trivial, fun b h => (nomatch h), hok, .of_eq hg⟩
  refine codeAny_mono (call _ _ e0 TB (fun p hp => H₀_tab (inT p hp)) (H₀_seq KX ha hi hl aT)) fun r s' h => ?_
  match r, h with
  | .error _, h => exact h.elim
  | .ok .next, h => exact h.elim
  | .ok .brk, h => exact h.elim
  | .ok .cont, h => exact h.elim
  | .ok (.ret u), ⟨v, H', os, bare, un, hok', r', q⟩ =>
    have q' : v = .bl true := q
    subst q'
    obtain rfl : u = Value.bool true := r'
    have grown : ∀ p ∈ cs, ∃ more : Array Value, s'.heap.get? p.2 = some { cls := .none, data := .fields more } := fun p hp => by
      obtain ⟨more, z⟩ := un.tbls p.2 #[] (H₀_tab (inT p hp))
      exact ⟨_, hok' p.2 _ z⟩
    have stays : ∀ b o, b ∉ T → s₁.heap.get? b = some o → s'.heap.get? b = some o := fun b o nb e => by
      rcases H₀_cases (K := K) (a := a) (vs := vs) (ns := ns) (T := T) b with ⟨h, _⟩ | ⟨_, rfl, _, h⟩ | ⟨_, h⟩
      · exact (nb h).elim
      · obtain ⟨e2, _⟩ := hok' b _ (un.frzs b _ _ h)
        rw [ha] at e
        cases e
        exact e2
      · exact un.keep b o e h (fun z => nomatch z) (fun z => nomatch z)
    refine ⟨rfl, ⟨fun b o e => ?_, fun b o e => ?_⟩, os, bare⟩
    · by_cases hb : b ∈ T
      · obtain ⟨p, hp, rfl⟩ := ofT b hb
        obtain ⟨more, hm⟩ := grown p hp
        rw [hT p hp] at e
        cases e
        exact .inr (.inl ⟨((C p hp).tab (hT p hp)).isCodeTable, rfl, #[], more, rfl, by rw [Array.empty_append]; exact hm⟩)
      · exact .inl (stays b o hb e)
    · by_cases hb : b ∈ T
      · obtain ⟨p, hp, rfl⟩ := ofT b hb
        obtain ⟨more, hm⟩ := grown p hp
        exact ⟨_, hm⟩
      · exact ⟨o, stays b o hb e⟩
/-- what is asked of a law at the head's heap -/
def LawAt (l : PySem.W.OpenLaw) (w : World) (K : PySem.W.Frag) (n : Nat) (mg : Str → Option Value) (fa : Addr) (h : Heap) : Prop :=
  ∃ cs : List (Addr × Addr), (∀ p ∈ cs, h.get? p.2 = some tabE) ∧ (∀ p ∈ cs, K.lookup p.2 = none) ∧ (∀ p ∈ cs, PySem.W.CodeHd h p.1 p.2) ∧
    ∀ (base : Heap) (H : Hp) (s₁ : Shared) (a : Addr) (ns : List Int), ns.length ≤ n → Env0 l.prog w K mg base callerA [] s₁ H → (∀ p ∈ cs, LamX.TabB base mg p.1 p.2) → (∀ p ∈ cs, H p.2 = some (.tbl #[])) → SqL K H a (ns.map V.int) →
      codeAny (model l.prog w) callerA (.call (.ref fa) ⟨[.ref a], []⟩) (CR CX0 [] l.prog w H s₁ (fun v _ => v = .bl true) E0) s₁
theorem walkG {l : PySem.W.OpenLaw} {n : Nat} {q : Program} {loose : List Str} {XP : (Str → Option Value) → Heap → Prop} {YP : World → Heap → Prop} {d : DefRec} {K : Params → PySem.W.Frag}
    (hn : l.most = some n) (hn2 : n ≤ sizeLine) (hdf : d.params.defaults = []) (hY : ∀ (w : World) (h : Heap), YP w h → (K w.params).In h)
    (F : ∀ (w : World) (mg : Str → Option Value) (fa : Addr) (h : Heap), YP w h → (K w.params).In h → h.Ns mainGlobals mg → mg d.name = some (.ref fa) → LawAt l w (K w.params) n mg fa h) :
    PySem.W.WalkO q loose XP YP l.row.toRowW d [] (fun f vs => PySem.call f vs) := by
  refine Att.attach_callB hn hdf fun w s₀ s₁ mg mb fa o pm cd doc a vs ns G Y ho hd hcd hmg hobj hints hlen hbits hg => ?_
  have KX := hY w _ Y
  obtain ⟨cs, hT, nT, C, hc⟩ := F w mg fa _ Y KX G.T.g hmg
  exact law_callG KX G.T.g G.T.b G.T.builtins G.T.nolimit hg hT nT C G.T.bmain hobj hints (Nat.le_trans hlen hn2) fun base H e0 tb hH hS => hc base H s₁ a ns hlen e0 tb hH hS
end Ms

end
section
set_option Elab.async false
set_option linter.all false
set_option maxRecDepth 100000
set_option maxHeartbeats 4000000
namespace GenZ
open PySem PySem.Spec PyProof.Rows L2 LamX
/-! ### the walk of all, any -/
section
variable {prog : Program} {w : World} {A : Around} {I : Addr}
theorem all_loop (St : Nat → Shared → Prop) (Qt Qf : Shared → Prop)
    (step : ∀ n s, St n s → wpAny (model prog w) A.in1 (pyNext (.ref I)) (fun r s' => match r with | none => Qt s' | some v => ∃ b, v = .bool b ∧ (b = false → Qf s') ∧ (b = true → ∃ m, m < n ∧ St m s')) (fun _ _ => False) s) :
    ∀ (n : Nat) (s : Shared), St n s → codeAny (model prog w) A (.builtin "all.loop" ⟨[.ref I], []⟩) (fun r s' => (r = .ok (.ret (.bool true)) ∧ Qt s') ∨ (r = .ok (.ret (.bool false)) ∧ Qf s')) s := by
  intro n
  induction n using Nat.strongRecOn with
  | ind n ih =>
    intro s hst
    refine codeAny_builtin F.entry_all_loop ?_
    rw [Around.under_plainId F.plain_all_loop _]
    show wpAny _ A.in1 (pyNext (.ref I) >>= _) _ _ s
    refine wpAny_bind (wpAny_mono (step n s hst) (fun r s' h => ?_) fun _ _ z => z.elim)
    cases r with
    | none =>
      refine wpAny_bind (wpAny_rule (wpAny_pure ?_))
      exact .inl ⟨rfl, h⟩
    | some v =>
      obtain ⟨b, rfl, h1, h2⟩ := h
      refine wpAny_bind (wpAny_holding (wpAny_truthy_bool ?_))
      refine wpAny_bind (wpAny_letGo ?_)
      cases b with
      | true =>
        simp only [if_true]
        obtain ⟨m, hm, hs⟩ := h2 rfl
        exact wpAny_pure ⟨plainId_quiet F.plain_all_loop _, ih m hm s' hs⟩
      | false =>
        simp only [Bool.false_eq_true, if_false]
        refine wpAny_bind (wpAny_rule (wpAny_pure ?_))
        exact .inr ⟨rfl, h1 rfl⟩
end
/-! ### the frame of a generator expression -/
/-- the context of its element: the frame at C, the generator's object pinned -/
abbrev gnx (X : Cx) (A : Around) (s : Shared) (H : Hp) (env : Env) (fp : List Addr) (pn : List (Addr × Obj)) : Cx :=
  { X with A := A, s_0 := s, H_0 := H, env := env, outer := X.stack, stack := env :: X.stack, ex := fp, fn := fun _ => false, pn := pn, xe := fun _ _ => False }
abbrev gEnv (X : Cx) (scope : Scope) (C : Addr) (code : Value) : Env := genEnv scope (cloFrom X.env.cells scope.names []) C code builtinsNs X.env
structure GnOk (sc scope : Scope) : Prop where
  co : scope.isCoroutine = false
  cell : ∀ y ∈ scope.names, y.2 ≠ .cell
  dot : scope.names.lookup (".0" : Str) = some NameKind.local
section
variable {X : Cx} {pins : List (Addr × Obj)} {σ : L2.St} {H : Hp} {s s5 : Shared}
theorem gn_start {scope : Scope} {own : List (Str × Nat)} {fp : List Addr} {A : Around} {code : Value} {a : Addr} {go : Obj} {it : Value} (I : Inv X pins σ H s) (I5 : Inv X pins σ H s5) (ok : BlkOk X.N X.env.scope scope own) (G : GnOk X.env.scope scope) (hN : X.N.Nodup) (hfp : ∀ b ∈ fp, FpOk X pins H b ∧ b < s.heap.objs.size)
    (hh : A.handled = none) (hA : A.frames = some (gEnv X scope s.heap.objs.size code :: X.stack)) (kp : ∀ b o, s.heap.get? b = some o → s5.heap.get? b = some o) (hns : s5.heap.Ns s.heap.objs.size (fun y => if y = ".0" then some it else none)) (hos : s5.os = s.os)
    (ha : s5.heap.get? a = some go) (hal : s.heap.objs.size < a) (hgo : ∀ v, go.data ≠ .cell v) :
    Inv (gnx X A s H (gEnv X scope s.heap.objs.size code) fp [(a, go)]) [] (wipe σ (own.map (·.2))) H s5 := by
  have hfree : ∀ y ∈ scope.names, y.2 = .free → ∃ c, X.env.cells.lookup y.1 = some c := fun y hy e => by
    rcases ok.free y hy e with k | k
    · exact I.ok.has _ (.inl k)
    · exact I.ok.has _ (.inr k)
  have cm : ∀ {y c}, (y, c) ∈ cloFrom X.env.cells scope.names [] → X.env.cells.lookup y = some c ∧ c < s.heap.objs.size := fun {y c} hm => by
    rcases cloFrom_mem hm with hm | ⟨h1, rfl⟩
    · cases hm
    · obtain ⟨c, hc⟩ := hfree _ h1 rfl
      rw [hc]
      obtain ⟨w, z⟩ := I.cell _ _ hc
      exact ⟨rfl, z.lt⟩
  have cm2 : ∀ {y c}, (cloFrom X.env.cells scope.names []).lookup y = some c → X.env.cells.lookup y = some c ∧ c < s.heap.objs.size := fun {y c} e => cm (PySem.mem_of_lookup e)
  have look : ∀ {y}, scope.names.lookup y = some .free → ∃ c, (cloFrom X.env.cells scope.names []).lookup y = some c ∧ X.env.cells.lookup y = some c := fun {y} hl => by
    have hy : (y, NameKind.free) ∈ scope.names := PySem.mem_of_lookup hl
    obtain ⟨c', e'⟩ := mem_lookup (cloFrom_has (cells := X.env.cells) (acc := []) hy)
    exact ⟨c', e', (cm2 e').1⟩
  have okB : (gnx X A s H (gEnv X scope s.heap.objs.size code) fp [(a, go)]).Ok := by
    refine ⟨I.ok.mod, ok.kind, I.ok.glob, rfl, Nat.le_refl _, fun y z c e1 e2 => I.ok.inj y z c (cm2 e1).1 (cm2 e2).1, fun y hy => ?_, fun y c z e => absurd z Bool.false_ne_true, fun _ => hh, hA, .inr ⟨rfl, rfl⟩, fun b hb => ⟨Nat.ne_of_lt (hfp b hb).2, fun y c e z => (hfp b hb).1.2.2.2.2.1 y c (cm2 e).1 z⟩, I.bs, Nat.le_trans I.ok.bsz I.sz, fun b o e hb => ?_, fun b hb z => ?_, I.stack, I.stkFree⟩
    · have hy : scope.names.lookup y = some .cell ∨ scope.names.lookup y = some .free := hy
      rcases hy with hy | hy
      · exact absurd rfl (G.cell _ (PySem.mem_of_lookup hy))
      · obtain ⟨c, h1, _⟩ := look hy
        exact ⟨c, h1⟩
    · rcases (hfp b hb).1.2.2.2.1 with z | z
      · exact I.ok.noex b o e z
      · exact absurd (Nat.lt_of_lt_of_le (Heap.lt_size e) (Nat.le_trans I.ok.bsz z)) (Nat.lt_irrefl _)
    · rcases List.mem_cons.mp (I.stkSub b z) with z | z
      · exact (hfp b hb).1.2.1 z
      · exact (hfp b hb).1.2.2.1 z
  refine ⟨okB, hos, I5.bare, Un.kept kp, ⟨_, hns, fun i y av e1 e2 e3 => ?_⟩, fun y c e => ?_, I.hok.fresh (Nat.le_refl _), fun y c e => I.freeC y c (cm2 e).1, fun p hp => ?_, I5.hok, by rw [wipe_length]; exact I.len⟩
  · obtain ⟨e2, hne⟩ := wipe_some e2
    have no : ∀ k, scope.names.lookup y = some k → ¬ (k = .local ∨ k = .cell) := fun k e hh => by
      rcases ok.own _ (PySem.mem_of_lookup e) hh with e' | e'
      · obtain ⟨p, hp, hpy⟩ := List.mem_map.mp e'
        have e3 := ok.ix p hp
        have : p.1 = y := hpy
        rw [this] at e3
        exact hne (List.mem_map.mpr ⟨p, hp, nodup_ix hN e3 e1⟩)
      · exact e' (List.mem_of_getElem? e1)
    have e3 : Vis scope y := e3
    have hf : scope.names.lookup y = some .free := by
      rcases e3 with e3 | e3 | e3
      · exact absurd (.inl rfl) (no _ e3)
      · exact absurd (.inr rfl) (no _ e3)
      · exact e3
    obtain ⟨m, hn, hl⟩ := I.loc
    have hvis : Vis X.env.scope y := (ok.free _ (PySem.mem_of_lookup hf) rfl).elim (fun k => .inr (.inl k)) (fun k => .inr (.inr k))
    obtain ⟨w, r, q⟩ := hl i y av e1 e2 hvis
    refine ⟨w, r, .inr ⟨.inr hf, ?_⟩⟩
    obtain ⟨c, h1, h2⟩ := look hf
    rcases q with ⟨k, _⟩ | ⟨_, c', e', z⟩
    · have k : X.env.scope.names.lookup y = some .local := k
      rcases ok.free _ (PySem.mem_of_lookup hf) rfl with k' | k' <;> rw [show X.env.scope.names.lookup y = _ from k'] at k <;> cases k
    · rw [h2] at e'; cases e'
      exact ⟨c, h1, z.keeps kp⟩
  · obtain ⟨w, z⟩ := I.cell y c (cm2 e).1
    exact ⟨w, z.keeps kp⟩
  · have hp : p ∈ [(a, go)] ++ [] := hp
    rw [List.append_nil] at hp
    rw [List.mem_singleton.mp hp]
    refine ⟨ha, I.hok.fresh (Nat.le_of_lt hal), Nat.ne_of_gt hal, fun z => ?_, hgo⟩
    rcases List.mem_cons.mp (I.stkSub a z) with z | z
    · have := I.lt
      rw [← z] at this
      exact absurd (Nat.lt_trans this hal) (Nat.lt_irrefl _)
    · exact I.nofs (Nat.le_of_lt hal) z
end
/-! ### the loop of a generator expression -/
theorem inv_same {X : Cx} {pins : List (Addr × Obj)} {σ : L2.St} {H : Hp} {s s' : Shared} (I : Inv X pins σ H s) (e1 : s'.os = s.os) (e2 : AllBare s'.gens) (e3 : s'.heap = s.heap) : Inv X pins σ H s' :=
  ⟨I.ok, e1.trans I.os, e2, by rw [e3]; exact I.base, by rw [e3]; exact I.loc, by rw [e3]; exact I.cell, I.free, I.freeC, by rw [e3]; exact I.pin, by rw [e3]; exact I.hok, I.len⟩
/-- it ends -/
def GR (X : Cx) (Qt : Hp → Prop) : Nat → Shared → Shared → Prop := fun _ _ s => ∃ pins σ H, Inv X pins σ H s ∧ Qt H
/-- it hands out a test's answer -/
def GY (X : Cx) (Qf : Hp → Prop) : Protocol := fun _ _ v s kap => ∃ (b : Bool) (H : Hp), v = .bool b ∧ (∃ pins σ, Inv X pins σ H s) ∧ (b = false → Qf H) ∧ (b = true → ∀ s'', s''.os = s.os → AllBare s''.gens → s''.heap = s.heap → kap (.send .none) s'')
section
variable {X : Cx} {A : Around} {elt tg iter : Expr} {scope : Scope} {pos : Pos} {it : Addr} {fp : List Addr} {tn : Nat → Heap → Prop} {J : It} {g : TG} {te : TE} {vs : List Nat} {σ0 : L2.St} {W : Nat → Nat → Hp → Prop} {Qt Qf : Hp → Prop}
theorem gn_loop (hA : X.A = A.over (.compLoop (.GeneratorExp elt [⟨tg, iter, [], 0⟩] scope pos) 0 (.ref it) .none X.env) []) (hc : X.calm = true) (hco : X.env.scope.isCoroutine = false) (hfp : X.ex = fp) (hxe : X.xe = fun _ _ => False) (hpn : ∀ p ∈ X.pn, p.1 ∉ fp)
    (T : Turn X.prog X.w X.K tg J fp it tn) (pg : PG X tg g) (pe : PE X elt te)
    (turn : ∀ i m H, W i m H → (J.stop i H ∧ Qt H) ∨ (J.go i H ∧ ∃ m', m = m' + 1 ∧ ∃ Nx : Hp → Prop, (∀ H', Nx H' → ∃ k, k ≤ m' ∧ W (i + 1) k H') ∧ ∀ x H', J.yld i H x H' → g x (wipe σ0 vs) H' fun σ2 H2 => wipe σ2 vs = wipe σ0 vs ∧
      te σ2 H2 fun y H3 => ∃ b, y = .bl b ∧ (b = true → Nx H3) ∧ (b = false → Qf H3))) :
    ∀ (n m i : Nat) (H : Hp) (s s₀ : Shared), m ≤ n → Inv X [] (wipe σ0 vs) H s → tn i s.heap → (∀ b ∈ fp, H b = none) → W i m H →
      Seg (model X.prog X.w) A (fun n s₀ r s₁ => r = .ok .next ∧ GR X Qt n s₀ s₁) (GY X Qf) n s₀ (.compLoop (.GeneratorExp elt [⟨tg, iter, [], 0⟩] scope pos) 0 (.ref it) .none X.env)
        ((model X.prog X.w).den (.compLoop (.GeneratorExp elt [⟨tg, iter, [], 0⟩] scope pos) 0 (.ref it) .none X.env)) [] s := by
  have stat : ∀ {σ' : L2.St} {H' : Hp} {s' : Shared}, Inv X [] σ' H' s' → (∀ b ∈ fp, H' b = none) → ∀ b ∈ fp, FpOk X [] H' b := fun {σ' H' s'} I' hn b hb =>
    ⟨hn b hb, (I'.ok.exf b (by rw [hfp]; exact hb)).1, I'.ok.exfs b (by rw [hfp]; exact hb), .inl (by rw [hfp]; exact hb), fun x c e => (I'.ok.exf b (by rw [hfp]; exact hb)).2 x c e, fun p hp z => hpn p (by simpa using hp) (by rw [z]; exact hb)⟩
  intro n
  induction n with
  | zero =>
    intro m i H s s₀ hm I st nf w
    rcases turn i m H w with ⟨stop, qq⟩ | ⟨go, m', e, _⟩
    · show Seg _ A _ _ _ s₀ _ ((compTurn (.GeneratorExp elt [⟨tg, iter, [], 0⟩] scope pos) 0 (.ref it) .none X.env).onRaise (leaving X.env)) [] s
      rw [compTurn_gen, Sem.onRaise_eq_wrap]
      refine seg_bind_wrap (wpAny_standAt ?_)
      refine seg_bind_wrap ?_
      rw [← hA]
      refine wpAny_mono (T.done X rfl rfl rfl hc i [] s _ H (fun _ _ => False) I (stat I nf) st stop) (fun r s1 h => ?_) fun _ _ z => z.elim
      obtain ⟨rfl, I1⟩ := h
      exact seg_end (.ok .next) ⟨rfl, _, _, _, I1, qq⟩
    · omega
  | succ n ih =>
    intro m i H s s₀ hm I st nf w
    rcases turn i m H w with ⟨stop, qq⟩ | ⟨go, m', e, Nx, hNx, step⟩
    · show Seg _ A _ _ _ s₀ _ ((compTurn (.GeneratorExp elt [⟨tg, iter, [], 0⟩] scope pos) 0 (.ref it) .none X.env).onRaise (leaving X.env)) [] s
      rw [compTurn_gen, Sem.onRaise_eq_wrap]
      refine seg_bind_wrap (wpAny_standAt ?_)
      refine seg_bind_wrap ?_
      rw [← hA]
      refine wpAny_mono (T.done X rfl rfl rfl hc i [] s _ H (fun _ _ => False) I (stat I nf) st stop) (fun r s1 h => ?_) fun _ _ z => z.elim
      obtain ⟨rfl, I1⟩ := h
      exact seg_end (.ok .next) ⟨rfl, _, _, _, I1, qq⟩
    · subst e
      show Seg _ A _ _ _ s₀ _ ((compTurn (.GeneratorExp elt [⟨tg, iter, [], 0⟩] scope pos) 0 (.ref it) .none X.env).onRaise (leaving X.env)) [] s
      rw [compTurn_gen, Sem.onRaise_eq_wrap]
      refine seg_bind_wrap (wpAny_standAt ?_)
      refine seg_bind_wrap ?_
      rw [← hA]
      refine wpAny_mono (T.item X rfl rfl rfl hc i [] s _ H (fun _ _ => False) I (stat I nf) st go) (fun r s1 h => ?_) fun _ _ z => z.elim
      obtain ⟨u, rfl, h1⟩ := h
      refine seg_bind_wrap ?_
      rw [← hA]
      refine wpAny_mono h1 (fun _ s2 h => ?_) fun _ _ z => z.elim
      obtain ⟨x, H2, I2, r2, y2, st2, n2⟩ := h
      have I2' := I2.pinned (stat I2 n2) (T.obj _ _ st2)
      refine seg_bind_wrap ?_
      rw [← hA]
      refine wpAny_mono (pg.run _ s2 _ H2 x u _ I2' r2 (step x H2 y2)) (fun _ s3 h => ?_) fun _ _ z => by rw [hxe] at z; exact z.elim
      obtain ⟨σ3, H3, I3, hw, q3⟩ := h
      refine seg_bind_wrap (wpAny_tests_nil ?_)
      simp only [if_true]
      have hy : ∀ v, yieldOut X.env v = yieldValue v := fun v => by simp only [yieldOut, hco, Bool.false_eq_true, if_false]
      simp only [hy]
      rw [Sem.bind_eq_wrap', Sem.bind_eq_wrap', Sem.wrap_wrap, Sem.wrap_wrap]
      refine seg_wrap ?_
      rw [← hA]
      refine wpAny_mono (pe.run _ s3 σ3 H3 _ I3 q3) (fun v s4 h => ?_) fun _ _ z => by rw [hxe] at z; exact z.elim
      obtain ⟨yv, H4, I4, r4, b, rfl, ht, hf⟩ := h
      obtain rfl : v = Value.bool b := r4
      refine seg_at (seg_yield rfl rfl rfl ⟨b, H4, rfl, ⟨_, _, I4⟩, hf, fun hb s'' e1 e2 e3 => ?_⟩)
      obtain ⟨k, hk, w'⟩ := hNx H4 (ht hb)
      have pin' : ∀ b ∈ fp, ∀ o, s2.heap.get? b = some o → s4.heap.get? b = some o ∧ H4 b = none := fun b hb o e =>
        let z := I4.pin (b, o) (List.mem_append_right _ (List.mem_append_right _ (mem_pinsAt hb e)))
        ⟨z.1, z.2.1⟩
      have hl : (wipe σ0 vs).length = σ3.length := by rw [← hw, wipe_length]
      have I5 : Inv X [] (wipe σ0 vs) H4 s4 := (I4.unpinned (pins := [])).weak hl (fun j v e => by rw [← hw] at e; exact (wipe_some e).1)
      refine seg_again rfl (ih k (i + 1) H4 s'' s'' (by omega) (inv_same I5 e1 e2 e3) (by rw [e3]; exact T.keep _ _ _ st2 fun b hb o e => (pin' b hb o e).1) (fun b hb => ?_) w')
      obtain ⟨o, e, _⟩ := T.obj _ _ st2 b hb
      exact (pin' b hb o e).2
end
theorem gn_begin {X : Cx} {A : Around} {R : GenEnd} {Y : Protocol} {n : Nat} {s₀ s : Shared} {elt tg iter : Expr} {scope : Scope} {pos : Pos} {it : Addr} {fp : List Addr} {tn : Nat → Heap → Prop} {J : It} {env : Env}
    (T : Turn X.prog X.w X.K tg J fp it tn) (st : tn 0 s.heap)
    (loop : Seg (model X.prog X.w) A R Y n s₀ (.compLoop (.GeneratorExp elt [⟨tg, iter, [], 0⟩] scope pos) 0 (.ref it) .none env) ((model X.prog X.w).den (.compLoop (.GeneratorExp elt [⟨tg, iter, [], 0⟩] scope pos) 0 (.ref it) .none env)) [] s) :
    Seg (model X.prog X.w) A R Y n s₀ (.compStart (.GeneratorExp elt [⟨tg, iter, [], 0⟩] scope pos) 0 (.ref it) .none env) ((model X.prog X.w).den (.compStart (.GeneratorExp elt [⟨tg, iter, [], 0⟩] scope pos) 0 (.ref it) .none env)) [] s := by
  show Seg _ A _ _ _ s₀ _ ((compStart (.GeneratorExp elt [⟨tg, iter, [], 0⟩] scope pos) 0 (.ref it) .none env).onRaise (leaving env)) [] s
  unfold compStart
  rw [Sem.onRaise_eq_wrap]
  show Seg _ A _ _ _ s₀ _ ((ask >>= _).wrap _ _ _ _) [] s
  refine seg_bind_wrap (wpAny_askSetting ?_)
  split
  · exact seg_again rfl loop
  · first
      | exact seg_bind_wrap (wpAny_rule (seg_bind_wrap (wpAny_standAt (seg_bind_wrap (T.self _ 0 s _ _ st (seg_again rfl loop))))))
      | (refine seg_bind_wrap (wpAny_rule ?_); show Seg _ A _ _ _ s₀ _ ((standAt iter.pos >>= _).wrap _ _ _ _) [] s; exact seg_bind_wrap (wpAny_standAt (seg_bind_wrap (T.self _ 0 s _ _ st (seg_again rfl loop)))))
/-! ### all(.. for .. in ..) -/
theorem bare_setGen {s : Shared} {g : Nat} {x : GenState} (h : AllBare s.gens) (hx : x.bare = true) : AllBare (s.setGen g x).gens := by
  intro y hy
  have hy : y ∈ s.gens.setIfInBounds g x := hy
  rcases Array.mem_or_eq_of_mem_setIfInBounds hy with h1 | h1
  · exact h y h1
  · rw [h1]; exact hx
def tAllG (T : List (Addr × Str)) (wi : TI) (g : TG) (te : TE) (vs : List Nat) : TE := fun σ H Q => wi σ H fun J H1 => Tabs T H1 ∧ ∀ H2, ExtN H1 H2 → Tabs T H2 → ∃ W : Nat → Nat → Hp → Prop, (∃ m, W 0 m H2) ∧ ∀ i m H, W i m H →
  (J.stop i H ∧ Q (.bl true) H) ∨ (J.go i H ∧ ∃ m', m = m' + 1 ∧ ∃ Nx : Hp → Prop, (∀ H', Nx H' → ∃ k, k ≤ m' ∧ W (i + 1) k H') ∧ ∀ x H', J.yld i H x H' → g x (wipe σ vs) H' fun σ2 H2 => wipe σ2 vs = wipe σ vs ∧
    te σ2 H2 fun y H3 => ∃ b, y = .bl b ∧ (b = true → Nx H3) ∧ (b = false → Q (.bl false) H3))
section
variable {X : Cx} {elt tg iter : Expr} {scope : Scope} {own : List (Str × Nat)} {T : List (Addr × Str)} {c P : Addr} {p pos gpos : Pos} {wi : TI} {g : TG} {te : TE} {k : Nat}
theorem pe_allG (hr : Room (k + 2) X.A) (hc : X.calm = true) (hN : X.N.Nodup) (hg : Gl X "all") (hm : X.mg "all" = none) (hb : bootBuiltins "all" = some (.builtin "all")) (TB : TabB X.base X.mg c P) (hcode : X.env.code = .ref c)
    (hmT : (P, X.env.qual ++ "<genexpr>") ∈ T) (hu : ∀ p ∈ T, p.1 = P → p.2 = X.env.qual ++ "<genexpr>") (hi : PI X tg iter wi) (ok : BlkOk X.N X.env.scope scope own) (G : GnOk X.env.scope scope)
    (hpg : ∀ A s H C code fp pn, Room k A → PG (gnx X A s H (gEnv X scope C code) fp pn) tg g) (hpe : ∀ A s H C code fp pn, Room k A → PE (gnx X A s H (gEnv X scope C code) fp pn) elt te) (hs : ∀ v, genFold iter X.env v = pure v)
    (he : starEach [.GeneratorExp elt [⟨tg, iter, [], 0⟩] scope gpos] X.env = (false, eval (.GeneratorExp elt [⟨tg, iter, [], 0⟩] scope gpos) X.env) :: starEach [] X.env := by rfl) :
    PE X (.Call (.Name "all" p) [.GeneratorExp elt [⟨tg, iter, [], 0⟩] scope gpos] [] pos) (tAllG T wi g te (own.map (·.2))) := by
  refine ⟨fun pins s σ H Q I h => ?_⟩
  have hfree : ∀ y ∈ scope.names, y.2 = .free → ∃ c, X.env.cells.lookup y.1 = some c := fun y hy e => by
    rcases ok.free y hy e with k | k
    · exact I.ok.has _ (.inl k)
    · exact I.ok.has _ (.inr k)
  refine wpAny_Call_Name_kw (ld_blt I hg hm hb ?_)
  refine PyProof.Rows.callWith_builtin1 ?_ he (by rfl)
  rw [he]
  show wpAny _ _ (spliced ((false, eval (.GeneratorExp elt [⟨tg, iter, [], 0⟩] scope gpos) X.env) :: backTo pos (starEach [] X.env))) _ _ s
  refine Calls.spliced_cons (wpAny_GeneratorExp_make G.co (closure_ok hfree) G.cell G.dot ok.kind hr.depth ?_ hs)
  refine thn (hi.run pins s σ H _ I h) fun xv s1 hx => thn hx fun itv s2 h2 => ?_
  obtain ⟨it, fp, tn, J, H2, rfl, I2, T_, st2, f2, tabs, q⟩ := h2
  refine ⟨I2.nolimit, ?_⟩
  obtain ⟨ps, hP, ht, ha⟩ := tabs _ hmT
  have hP' : s2.heap.get? P = some { cls := .none, data := .fields ps } := I2.hok P _ hP
  have cd : PySem.W.CodeHd s2.heap c P := TB.code.keeps I2.bk
  have sz : ∀ b ∈ fp, b < s2.heap.objs.size := fun b hb => by
    obtain ⟨o, e, _⟩ := T_.obj _ _ st2 b hb
    exact Heap.lt_size e
  have fpP : ∀ b ∈ fp, b ≠ P := fun b hb z => by
    have := (f2 b hb).1
    rw [z, hP] at this
    cases this
  -- behind the code object
  have cont : ∀ (code : Value) (H3 : Hp) (s3 : Shared), Inv X pins σ H3 s3 → ExtN H2 H3 → Tabs T H3 → tn 0 s3.heap → (∀ b ∈ fp, FpOk X pins H3 b ∧ b < s3.heap.objs.size) →
      wpAny (model X.prog X.w) X.A (builtinsFor X.env.globals X.env.builtins) (fun bi s₄ => ∀ h', h'.Ns s₄.heap.objs.size (fun y => if y = ".0" then some (.ref it) else none) → Heap.SameBut s₄.heap.objs.size (s₄.heap.push { cls := .type "frame", data := .dict #[] }) h' →
        wpAny (model X.prog X.w) X.A (spliced (backTo pos (starEach [] X.env))) (fun vs s' => wpAny (model X.prog X.w) X.A (call (.builtin "all") (Value.ref h'.objs.size :: vs)) (EP X pins σ Q) X.xe s') X.xe { s₄ with
            gens := s₄.gens.push (.fresh (.compStart (.GeneratorExp elt [⟨tg, iter, [], 0⟩] scope gpos) 0 (.ref it) .none (genEnv scope (cloFrom X.env.cells scope.names []) s₄.heap.objs.size code bi X.env))),
            toks := s₄.toks + 1 + 1 + 1,
            heap := h'.push { cls := .type "generator", data := .fields #[.int s₄.gens.size 0, .str "<genexpr>" (s₄.toks + 1), .str (X.env.qual ++ "<genexpr>") (s₄.toks + 1 + 1)] } }) X.xe s3 := by
    intro code H3 s3 I3 ext3 tab3 st3 f3
    obtain ⟨bm, ob, e1, e2, e3, e4, e5, e6, e7, e8⟩ := TB.bm
    refine wpAny_builtinsFor (m := X.mg) (by rw [I3.ok.glob]; exact I3.mod.glob.keeps I3.bk) e1 e2 (I3.bk _ _ e5) e6 e7 e8 ?_
    intro h' hns hsb
    have hsz : h'.objs.size = s3.heap.objs.size + 1 := by rw [hsb.1, Heap.size_push]
    generalize hgo : ({ cls := .type "generator", data := .fields #[.int s3.gens.size 0, .str "<genexpr>" (s3.toks + 1), .str (X.env.qual ++ "<genexpr>") (s3.toks + 1 + 1)] } : Obj) = go
    have hgen : ∀ h : Heap, h.get? h'.objs.size = some go → h.IsGen h'.objs.size s3.gens.size := fun h e => ⟨go, _, _, e, by rw [← hgo], by rw [← hgo], by rw [← hgo]⟩
    have hgc : ∀ v, go.data ≠ .cell v := fun v z => by rw [← hgo] at z; cases z
    have hpush : (h'.push go).get? h'.objs.size = some go := by rw [← hgo]; exact Heap.get?_push_size _ rfl
    have keep' : ∀ b o, s3.heap.get? b = some o → h'.get? b = some o := fun b o e => hsb.extBut b o (Nat.ne_of_lt (Heap.lt_size e)) (Heap.get?_push_of_some _ e)
    have keep5 : ∀ b o, s3.heap.get? b = some o → (h'.push go).get? b = some o := fun b o e => Heap.get?_push_of_some _ (keep' b o e)
    generalize ha5 : h'.objs.size = a at hsz hgen hpush ⊢
    generalize hs5 : ({ s3 with
            gens := s3.gens.push (.fresh (.compStart (.GeneratorExp elt [⟨tg, iter, [], 0⟩] scope gpos) 0 (.ref it) .none (genEnv scope (cloFrom X.env.cells scope.names []) s3.heap.objs.size code builtinsNs X.env))),
            toks := s3.toks + 1 + 1 + 1,
            heap := h'.push go } : Shared) = s5
    have h5 : s5.heap = h'.push go := by rw [← hs5]
    have os5 : s5.os = s3.os := by rw [← hs5]
    have gn5 : s5.gens[s3.gens.size]? = some (.fresh (.compStart (.GeneratorExp elt [⟨tg, iter, [], 0⟩] scope gpos) 0 (.ref it) .none (gEnv X scope s3.heap.objs.size code))) := by rw [← hs5]; exact Array.getElem?_push_size ..
    have ba5 : AllBare s5.gens := by rw [← hs5]; exact I3.bare.push rfl
    have kp5 : ∀ b o, s3.heap.get? b = some o → s5.heap.get? b = some o := by rw [h5]; exact keep5
    have I5 : Inv X pins σ H3 s5 := I3.call' (ch := []) os5 (Un.kept kp5) (I3.hok.kept kp5) ba5 fun b z => by simp at z
    clear hs5
    obtain ⟨W, ⟨m0, w0⟩, turn⟩ := q H3 ext3 tab3
    -- the generator's frame
    generalize hcl : Code.compLoop (.GeneratorExp elt [⟨tg, iter, [], 0⟩] scope gpos) 0 (.ref it) .none (gEnv X scope s3.heap.objs.size code) = cl
    have hAf : (X.A.in1.in1.over cl []).frames = some (gEnv X scope s3.heap.objs.size code :: X.stack) := by
      rw [← hcl]
      have e : X.A.in1.in1.frames = some X.stack := I3.ok.frames
      show pushEnvs [gEnv X scope s3.heap.objs.size code] (pushEnvs [] X.A.in1.in1.frames) = _
      rw [e]
      rfl
    have hAr : Room k (X.A.in1.in1.over cl []) := by
      rw [← hcl]
      refine ⟨hr.hd, ?_, ?_⟩
      · have := hr.dp
        show X.A.depth + 1 + 3 * k + 5 < _
        omega
      · have := hr.un
        show X.A.units + 2 + 3 + 16 * k + 200 < _
        omega
    have IG : Inv (gnx X (X.A.in1.in1.over cl []) s3 H3 (gEnv X scope s3.heap.objs.size code) fp [(a, go)]) [] (wipe σ (own.map (·.2))) H3 s5 :=
      gn_start I3 I5 ok G hN f3 hAr.hd hAf kp5 (by rw [h5]; exact hns.push _) os5 (by rw [h5]; exact hpush) (by omega) hgc
    have hal : s3.heap.objs.size < a := by omega
    have R0 : hr.hd = hr.hd := rfl
    have I3' : Inv X pins σ H3 s3 := I3
    -- back in the def's context
    have back : ∀ {ps' : List (Addr × Obj)} {σ' : L2.St} {H' : Hp} {s' : Shared}, Inv (gnx X (X.A.in1.in1.over cl []) s3 H3 (gEnv X scope s3.heap.objs.size code) fp [(a, go)]) ps' σ' H' s' → Inv X pins σ H' s' := fun {ps' σ' H' s'} J => by
      refine I3.call' (ch := fp) J.os J.base J.hok J.bare fun b hb => ⟨(f3 b hb).1.2.2.2.1, (f3 b hb).1.2.1, (f3 b hb).1.2.2.2.2.1, (f3 b hb).1.2.2.2.2.2⟩
    have isg : ∀ {ps' : List (Addr × Obj)} {σ' : L2.St} {H' : Hp} {s' : Shared}, Inv (gnx X (X.A.in1.in1.over cl []) s3 H3 (gEnv X scope s3.heap.objs.size code) fp [(a, go)]) ps' σ' H' s' → s'.heap.IsGen a s3.gens.size := fun {ps' σ' H' s'} J =>
      hgen _ (J.pin (a, go) (List.mem_append_left _ (List.mem_singleton.mpr rfl))).1
    have seg0 : ∀ s'' : Shared, s''.os = s5.os → AllBare s''.gens → s''.heap = s5.heap → Seg (model X.prog X.w) X.A.in1.in1 (fun n s₀ r s₁ => r = .ok .next ∧ GR (gnx X (X.A.in1.in1.over cl []) s3 H3 (gEnv X scope s3.heap.objs.size code) fp [(a, go)]) (fun H => Q (.bl true) H) n s₀ s₁)
        (GY (gnx X (X.A.in1.in1.over cl []) s3 H3 (gEnv X scope s3.heap.objs.size code) fp [(a, go)]) (fun H => Q (.bl false) H)) m0 s'' (.compStart (.GeneratorExp elt [⟨tg, iter, [], 0⟩] scope gpos) 0 (.ref it) .none (gEnv X scope s3.heap.objs.size code))
        ((model X.prog X.w).den (.compStart (.GeneratorExp elt [⟨tg, iter, [], 0⟩] scope gpos) 0 (.ref it) .none (gEnv X scope s3.heap.objs.size code))) [] s'' := fun s'' z1 z2 z3 => by
      have st5 : tn 0 s''.heap := T_.keep _ _ _ st3 fun b _ o e => by rw [z3]; exact kp5 b o e
      refine gn_begin T_ st5 ?_
      refine gn_loop (X := gnx X (X.A.in1.in1.over cl []) s3 H3 (gEnv X scope s3.heap.objs.size code) fp [(a, go)]) (by rw [← hcl]) hc G.co rfl rfl (fun p hp z => ?_) T_ (hpg _ _ _ _ _ _ _ hAr) (hpe _ _ _ _ _ _ _ hAr) turn m0 m0 0 H3 s'' s'' (Nat.le_refl _) (inv_same IG z1 z2 z3) st5 (fun b hb => (f3 b hb).1.1) w0
      rw [List.mem_singleton.mp hp] at z
      exact Nat.lt_irrefl _ (Nat.lt_trans (f3 a z).2 hal)
    refine Calls.spliced_nil ?_
    refine call_function_tree F.kind_all F.plain_all F.entry_all (F.args_all1 _) ?_
    unfold Builtin.«all»
    refine wpAny_bind (m := oneArg "all" _) (wpAny_pure ?_)
    refine wpAny_bind (wpAny_pyIter_gen (isg IG) ?_)
    refine wpAny_pure ⟨plainId_quiet F.plain_all_loop _, ?_⟩
    refine codeAny_mono (all_loop (fun n s => ∃ gs, s.gens[s3.gens.size]? = some gs ∧ (∃ ps' σ' H', Inv (gnx X (X.A.in1.in1.over cl []) s3 H3 (gEnv X scope s3.heap.objs.size code) fp [(a, go)]) ps' σ' H' s) ∧
      gs.Goes (model X.prog X.w) X.A.in1.in1 (fun n s₀ r s₁ => r = .ok .next ∧ GR (gnx X (X.A.in1.in1.over cl []) s3 H3 (gEnv X scope s3.heap.objs.size code) fp [(a, go)]) (fun H => Q (.bl true) H) n s₀ s₁)
        (GY (gnx X (X.A.in1.in1.over cl []) s3 H3 (gEnv X scope s3.heap.objs.size code) fp [(a, go)]) (fun H => Q (.bl false) H)) n (.send .none) (s.setGen s3.gens.size .running))
      (fun s' => ∃ H', Inv X pins σ H' s' ∧ Q (.bl true) H') (fun s' => ∃ H', Inv X pins σ H' s' ∧ Q (.bl false) H') ?_ m0 s5 ⟨_, gn5, ⟨_, _, _, IG⟩, rfl, seg0 _ rfl (bare_setGen ba5 rfl) rfl⟩) fun r s' h => ?_
    · rintro n s ⟨gs, hgs, ⟨ps', σ', H', J⟩, hgo2⟩
      have hsize : s3.gens.size + 1 ≤ s.gens.size := by
        rcases Nat.lt_or_ge s3.gens.size s.gens.size with z | z
        · exact z
        · rw [Array.getElem?_eq_none z] at hgs
          cases hgs
      refine GenW.wpAny_gsz hsize ?_
      refine wpAny_pyNext_genexpQ (P := GR (gnx X (X.A.in1.in1.over cl []) s3 H3 (gEnv X scope s3.heap.objs.size code) fp [(a, go)]) (fun H => Q (.bl true) H)) hr.hd J.nolimit hr.depth (isg J) hgs hgo2 (fun v s₁ gs' hb hv => ?_) (fun s₁ hp h'' hk => ?_)
      · obtain ⟨b, H4, rfl, ⟨ps4, σ4, J4⟩, hf, ht⟩ := hv
        intro hsz4
        have J5 : Inv (gnx X (X.A.in1.in1.over cl []) s3 H3 (gEnv X scope s3.heap.objs.size code) fp [(a, go)]) ps4 σ4 H4 (s₁.setGen s3.gens.size gs') := inv_same J4 rfl (bare_setGen J4.bare hb) rfl
        refine ⟨b, rfl, fun e => ⟨H4, back J5, hf e⟩, fun e => ?_⟩
        have kk := ht e ((s₁.setGen s3.gens.size gs').setGen s3.gens.size .running) rfl (bare_setGen J5.bare rfl) rfl
        cases n with
        | zero => exact kk.elim
        | succ n =>
          have hlt : s3.gens.size < (s₁.setGen s3.gens.size gs').gens.size := hsz4
          refine ⟨n, Nat.lt_succ_self n, gs', ?_, ⟨_, _, _, J5⟩, kk⟩
          have hlt' : s3.gens.size < s₁.gens.size := by
            have : (s₁.setGen s3.gens.size gs').gens.size = s₁.gens.size := by simp [Shared.setGen]
            omega
          exact setGen_self (Array.getElem?_eq_getElem hlt')
      · obtain ⟨ps4, σ4, H4, J4, qq⟩ := hp
        intro _
        have J5 : Inv (gnx X (X.A.in1.in1.over cl []) s3 H3 (gEnv X scope s3.heap.objs.size code) fp [(a, go)]) ps4 σ4 H4 (s₁.setGen s3.gens.size .finished) := inv_same J4 rfl (bare_setGen J4.bare rfl) rfl
        exact ⟨H4, (back J5).kept hk, qq⟩
    · rcases h with ⟨rfl, H', J, qq⟩ | ⟨rfl, H', J, qq⟩
      · exact ⟨.bl true, H', J, rfl, qq⟩
      · exact ⟨.bl false, H', J, rfl, qq⟩
  cases hf : codeAmong gpos ps.toList with
  | none =>
    refine wpAny_genexprCodeX hcode (cd.code hP' ht) (cd.tab hP') hf fun c' h' tk hx hge hlt hco' hrec htab' _ => ?_
    obtain ⟨c2, oc, vs, t, e2, hoc, hd, hv⟩ := hrec
    cases e2
    have nC : H2 c' = none := I2.hok.fresh hge
    have I3 := inv_table (t' := tk) (more := #[rawInt gpos.line, rawInt gpos.col, .ref c']) (h' := h') I2 hP hx htab'.2 hge ⟨oc, vs, t, hoc, hd, hv⟩
    have hE : ExtN H2 (upd (upd H2 P (.tbl (ps ++ #[rawInt gpos.line, rawInt gpos.col, .ref c']))) c' (CodeO c' (X.env.qual ++ "<genexpr>"))) := fun b o e n => by
      rw [upd_ne (ne_of_none e nC), upd_ne (fun z => n ps (Option.some.inj (e.symm.trans (by rw [z]; exact hP))))]
      exact e
    have eL : (ps ++ #[rawInt gpos.line, rawInt gpos.col, .ref c']).toList = ps.toList ++ [rawInt gpos.line, rawInt gpos.col, .ref c'] := by simp
    refine cont _ _ _ I3 hE (fun p hp => ?_) (T_.keep _ _ _ st2 fun b hb o e => hx b o (fpP b hb) e) fun b hb => ⟨⟨?_, (f2 b hb).2⟩, ?_⟩
    · by_cases hb : p.1 = P
      · rw [hu p hp hb, hb]
        refine ⟨_, by rw [upd_ne (ne_of_none hP nC), upd_same], by rw [eL]; exact PySem.TriplesOk_snoc _ _ _ _ ht, fun p' cv hcv => ?_⟩
        rw [eL] at hcv
        rcases among_app _ ht hcv with z | z
        · obtain ⟨c0, e1, e2⟩ := ha p' cv z
          exact ⟨c0, e1, hE _ _ e2 codeO_ne⟩
        · exact ⟨c', z, upd_same⟩
      · obtain ⟨ps', a1, a2, a3⟩ := tabs p hp
        refine ⟨ps', by rw [upd_ne (ne_of_none a1 nC), upd_ne hb]; exact a1, a2, fun p' cv hcv => ?_⟩
        obtain ⟨c0, e1, e2⟩ := a3 p' cv hcv
        exact ⟨c0, e1, hE _ _ e2 codeO_ne⟩
    · have hlt2 := sz b hb
      rw [upd_ne (Nat.ne_of_lt (Nat.lt_of_lt_of_le hlt2 hge)), upd_ne (fpP b hb)]
      exact (f2 b hb).1
    · exact Nat.lt_of_lt_of_le (sz b hb) (Nat.le_trans hge (Nat.le_of_lt hlt))
  | some cv =>
    refine wpAny_genexprCode_hit hcode (cd.code hP' ht) hf ?_
    exact cont cv H2 s2 I2 (ExtN.refl H2) tabs st2 fun b hb => ⟨f2 b hb, sz b hb⟩
end
end GenZ

end
section
set_option Elab.async false
set_option linter.all false
set_option maxRecDepth 100000
set_option maxHeartbeats 4000000
namespace Ms
open PySem PySem.Spec PyProof.Rows L2
/-! ### all(.. for .. in ..) -/
def allGo (b : Bd) (δ : List (Option D)) (F : Fn D) : List D → Sto → Res D
  | [], bx => .ok (.bl true) bx
  | d :: r, bx => match b bx δ d with
    | none => .bad
    | some δ1 => match F δ1 bx with
      | .ok (.bl true) bx1 => allGo b δ F r bx1
      | .ok (.bl false) bx1 => .ok (.bl false) bx1
      | _ => .bad
def fAllG (is : List Nat) (b : Bd) (Fi : Fn (List D)) (F : Fn D) : Fn D := bnd Fi fun ds => fun δ bx => allGo b (unset is δ) F ds bx
theorem Good.extN {K : PySem.W.Frag} {T : Tb} {β : Mu} {st : Sto} {H H' : Hp} (g : Good K T β st H) (x : ∀ b o, H b = some o → (∀ ps, o ≠ .tbl ps) → H' b = some o) (t : LamX.Tabs T.tb H') : Good K T β st H' :=
  ⟨g.ln, fun k a b h => by
    obtain ⟨c, h1, h2⟩ := g.cs k a b h
    exact ⟨c, h1, h2.le (.ext x) (g.xk (.ext x)) fun xs z => x _ _ z (fun ps z => by cases z)⟩, g.inj, fun k a b h => by
    obtain ⟨o, z, t⟩ := g.sm k a b h
    exact ⟨o, x _ _ z t, t⟩, fun e he => by
    obtain ⟨⟨l, h⟩, n⟩ := g.ex e he
    exact ⟨⟨l, x _ _ h (fun ps z => by cases z)⟩, n⟩, t⟩
theorem tAll_of {K : PySem.W.Frag} {P : Pm} {E : XK} {t : TG} {is : List Nat} {b : Bd} {Fi : Fn (List D)} {F : Fn D} (hgd : GD K t is b) : ∀ σ H Q, tD K P E (fAllG is b Fi F) σ H Q → GenZ.tAllG P.T.tb (tDL K P E Fi) t (tD K P E F) is σ H Q := by
  rintro σ H Q ⟨β, δ, bx, ev, g, o⟩
  have o2 := x_bind o.x
  refine ⟨β, δ, bx, ev, g, ?_⟩
  cases hF : Fi δ bx with
  | bad =>
    rw [hF] at o2
    exact o2
  | err c d bx' =>
    rw [hF] at o2
    exact o2
  | ok ds bx1 =>
    rw [hF] at o2
    intro β1 H1 l1 g1 _ J wk
    refine ⟨g1.tb, fun H2 x t2 => ?_⟩
    have o3 := o2 β1 H1 l1 g1 l1
    have lx : Le β1 H1 β1 H2 := .ext x
    refine ⟨fun i m Hc => m = ds.length - i ∧ i ≤ ds.length ∧ ∃ βi bx', Le β1 H1 βi Hc ∧ Ev K βi Hc (wipe σ is) (Ms.unset is δ) ∧ Good K P.T βi bx' Hc ∧ OutX P K β1 H1 (allGo b (Ms.unset is δ) F (ds.drop i) bx') E fun d β' _ H' => ∀ v, R K β' H' v d → Q v H',
      ⟨ds.length, rfl, Nat.zero_le _, β1, bx1, lx, ((ev.le l1).le lx).unset is, g1.extN x t2, by simpa using o3⟩, ?_⟩
    rintro i m Hi ⟨rfl, hi, βi, bx', li, evi, gi, oi⟩
    by_cases hlt : i < ds.length
    · refine .inr ⟨wk.goes i βi bx' Hi hlt li gi, ds.length - (i + 1), by omega, fun Hc => ∃ βi bx', Le β1 H1 βi Hc ∧ Ev K βi Hc (wipe σ is) (Ms.unset is δ) ∧ Good K P.T βi bx' Hc ∧ OutX P K β1 H1 (allGo b (Ms.unset is δ) F (ds.drop (i + 1)) bx') E fun d β' _ H' => ∀ v, R K β' H' v d → Q v H',
        fun H2 h => ⟨ds.length - (i + 1), Nat.le_refl _, rfl, hlt, h⟩, fun x H2 y => ?_⟩
      have hdi : ds[i]? = some ds[i] := List.getElem?_eq_getElem hlt
      obtain ⟨kp, rx⟩ := wk.yields i _ βi bx' Hi x H2 hdi li gi y
      have lk : Le βi Hi βi H2 := .of kp
      rw [List.drop_eq_getElem_cons hlt] at oi
      simp only [allGo] at oi
      cases hbd : b bx' (Ms.unset is δ) ds[i] with
      | none =>
        rw [hbd] at oi
        exact oi.elim
      | some δ1 =>
        rw [hbd] at oi
        dsimp only at oi
        refine hgd P.T βi bx' _ δ1 _ H2 x _ _ (evi.le lk) (gi.ext kp) rx hbd fun σ3 ev3 hw => ?_
        refine ⟨(hw is fun _ h => h).trans (wipe_wipe σ is), βi, δ1, bx', ev3, gi.ext kp, ?_⟩
        cases hE : F δ1 bx' with
        | bad =>
          rw [hE] at oi
          exact oi
        | err c d b =>
          rw [hE] at oi
          exact oi.elim
        | ok d bx3 =>
          rw [hE] at oi
          intro β4 y H4 l4 g4 ry
          cases d with
          | bl c =>
            cases c with
            | true => exact ⟨true, ry.bl_inv, fun _ => ⟨β4, bx3, (li.trans lk).trans l4, (evi.le lk).le l4, g4, oi⟩, fun z => nomatch z⟩
            | false => exact ⟨false, ry.bl_inv, (fun z => nomatch z), fun _ => oi β4 H4 ((li.trans lk).trans l4) g4 _ (.bl false)⟩
          | _ => exact oi.elim
    · have e : i = ds.length := by omega
      subst e
      rw [List.drop_length] at oi
      exact .inl ⟨wk.stops βi bx' Hi li gi, oi βi Hi li gi _ (.bl true)⟩
section
variable {X : Cx} {elt tg iter : Expr} {scope : Scope} {own : List (Str × Nat)} {P : Pm} {E : XK} {c Pt : Addr} {p pos gpos : Pos} {t : TG} {b : Bd} {Fi : Fn (List D)} {F : Fn D} {k : Nat}
theorem ed_allG (hr : Room (k + 2) X.A) (hc : X.calm = true) (hN : X.N.Nodup) (hg : Gl X "all") (hm : X.mg "all" = none) (hb : bootBuiltins "all" = some (.builtin "all")) (TB : LamX.TabB X.base X.mg c Pt) (hcode : X.env.code = .ref c)
    (hmT : (Pt, X.env.qual ++ "<genexpr>") ∈ P.T.tb) (hu : ∀ p ∈ P.T.tb, p.1 = Pt → p.2 = X.env.qual ++ "<genexpr>") (hi : EI X P E tg iter Fi) (ok : BlkOk X.N X.env.scope scope own) (G : GenZ.GnOk X.env.scope scope) (hgd : GD X.K t (own.map (·.2)) b)
    (hpg : ∀ A s H C code fp pn, Room k A → PG (GenZ.gnx X A s H (GenZ.gEnv X scope C code) fp pn) tg t) (hpe : ∀ A s H C code fp pn, Room k A → ED (GenZ.gnx X A s H (GenZ.gEnv X scope C code) fp pn) P E elt F) (hs : ∀ v, genFold iter X.env v = pure v)
    (he : starEach [.GeneratorExp elt [⟨tg, iter, [], 0⟩] scope gpos] X.env = (false, eval (.GeneratorExp elt [⟨tg, iter, [], 0⟩] scope gpos) X.env) :: starEach [] X.env := by rfl) :
    ED X P E (.Call (.Name "all" p) [.GeneratorExp elt [⟨tg, iter, [], 0⟩] scope gpos] [] pos) (fAllG (own.map (·.2)) b Fi F) :=
  pe_imp (GenZ.pe_allG hr hc hN hg hm hb TB hcode hmT hu hi ok G hpg hpe hs he) (tAll_of hgd)
end
end Ms

end
section
set_option Elab.async false
set_option linter.all false
set_option maxRecDepth 100000
set_option maxHeartbeats 4000000
namespace Ms
open PySem PySem.Spec PyProof.Rows L2
/-! ### the end by a head that tells facts -/
theorem walkX {l : PySem.W.OpenLaw} {n : Nat} {q : Program} {loose : List Str} {XP : (Str → Option Value) → Heap → Prop} {YP : World → Heap → Prop} {d : DefRec}
    (hn : l.most = some n) (hn2 : n ≤ sizeLine) (hdf : d.params.defaults = [])
    (F : ∀ (w : World) (mg : Str → Option Value) (fa : Addr) (h : Heap), YP w h → h.Ns mainGlobals mg → mg d.name = some (.ref fa) → ∃ K : PySem.W.Frag, K.In h ∧ LawAt l w K n mg fa h) :
    PySem.W.WalkO q loose XP YP l.row.toRowW d [] (fun f vs => PySem.call f vs) := by
  refine Att.attach_callB hn hdf fun w s₀ s₁ mg mb fa o pm cd doc a vs ns G Y ho hd hcd hmg hobj hints hlen hbits hg => ?_
  obtain ⟨K, KX, cs, hT, nT, C, hc⟩ := F w mg fa _ Y G.T.g hmg
  exact law_callG KX G.T.g G.T.b G.T.builtins G.T.nolimit hg hT nT C G.T.bmain hobj hints (Nat.le_trans hlen hn2) fun base H e0 tb hH hS => hc base H s₁ a ns hlen e0 tb hH hS
section
variable {K : PySem.W.Frag} {h : Heap} {mg : Str → Option Value}
/-- a def's function object -/
theorem def_of {x : Str} {st : Stmt} {f : Addr} {fd : FuncData} (F : FunD K x x (defArgs st) (defBody st) (defScope st) [] [] f fd) :
    ∃ (oc : Value) (od : Option Addr) (kV doc pm : Value) (an : Option Addr) (c : Addr) (ct : Value) (osl : Array (Option Value)), K.lookup f = some ⟨oc, od, .func (PySem.W.fnOf x x (defArgs st) (defBody st) (defScope st) .none kV doc pm an (.ref c) ct), osl⟩ ∧
      PySem.W.codeIn K (.ref c) x = true ∧ PySem.W.keepIn K (.ref f) = true := by
  obtain ⟨oc, od, dV, kV, doc, pm, an, cdv, ct, osl, rfl, lk, hcd, hd, _⟩ := F.ex
  obtain ⟨c, rfl⟩ := He.codeIn_ref hcd
  rcases hd with ⟨_, rfl⟩ | ⟨z, _⟩
  · exact ⟨oc, od, kV, doc, pm, an, c, ct, osl, lk, hcd, F.kp⟩
  · exact (z rfl).elim
/-- a class of errors with its own __init__ -/
def lowB (K : PySem.W.Frag) (cn : Str) : Bool :=
  (match K.lookup (He.ga K cn) with
  | some ⟨.type t, _, .cls r, sl⟩ => decide (t = "type") && ((match r.mro with
      | .ref C' :: bm => decide (C' = He.ga K cn) && PySem.HandSPX.refsVE bm
      | _ => false) && (r.hasDict && (!r.hasDel && (match sl.toList with
      | [_, _, _, _, some (.builtin id), _] => decide (id = "ValueError.__new__")
      | _ => false))))
  | _ => false) &&
  (He.eqO (PySem.W.findIn K (.ref (He.ga K cn)) "__setattr__") (some (some (.builtin "object.__setattr__"))) && (He.eqO (PySem.W.findIn K (.ref (He.ga K cn)) "__getattribute__") (some (some (.builtin "BaseException.__getattribute__"))) &&
  (He.eqO (PySem.W.findIn K (.ref (He.ga K cn)) "__getattr__") (some none) && (He.eqO (PySem.W.findIn K (.ref (He.ga K cn)) "at") (some none) && (He.eqO (PySem.W.findIn K (.ref (He.ga K cn)) "__init__") (some (some (.ref (He.ma K (He.ga K cn) "__init__")))) &&
  (decide (PySem.W.typeIn K (.ref (He.ma K (He.ga K cn) "__init__")) = some (.type "function")) && (PySem.W.keepIn K (.ref (He.ga K cn)) && (decide (PySem.W.subIn K (.ref (He.ga K cn)) (.type "BaseException") = some true) && (decide (PySem.W.typeIn K (.ref (He.ga K cn)) = some (.type "type")) &&
  (PySem.W.hasDictIn K (He.ga K cn) && (decide (PySem.W.exmOne K (.ref (He.ga K cn)) (.ref (He.ga K cn)) = some true) && (match K.lookup (He.ma K (He.ga K cn) "__init__") with
  | some ⟨_, _, .func fd, _⟩ => decide (fd.kwdefaults = .none)
  | _ => false))))))))))))
theorem lowCls {C : Addr} (h : (match K.lookup C with
  | some ⟨.type t, _, .cls r, sl⟩ => decide (t = "type") && ((match r.mro with
      | .ref C' :: bm => decide (C' = C) && PySem.HandSPX.refsVE bm
      | _ => false) && (r.hasDict && (!r.hasDel && (match sl.toList with
      | [_, _, _, _, some (.builtin id), _] => decide (id = "ValueError.__new__")
      | _ => false))))
  | _ => false) = true) : ∃ nm q N bs bm sn sub ab col dd k0 k1 k2 k3 k5, K.lookup C = some (excClassObj nm q C N bs bm true sn sub ab col dd k0 k1 k2 k3 k5 "ValueError.__new__") ∧ PySem.HandSPX.refsVE bm = true := by
  cases q : K.lookup C with
  | none => rw [q] at h; cases h
  | some o =>
    rw [q] at h
    obtain ⟨oc, od, dt, sl⟩ := o
    cases oc with
    | type t =>
      cases dt with
      | cls r =>
        obtain ⟨nm, bs, mro, ns, qn, hdct, sn, sub, ab, col, hdel⟩ := r
        obtain ⟨h1, h2⟩ := He.ba h
        obtain ⟨h2, h3⟩ := He.ba h2
        obtain ⟨h3, h4⟩ := He.ba h3
        obtain ⟨h4, h5⟩ := He.ba h4
        have h1 := of_decide_eq_true h1
        subst h1
        cases mro with
        | nil => cases h2
        | cons m bm =>
          cases m with
          | ref C' =>
            obtain ⟨h6, h7⟩ := He.ba h2
            have h6 := of_decide_eq_true h6
            subst h6
            have h3 : hdct = true := h3
            subst h3
            have h4 : hdel = false := by
              have z : (!hdel) = true := h4
              simpa using z
            subst h4
            obtain ⟨sl⟩ := sl
            match sl, h5 with
            | [k0, k1, k2, k3, some (.builtin id), k5], h5 =>
              have h5 := of_decide_eq_true h5
              subst h5
              exact ⟨nm, qn, ns, bs, bm, sn, sub, ab, col, od, k0, k1, k2, k3, k5, rfl, h7⟩
          | _ => cases h2
      | _ => cases h
    | _ => cases dt <;> cases h
theorem low_of {cn qn : Str} {p1 p2 q1 q2 q3 q4 : Pos} {fd : FuncData} (X : K.In h) (G : h.Ns mainGlobals mg) (b : lowB K cn = true) (g : mg cn = some (.ref (He.ga K cn)))
    (F : FunD K "__init__" qn (PySem.RefX.iA p1 p2) (PySem.RefX.iB q1 q2 q3 q4) PySem.RefX.iS [] [] (He.fAd K (cn, some "__init__")) fd) : PySem.RefX.LowTxt cn qn K mg (He.ga K cn) (He.ma K (He.ga K cn) "__init__") := by
  unfold lowB at b
  obtain ⟨b0, b⟩ := He.ba b
  obtain ⟨b1, b⟩ := He.ba b
  obtain ⟨b2, b⟩ := He.ba b
  obtain ⟨b3, b⟩ := He.ba b
  obtain ⟨b4, b⟩ := He.ba b
  obtain ⟨b5, b⟩ := He.ba b
  obtain ⟨b6, b⟩ := He.ba b
  obtain ⟨b7, b⟩ := He.ba b
  obtain ⟨b8, b⟩ := He.ba b
  obtain ⟨b9, b⟩ := He.ba b
  obtain ⟨b10, b⟩ := He.ba b
  obtain ⟨b11, b12⟩ := He.ba b
  obtain ⟨nm, q, N, bs, bm, sn, sub, ab, col, dd, k0, k1, k2, k3, k5, e1, e2⟩ := lowCls b0
  refine { gC := g, cls := ⟨nm, q, N, bs, bm, sn, sub, ab, col, dd, k0, k1, k2, k3, k5, e1, e2⟩, sa := He.eqO_ok b1, ga := He.eqO_ok b2, gg := He.eqO_ok b3, noN := He.eqO_ok b4, iC := He.eqO_ok b5, tC := of_decide_eq_true b6, kC := b7, exC := of_decide_eq_true b8, tyC := of_decide_eq_true b9, hdC := b10, te := of_decide_eq_true b11, fn := ?_ }
  obtain ⟨oc, od, dV, kV, doc, pm, an, cdv, ct, osl, rfl, lk, hcd, hd, _⟩ := F.ex
  have lk' : K.lookup (He.ma K (He.ga K cn) "__init__") = some ⟨oc, od, .func (PySem.W.fnOf "__init__" qn (PySem.RefX.iA p1 p2) (PySem.RefX.iB q1 q2 q3 q4) PySem.RefX.iS dV kV doc pm an cdv ct), osl⟩ := lk
  rw [lk'] at b12
  have hk : kV = .none := of_decide_eq_true b12
  subst hk
  rcases hd with ⟨_, rfl⟩ | ⟨z, _⟩
  · exact ⟨oc, od, doc, pm, an, cdv, ct, osl, p1, p2, q1, q2, q3, q4, lk', hcd⟩
  · exact (z rfl).elim
end
theorem uT_of : ∀ {L : List (Addr × Str)}, (L.map (·.1)).Nodup → ∀ p ∈ L, ∀ q ∈ L, q.1 = p.1 → q.2 = p.2
  | [], _, p, h, _, _, _ => (nomatch h)
  | x :: L, n, p, hp, q, hq, e => by
    rw [List.map_cons, List.nodup_cons] at n
    rcases List.mem_cons.mp hp with h1 | h1
    · subst h1
      rcases List.mem_cons.mp hq with h2 | h2
      · rw [h2]
      · exact (n.1 (List.mem_map.mpr ⟨q, h2, e⟩)).elim
    · rcases List.mem_cons.mp hq with h2 | h2
      · subst h2
        exact (n.1 (List.mem_map.mpr ⟨p, h1, e.symm⟩)).elim
      · exact uT_of n.2 p h1 q h2 e
end Ms

end
section
set_option Elab.async false
set_option linter.all false
set_option maxRecDepth 100000
set_option maxHeartbeats 4000000
/-! Lambdas that are kept: in a list, in a name. -/
namespace Ms
open PySem PySem.Spec PyProof.Rows L2
/-- a lambda's object at f, made in a frame of these cells -/
def LamH (cells : List (Str × Addr)) (q : Str) (params : Arguments) (body : Expr) (scope : Scope) (f c' : Addr) : HO :=
  .ext fun h => ∃ pm ctv : Value, h.get? f = some (PySem.W.kla_obj "<lambda>" q params body scope (cloFrom cells scope.names []) pm c' ctv)
theorem lamH_ok {Pg : Program} {w : World} {H : Hp} {h : Heap} {cells : List (Str × Addr)} {q : Str} {params : Arguments} {body : Expr} {scope : Scope} {f c' : Addr} {pm ctv : Value}
    (e : h.get? f = some (PySem.W.kla_obj "<lambda>" q params body scope (cloFrom cells scope.names []) pm c' ctv)) : ObjOk Pg w H h f (LamH cells q params body scope f c') :=
  ⟨⟨pm, ctv, e⟩, ⟨_, e⟩, fun _ _ ⟨pm', ctv', e'⟩ st => ⟨pm', ctv', st _ e'⟩⟩
section
variable {X : Cx} {pins : List (Addr × Obj)} {σ : L2.St} {H : Hp} {s : Shared}
/-- it is made, and known from now on -/
theorem lam_new {T : List (Addr × Str)} {cd Pt : Addr} {params : Arguments} {body : Expr} {scope : Scope} {pos : Pos} {Er Q : Value → Shared → Prop} (I : Inv X pins σ H s) (B : LamX.TabB X.base X.mg cd Pt) (hcd : X.env.code = .ref cd)
    (hm : (Pt, X.env.qual ++ "<lambda>") ∈ T) (hu : ∀ q ∈ T, q.1 = Pt → q.2 = X.env.qual ++ "<lambda>") (hT : LamX.Tabs T H) (hd : defaultsOf params X.env = ([], [])) (hfr : ∀ y ∈ scope.names, y.2 = .free → ∃ c, X.env.cells.lookup y.1 = some c)
    (go : ∀ (f c' : Addr) (H1 : Hp) (s' : Shared), Inv X pins σ (upd H1 f (LamH X.env.cells (X.env.qual ++ "<lambda>") params body scope f c')) s' → H1 f = none → LamX.ExtN H H1 → LamX.Tabs T H1 → H1 c' = some (LamX.CodeO c' (X.env.qual ++ "<lambda>")) → Q (.ref f) s') :
    wpAny (model X.prog X.w) X.A (eval (.Lambda params body scope pos) X.env) Q Er s := by
  have ⟨ps, hP, ok, am⟩ := hT _ hm
  have bP := B.bm.keeps I.bk
  have hP2 : s.heap.get? Pt = some { cls := .none, data := .fields ps } := I.hok Pt _ hP
  apply PySem.W.kla_eval hd
  cases hc : codeAmong pos ps.toList with
  | some cv =>
    have ⟨c', ec, co⟩ := am pos cv hc
    subst ec
    refine PySem.W.kla_makeFunctionHit (P := Pt) (c := cd) (mg := X.mg) (ps := ps) (closure_ok hfr) I.ok.glob
      (I.mod.glob.keeps I.bk) hcd (B.code.keeps I.bk) hP2 ok hc bP fun ctv h' tk kp le => ?_
    have fresh : H h'.objs.size = none := I.hok.fresh le
    refine go h'.objs.size c' H _ (Inv.laid (t' := tk) I (fun b u e => Heap.get?_push_of_some _ (kp b u e)) le ?_) fresh (LamX.ExtN.refl H) hT co
    exact lamH_ok (Heap.get?_push_size _ rfl)
  | none =>
    refine PySem.W.kla_makeFunction (P := Pt) (c := cd) (mg := X.mg) (ps := ps) (closure_ok hfr) I.ok.glob
      (I.mod.glob.keeps I.bk) hcd (B.code.keeps I.bk) hP2 ok hc B.gP bP fun c' ctv h' tk xb ge lt rec_ tb => ?_
    obtain ⟨c2, oc, vs, t, e2, hoc, hdd, hv⟩ := rec_
    cases e2
    have nC : H c' = none := I.hok.fresh ge
    have sz : s.heap.objs.size ≤ h'.objs.size := Nat.le_trans ge (Nat.le_of_lt lt)
    have I0 := LamX.inv_table (t' := tk) (more := #[rawInt pos.line, rawInt pos.col, .ref c']) (h' := h') I hP (fun b u hb e => xb b u hb e) tb ge ⟨oc, vs, t, hoc, hdd, hv⟩
    have nP : Pt ≠ c' := ne_of_none hP nC
    have eL : (ps ++ #[rawInt pos.line, rawInt pos.col, .ref c']).toList = ps.toList ++ [rawInt pos.line, rawInt pos.col, .ref c'] := by simp
    have x0 : LamX.ExtN H (upd (upd H Pt (.tbl (ps ++ #[rawInt pos.line, rawInt pos.col, .ref c']))) c' (LamX.CodeO c' (X.env.qual ++ "<lambda>"))) := fun b u e n => by
      have b1 : b ≠ c' := ne_of_none e nC
      have b2 : b ≠ Pt := fun z => by
        rw [z, hP] at e
        exact n ps (Option.some.inj e).symm
      rw [upd_ne b1, upd_ne b2, e]
    have n1 : h'.objs.size ≠ c' := Nat.ne_of_gt lt
    have n2 : h'.objs.size ≠ Pt := Nat.ne_of_gt (Nat.lt_of_lt_of_le (Heap.lt_size hP2) sz)
    refine go h'.objs.size c' _ _ (Inv.laid (s := { s with heap := h', toks := tk }) (t' := tk) I0 (fun b u e => Heap.get?_push_of_some _ e) (Nat.le_refl _) (lamH_ok (Heap.get?_push_size _ rfl))) ?_ x0 (fun q hq => ?_) upd_same
    · rw [upd_ne n1, upd_ne n2]
      exact I.hok.fresh sz
    · by_cases z : q.1 = Pt
      · rw [hu q hq z, z]
        refine ⟨_, (upd_ne nP).trans upd_same, by rw [eL]; exact PySem.TriplesOk_snoc _ _ _ _ ok, fun p2 cv hcv => ?_⟩
        rw [eL] at hcv
        rcases LamX.among_app _ ok hcv with y | y
        · have ⟨c0, y1, y2⟩ := am p2 cv y
          exact ⟨c0, y1, x0 _ _ y2 LamX.codeO_ne⟩
        · exact ⟨c', y, upd_same⟩
      · have ⟨ps', a1, a2, a3⟩ := hT q hq
        refine ⟨ps', (upd_ne (ne_of_none a1 nC)).trans ((upd_ne z).trans a1), a2, fun p2 cv hcv => ?_⟩
        have ⟨c0, y1, y2⟩ := a3 p2 cv hcv
        exact ⟨c0, y1, x0 _ _ y2 LamX.codeO_ne⟩
end
/-! ### what knows of it -/
def fLam (n : Nat) : Fn D := fun _ bx => .ok (.ref bx.length) (bx ++ [.lam n])
def Mu.lam (β : Mu) (f : Addr) : Mu := ⟨β.cs ++ [(f, false)], β.ex⟩
theorem lam_get {β : Mu} {a c : Addr} {k : Nat} {b : Bool} (h : (β.lam a).cs[k]? = some (c, b)) : β.cs[k]? = some (c, b) ∨ (k = β.cs.length ∧ c = a ∧ b = false) := by
  have h' : (β.cs ++ [(a, false)])[k]? = some (c, b) := h
  by_cases hk : k < β.cs.length
  · exact .inl (by rwa [List.getElem?_append_left hk] at h')
  · rw [List.getElem?_append_right (by omega)] at h'
    by_cases hz : k - β.cs.length = 0
    · rw [hz] at h'
      cases h'
      exact .inr ⟨by omega, rfl, rfl⟩
    · rw [List.getElem?_eq_none (by simp; omega)] at h'
      cases h'
theorem lam_old {β : Mu} {a : Addr} {k : Nat} {p : Addr × Bool} (h : β.cs[k]? = some p) : (β.lam a).cs[k]? = some p := by
  show (β.cs ++ [(a, false)])[k]? = some p
  rw [List.getElem?_append_left (List.getElem?_eq_some_iff.mp h).1]
  exact h
section
variable {K : PySem.W.Frag} {T : Tb} {β : Mu} {st : Sto} {H H1 : Hp} {f : Addr} {o : HO} {n : Nat}
theorem lam_keep (x : LamX.ExtN H H1) (nf : H1 f = none) : ∀ b u, H b = some u → (∀ ps, u ≠ .tbl ps) → (upd H1 f o) b = some u := fun b u e t => keep_new nf _ _ (x b u e t)
theorem Le.lam (x : LamX.ExtN H H1) (nf : H1 f = none) : Le β H (β.lam f) (upd H1 f o) := by
  have kp := lam_keep (o := o) x nf
  refine ⟨fun k a b h => ⟨b, lam_old h, id⟩, fun k a b h z u hu => ?_, fun _ h => h, fun e h z => (z h).elim, fun b u h _ t => kp b u h t, fun b u h t => ⟨u, kp b u h t, t⟩⟩
  rcases lam_get h with h | ⟨_, rfl, _⟩
  · rw [z] at h
    cases h
  · by_cases q : ∃ ps, u = .tbl ps
    · exact q
    · have := x a u hu fun ps e => q ⟨ps, e⟩
      rw [nf] at this
      cases this
theorem Good.lam (g : Good K T β st H) (x : LamX.ExtN H H1) (nf : H1 f = none) (no : ∀ ps, o ≠ .tbl ps) (t : LamX.Tabs T.tb H1) (hl : T.lm n f (upd H1 f o)) : Good K T (β.lam f) (st ++ [.lam n]) (upd H1 f o) := by
  have kp := lam_keep (o := o) x nf
  have l : Le β H (β.lam f) (upd H1 f o) := .lam x nf
  have fr : ∀ u, H f = some u → (∀ ps, u ≠ .tbl ps) → False := fun u e z => by
    have := x f u e z
    rw [nf] at this
    cases this
  refine ⟨?_, fun k a b hk => ?_, fun i j a b hi hj => ?_, fun k a b hk => ?_, fun e he => ?_, t.ext (keep_new nf)⟩
  · show (β.cs ++ [(f, false)]).length = _
    rw [List.length_append, List.length_append, g.ln]
    rfl
  · rcases lam_get hk with h | ⟨rfl, rfl, rfl⟩
    · obtain ⟨c, h1, h2⟩ := g.cs k a b h
      refine ⟨c, by rw [List.getElem?_append_left (List.getElem?_eq_some_iff.mp h1).1]; exact h1, h2.le l (g.xk l) fun xs z => kp _ _ z fun ps q => by cases q⟩
    · exact ⟨.lam n, by rw [g.ln, List.getElem?_append_right (Nat.le_refl _), Nat.sub_self]; rfl, rfl, hl⟩
  · rcases lam_get hi with h | ⟨_, _, q⟩
    · rcases lam_get hj with h' | ⟨_, rfl, _⟩
      · exact g.inj i j a b h h'
      · obtain ⟨u, e, z⟩ := g.sm i a true h
        exact (fr u e z).elim
    · cases q
  · rcases lam_get hk with h | ⟨rfl, rfl, rfl⟩
    · obtain ⟨u, e, z⟩ := g.sm k a b h
      exact ⟨u, kp _ _ e z, z⟩
    · exact ⟨o, upd_same, no⟩
  · obtain ⟨⟨m, hm⟩, q⟩ := g.ex e he
    refine ⟨⟨m, kp _ _ hm fun ps z => by cases z⟩, fun b z => ?_⟩
    rcases List.mem_append.mp (show (e, b) ∈ β.cs ++ [(f, false)] from z) with z | z
    · exact q b z
    · cases List.mem_singleton.mp z
      exact fr _ hm fun ps z => by cases z
end
/-- lambda: body, as a value -/
theorem ed_lam {X : Cx} {P : Pm} {E : XK} {n : Nat} {params : Arguments} {body : Expr} {scope : Scope} {cd Pt : Addr} {pos : Pos} (B : LamX.TabB X.base X.mg cd Pt) (hcd : X.env.code = .ref cd) (hm : (Pt, X.env.qual ++ "<lambda>") ∈ P.T.tb)
    (hu : ∀ q ∈ P.T.tb, q.1 = Pt → q.2 = X.env.qual ++ "<lambda>") (L : LamX.LamS X.env.scope scope) (hd : defaultsOf params X.env = ([], []))
    (hl : ∀ f c' H, H f = some (LamH X.env.cells (X.env.qual ++ "<lambda>") params body scope f c') → H c' = some (LamX.CodeO c' (X.env.qual ++ "<lambda>")) → P.T.lm n f H) : ED X P E (.Lambda params body scope pos) (fLam n) := by
  refine ⟨fun pins s σ H Q I h => ?_⟩
  obtain ⟨β, δ, bx, ev, g, o⟩ := h
  refine lam_new I B hcd hm hu g.tb hd (L.has I.ok) fun f c' H1 s' I1 nf x t co => ?_
  have ne : c' ≠ f := ne_of_none co nf
  have no : ∀ ps, LamH X.env.cells (X.env.qual ++ "<lambda>") params body scope f c' ≠ .tbl ps := fun ps z => by
    unfold LamH at z
    cases z
  refine ⟨.ref f, _, I1, rfl, ?_⟩
  refine o (β.lam f) _ _ (.lam x nf) (g.lam x nf no t (hl f c' _ upd_same ((upd_ne ne).trans co))) (.ref (b := false) ?_)
  show (β.cs ++ [(f, false)])[bx.length]? = _
  rw [← g.ln, List.getElem?_append_right (Nat.le_refl _), Nat.sub_self]
  rfl
/-! ### it is called -/
section
variable {X : Cx} {pins : List (Addr × Obj)} {σ : L2.St} {H : Hp} {s : Shared}
/-- a(), where a holds the lambda, in a def that was entered at s -/
theorem lam_act {Ng : List Str} {qg a : Str} {sg : Scope} {g f c' : Addr} {cdg : Value} {params : Arguments} {body : Expr} {scope : Scope} {k : Nat} {Ex : XK} {tb : TE} {CXg : CXT} {Eg : XK} {pn : List (Addr × Obj)} {xe : Value → Shared → Prop} {W : WX} {p1 p2 : Pos}
    (I : Inv X pins σ H s) (L : LamX.LamS X.env.scope scope)
    (bd : ∀ (q : Str) (cl : List (Str × Addr)) (pm cv ctv : Value), bindArgs (PySem.W.kla_fn "<lambda>" q params body scope cl pm cv ctv) ⟨[], []⟩ = pure [])
    (tk : Takes ((cxOf CXg X.prog X.w X.K X.mg X.base Ng qg sg g cdg X.A X.stack s H Eg).tr pn xe) W) (eW : ∀ cls d σ' H', Ex cls d H' → W cls d σ' H') (hr : Room (k + 1) (X.A.deeper (envOfC qg sg s.heap.objs.size g cdg)))
    (hB : ∀ (A : Around) (outer : List Env) (s : Shared) (H : Hp), Room k (A.deeper (LamX.lamEnv X scope s.heap.objs.size f c')) → PE (LamX.lamCx X A outer s H Ex scope f c') body tb)
    (h0 : Ng[0]? = some a) (hv : Vis sg a) (hd : (a == ("__debug__" : Str)) = false := by decide) (hcd : (a == ("__classdict__" : Str)) = false := by decide) :
    PE ((cxOf CXg X.prog X.w X.K X.mg X.base Ng qg sg g cdg X.A X.stack s H Eg).tr pn xe) (.Call (.Name a p1) [] [] p2)
      (fun τ J Q => τ[0]? = some (some (.ref f)) ∧ J c' = some (LamX.CodeO c' (X.env.qual ++ "<lambda>")) ∧ J f = some (LamH X.env.cells (X.env.qual ++ "<lambda>") params body scope f c') ∧ tb σ J Q) := by
  refine ⟨fun pz sz τ J Q IZ ⟨hs, hc, hf, ht⟩ => ?_⟩
  have var := (pe_var (pos := p1) (i := 0) h0 hv hd hcd).run pz sz τ J (fun v H1 => v = .ref f ∧ H1 = J) IZ ⟨.ref f, hs, rfl, rfl⟩
  refine wpAny_Call_Name_kw (thn var fun u s1 hu => ?_)
  obtain ⟨v, J1, I1, r1, rfl, rfl⟩ := hu
  have eu : u = Value.ref f := r1
  subst eu
  obtain ⟨⟨pm, ctv, of1⟩, _, _⟩ := I1.hok f _ hf
  obtain ⟨⟨oc, vs, t, hoc, hdc, hvc⟩, _, _⟩ := I1.hok c' _ hc
  refine PySem.W.callWith_F0 ⟨_, _, _, _, of1⟩ ?_
  have un : Un (frs X.stack) [] H J1 s.heap s1.heap := I1.base
  have body_ : codeAny (model X.prog X.w) (X.A.deeper (envOfC qg sg s.heap.objs.size g cdg)) (.call (.ref f) ⟨[], []⟩)
      (CR (L2.CX X.prog X.w) (envOfC qg sg s.heap.objs.size g cdg :: X.stack) X.prog X.w J1 s1 Q Ex) s1 := by
    refine PySem.W.kla_callFunE hr.depth of1 rfl L.co L.gen rfl ⟨c', oc, vs, t, rfl, hoc, hdc, hvc⟩ ?_
    rw [bd]
    have own : ∀ y ∈ scope.names, y.2 ≠ .cell := fun y hy => (L.own y hy).2
    refine wpAny_pure (wpAny_newFunctionEnv own (fun y hy => absurd hy (by simp))
      (fun h₁ hns hsb => ⟨I1.nolimit.fresh _ hsb, ?_⟩) L.kind)
    have keeps : ∀ b o, s1.heap.get? b = some o → h₁.get? b = some o := fun b o e =>
      hsb.extBut b o (Nat.ne_of_lt (Heap.lt_size e)) (Heap.get?_push_of_some _ e)
    have J0 := LamX.lam_start2 (tk := s1.toks + ([] : List (Str × Value)).length) (c' := c') (f := f) (E := Ex) I L I1.env0 hr.hd un hns keeps
    have rn := (hB _ _ s1 J1 (hr.deeper _)).run [] _ _ J1 Q J0 ht
    refine PySem.W.kla_codeExpr (wpAny_mono rn (fun v s' hq => ?_) fun e s' hq => hq)
    obtain ⟨w', H', J', rv, q⟩ := hq
    exact ⟨w', H', J'.os, J'.bare, J'.base, J'.hok, rv, q⟩
  have ps := passes_call (E := Ex) tk eW
  refine wpAny_call (codeAny_mono body_ fun r s' hq => ?_)
  match r, hq with
  | .error e, hq => exact ps pz τ J1 s1 e s' I1 hq
  | .ok (.ret u), hq => exact I1.after hq
  | .ok .next, hq => exact False.elim hq
  | .ok .brk, hq => exact False.elim hq
  | .ok .cont, hq => exact False.elim hq
end
def fHeardV (F : Fn D) (B : Nat → Fn D) : Fn D := bnd F fun d => fun δ bx => match d with
  | .ref k => (match bx[k]? with
    | some (.lam n) => hRes (B n δ bx)
    | _ => .bad)
  | _ => .bad
theorem out_ofX {K : PySem.W.Frag} {P : Pm} {E : XK} {β : Mu} {H : Hp} {r : Res D} {Q : VK} (o : OutX P K β H r E fun d β' _ H' => ∀ v, R K β' H' v d → Q v H') : Out K P β H r Q E := by
  cases r with
  | ok d bx => exact fun β' v H' l g q => o β' H' l g v q
  | err c d bx => exact o
  | bad => exact o
theorem hres_of {K : PySem.W.Frag} {P : Pm} {E : XK} {β : Mu} {H : Hp} {r : Res D} {Q : VK} (h : Out K P β H (hRes r) Q E) :
    Out K P β H r (fun v H' => [V.str "told", v].length ≤ sizeLine ∧ ∀ p, H' p = none → Q (.ref p) (upd H' p (.tup [.str "told", v]))) (EHeard K (P.CR "Refused") Q) := by
  cases r with
  | ok d bx' => exact fun β' v H' l' g' r => ⟨le1000 (by show 2 ≤ 1000; omega), fun p hp => h _ _ _ (l'.trans (.new hp)) (g'.new hp) (.tup ⟨.inl upd_same, g'.ne hp⟩ (.cons (.str _) (.cons (r.le (.new hp)) .nil)))⟩
  | err c d bx' =>
    have o' : Out K P β H (if c = "Refused" then (if showOk d = true then .ok (.tup [.str "refused", .str d.py.shown, .bl true]) bx' else .bad) else .bad) Q E := h
    split at o'
    · rename_i hcn
      subst hcn
      split at o'
      · rename_i hs
        unfold showOk at hs
        simp only [Bool.and_eq_true, decide_eq_true_eq] at hs
        exact fun β' a v H' l' g' hx r => ⟨rfl, a, v, d.py, rfl, hx, r.dp hs.1.1.1, hs.1.1.2, d.noDict, hs.1.2, hs.2, fun p hp => o' _ _ _ (l'.trans (.new hp)) (g'.new hp) (.tup ⟨.inl upd_same, g'.ne hp⟩ (.cons (.str _) (.cons (.str _) (.cons (.bl _) .nil))))⟩
      · exact o'.elim
    · exact o'.elim
  | bad => exact h.elim
/-- x(y), y being one of the frame's lambdas -/
theorem ed_heardV {X : Cx} {P : Pm} {E : XK} {F : Fn D} {B : Nat → Fn D} {x a y : Str} {g : Addr} {k : Nat} {pg : Arguments} {bg : List Stmt} {sg : Scope} {dV kV doc pm cdv ct oc : Value} {an od : Option Addr} {osl : Array (Option Value)} {Ng : List Str}
    {p py pos : Pos} (hg : Gl X x) (hm : X.mg x = some (.ref g)) (hk : PySem.W.keepIn X.K (.ref g) = true)
    (lk : X.K.lookup g = some ⟨oc, od, .func (PySem.W.fnOf x x pg bg sg dV kV doc pm an cdv ct), osl⟩) (hcg : PySem.W.codeIn X.K cdv x = true) (hb : L2.Binds X.K (PySem.W.fnOf x x pg bg sg dV kV doc pm an cdv ct) [a] []) (Sg : FnScope Ng [a] sg) (hNg : Ng[0]? = some a) (hva : Vis sg a)
    (hG : LamX.GivesTo X Ng x sg g cdv bg a (X.env.qual ++ "<lambda>") (TTHeard X.K (P.CR "Refused"))) (hr : Room (k + 2) X.A)
    (h : ED X P E (.Name y py) F)
    (hl : ∀ n f H, P.T.lm n f H → ∃ (c' : Addr) (params : Arguments) (body : Expr) (scope : Scope), H f = some (LamH X.env.cells (X.env.qual ++ "<lambda>") params body scope f c') ∧ H c' = some (LamX.CodeO c' (X.env.qual ++ "<lambda>")) ∧ LamX.LamS X.env.scope scope ∧
      (∀ (q : Str) (cl : List (Str × Addr)) (pm cv ctv : Value), bindArgs (PySem.W.kla_fn "<lambda>" q params body scope cl pm cv ctv) ⟨[], []⟩ = pure []) ∧
      ∀ (A : Around) (outer : List Env) (s : Shared) (H : Hp) (E' : XK), Room k (A.deeper (LamX.lamEnv X scope s.heap.objs.size f c')) → ED (LamX.lamCx X A outer s H E' scope f c') P E' body (B n))
    (hdb : (x == ("__debug__" : Str)) = false := by decide) (hd : (a == ("__debug__" : Str)) = false := by decide) (hcd : (a == ("__classdict__" : Str)) = false := by decide) :
    ED X P E (.Call (.Name x p) [.Name y py] [] pos) (fHeardV F B) := by
  refine ⟨fun pins s σ H Q I h0 => ?_⟩
  obtain ⟨β, δ, bx, ev, gd, o⟩ := h0
  have arg : tD X.K P E F σ H fun v H1 => ∃ (f : Addr) (n : Nat) (β1 : Mu) (bx1 : Sto), v = .ref f ∧ P.T.lm n f H1 ∧ Ev X.K β1 H1 σ δ ∧ Good X.K P.T β1 bx1 H1 ∧ Out X.K P β1 H1 (hRes (B n δ bx1)) Q E := by
    refine d_bind ev gd o.x fun β1 bx1 v d H1 l1 g1 r1 o1 => ?_
    cases r1 with
    | ref hk =>
      rename_i f k b
      have ⟨c, h1, h2⟩ := g1.cs _ _ _ hk
      dsimp only at o1
      rw [h1] at o1
      cases c with
      | lam n => exact ⟨f, n, β1, bx1, rfl, h2.2, ev.le l1, g1, out_ofX o1⟩
      | lst _ => exact o1.elim
      | dead => exact o1.elim
    | non => exact o1.elim
    | bl _ => exact o1.elim
    | int _ => exact o1.elim
    | str _ => exact o1.elim
    | lst _ _ => exact o1.elim
    | tup _ _ => exact o1.elim
    | fn _ _ => exact o1.elim
    | scr _ => exact o1.elim
  have run := h.run pins s σ H _ I arg
  refine wpAny_Call_Name_kw (ld_glob I hg hm ?_ hdb)
  refine PySem.W.callWith_K (h₀ := X.base) I.ok.mod.kin hk ?_ (by rfl) (by rfl)
  show wpAny _ _ (spliced ((false, eval (.Name y py) X.env) :: backTo pos (starEach [] X.env))) _ _ s
  refine Calls.spliced_cons (thn run fun u s1 hu => ?_)
  obtain ⟨v, H1, I1, rv, f, n, β1, bx1, ev', hlm, ev1, g1, o1⟩ := hu
  subst ev'
  have eu : u = Value.ref f := rv
  subst eu
  obtain ⟨c', params, body, scope, hf, hc, L, bd, hB⟩ := hl n f H1 hlm
  refine Calls.spliced_nil ⟨I1.kIn, ?_⟩
  have call_ : codeAny (model X.prog X.w) X.A (.call (.ref g) ⟨[.ref f], []⟩) (CR C8.CX0 X.stack X.prog X.w H1 s1 Q C8.E0) s1 := by
    refine LamX.run_ofS (vs := [.ref f]) (us := [.ref f]) (ps := [a]) (N := Ng) lk hcg Sg hr I1.env0 (hb s1 [.ref f] I1.kIn rfl) (.cons rfl .nil) rfl fun hr' => ?_
    have ⟨t', ht', hq'⟩ := hG f c' s1 H1 Q (fun E' H' Q' => H' f = some (LamH X.env.cells (X.env.qual ++ "<lambda>") params body scope f c') ∧ tD X.K P E' (B n) σ H' Q')
      (fun W pn xe E' p1 p2 tk hW => lam_act I1 L bd tk hW hr' (fun A outer s H hr2 => hB A outer s H E' hr2) hNg hva hd hcd) hc ⟨hf, β1, δ, bx1, ev1, g1, hres_of o1⟩
    exact ⟨t', ht'.nox, hq'⟩
  refine wpAny_call (codeAny_mono call_ fun r s2 hq => ?_)
  match r, hq with
  | .error e, hq => exact False.elim hq
  | .ok (.ret u), hq => exact I1.after hq
  | .ok .next, hq => exact False.elim hq
  | .ok .brk, hq => exact False.elim hq
  | .ok .cont, hq => exact False.elim hq
end Ms

end
section
set_option Elab.async false
set_option linter.all false
set_option maxRecDepth 100000
set_option maxHeartbeats 4000000
namespace Ms
open PySem PySem.Spec PyProof.Rows L2
/-! ### defs, by whether nothing may be being shown where they are called -/
structure FnB (gd : Bool) (Pg : Program) (w : World) (K : PySem.W.Frag) (mg : Str → Option Value) (base : Heap) (CX : CXT) (k : Nat) (f : Addr) (fd : FuncData) (ps : List Str) (sp : Sp) : Prop where
  len : ∀ vs H Q E, sp vs H Q E → vs.length = ps.length
  run : ∀ (A : Around) (outer : List Env) (s : Shared) (H : Hp) (args : Args) (us : List Value) (vs : List V) (Q : VK) (E : XK), (gd = true → A.guards = some []) → Room k A → Env0 Pg w K mg base A outer s H → BindsTo s fd args (ps.zip us) → Vals vs us → sp vs H Q E →
    codeAny (model Pg w) A (.call (.ref f) args) (CR CX outer Pg w H s Q E) s
structure DfB (gd : Bool) (Pg : Program) (w : World) (K : PySem.W.Frag) (mg : Str → Option Value) (base : Heap) (P : Pm) (CX : CXT) (j : Nat) (x : Str) (st : Stmt) (ps : List Str) (m : List D → Sto → Res D) : Prop where
  ex : ∃ (f : Addr) (fd : FuncData), mg x = some (.ref f) ∧ Fun K x x st f fd ∧ L2.Binds K fd ps [] ∧ FnB gd Pg w K mg base CX j f fd ps (spD K P ps.length m)
section
variable {X : Cx} {P : Pm} {E : XK} {pos : Pos} {es : List Expr} {A : Fn (List D)} {CX : CXT} {k : Nat} {st : Stmt} {ps : List Str} {m : List D → Sto → Res D} {x : Str} {p : Pos} {e : Expr} {gd : Bool} {kws : List Keyword}
theorem ed_callB (hga : gd = true → X.A.guards = some []) (d : DfB gd X.prog X.w X.K X.mg X.base P CX k x st ps m) (hr : Room k X.A) (hx : Passes CX X E) (hg : Gl X x) (ha : EA X P E (e :: es) A) (hA : ∀ δ bx ds bx', A δ bx = .ok ds bx' → ds.length = ps.length)
    (hdb : (x == ("__debug__" : Str)) = false := by decide) (he : starEach (e :: es) X.env = (false, eval e X.env) :: starEach es X.env := by rfl) (hpl : (backTo pos (starEach es X.env)).any (·.1) = false := by rfl) :
    ED X P E (.Call (.Name x p) (e :: es) [] pos) (fCall m A) := by
  obtain ⟨f, fd, hm, hF, hb, F⟩ := d.ex
  refine ⟨fun pins s σ H Q I h => ?_⟩
  obtain ⟨β, δ, bx, ev, gd, o⟩ := h
  have o2 := x_bind o.x
  have h' : (tDA X.K P E A) σ H fun zs H1 => spD X.K P ps.length m zs H1 Q E := by
    refine ⟨β, δ, bx, ev, gd, ?_⟩
    cases hF : A δ bx with
    | ok ds bx' =>
      rw [hF] at o2
      exact fun β' vs H' l g' r => ⟨β', ds, bx', by rw [r.length]; exact hA _ _ _ _ hF, r, g', (o2 β' H' l g' l).out⟩
    | err c d bx' =>
      rw [hF] at o2
      exact o2
    | bad =>
      rw [hF] at o2
      exact o2
  refine wpAny_Call_Name_kw (ld_glob I hg hm ?_ hdb)
  refine PySem.W.callWith_K (h₀ := X.base) I.ok.mod.kin hF.kp (thn (ha.run pos pins s σ H _ I h') fun us s1 hs => ?_) he hpl
  obtain ⟨vs, H1, I1, r, q⟩ := hs
  refine ⟨I1.kIn, ?_⟩
  have hl : us.length = ps.length := by rw [← r.length]; exact F.len _ _ _ _ q
  have hbb := hb s1 us I1.kIn (by rw [List.append_nil]; exact hl)
  rw [List.append_nil] at hbb
  show wpAny _ _ (call (.ref f) us) _ _ _
  refine wpAny_call (codeAny_mono (F.run X.A X.stack s1 H1 ⟨us, []⟩ us vs Q E hga hr I1.env0 hbb r q) fun rr s' hq => ?_)
  match rr, hq with
  | .error er, hq => exact hx pins σ H1 s1 er s' I1 hq
  | .ok fl, hq =>
    cases fl
    all_goals first
      | exact I1.after hq
      | exact False.elim hq
theorem ed_callB0 (hga : gd = true → X.A.guards = some []) (d : DfB gd X.prog X.w X.K X.mg X.base P CX k x st [] m) (hr : Room k X.A) (hx : Passes CX X E) (hg : Gl X x) (hdb : (x == ("__debug__" : Str)) = false := by decide) :
    ED X P E (.Call (.Name x p) [] [] pos) (fCall m (pur [])) := by
  obtain ⟨f, fd, hm, hF, hb, F⟩ := d.ex
  refine ⟨fun pins s σ H Q I h => ?_⟩
  obtain ⟨β, δ, bx, ev, gd, o⟩ := h
  have h' : spD X.K P ([] : List Str).length m [] H Q E := ⟨β, [], bx, rfl, .nil, gd, o⟩
  refine wpAny_Call_Name_kw (ld_glob I hg hm ?_ hdb)
  refine PySem.W.callWith_K0 I.kIn hF.kp ?_
  have hbb := hb s [] I.kIn rfl
  show wpAny _ _ (call (.ref f) []) _ _ _
  refine wpAny_call (codeAny_mono (F.run X.A X.stack s H ⟨[], []⟩ [] [] Q E hga hr I.env0 hbb .nil h') fun rr s' hq => ?_)
  match rr, hq with
  | .error er, hq => exact hx pins σ H s er s' I hq
  | .ok fl, hq =>
    cases fl
    all_goals first
      | exact I.after hq
      | exact False.elim hq
theorem ed_callBK {ks : List Str} (π : List Nat) (hga : gd = true → X.A.guards = some []) (d : DfB gd X.prog X.w X.K X.mg X.base P CX k x st ps m) (hr : Room k X.A) (hx : Passes CX X E) (hg : Gl X x)
    (hb : ∀ (kV doc pm : Value) (an : Option Addr) (cdv ct : Value) (ws : List Value), ws.length = ks.length → bindArgs (PySem.W.fnOf x x (defArgs st) (defBody st) (defScope st) .none kV doc pm an cdv ct) ⟨[], ks.zip ws⟩ = pure (ps.zip (pick .none π ws)))
    (ha : EK X P E kws A) (hA : ∀ δ bx ds bx', A δ bx = .ok ds bx' → ds.length = ks.length) (hp : π.length = ps.length := by rfl) (hall : (backToKw pos (keywordEach kws X.env)).all (·.1.isSome) = true := by rfl) (hks : (backToKw pos (keywordEach kws X.env)).filterMap (·.1) = ks := by rfl)
    (hdb : (x == ("__debug__" : Str)) = false := by decide) (hpl : ((backTo pos (starEach [] X.env)).any (·.1) || (backToKw pos (keywordEach kws X.env)).any (·.1.isNone)) = false := by rfl) :
    ED X P E (.Call (.Name x p) [] kws pos) (fCallK m π A) := by
  obtain ⟨f, fd, hm, h2, hb0, F⟩ := d.ex
  have hbk := bindsK h2 hb
  refine ⟨fun pins s σ H Q I h => ?_⟩
  obtain ⟨β, δ, bx, ev, gd, o⟩ := h
  have o2 := x_bind o.x
  have h' : (tDA X.K P E A) σ H fun zs H1 => ∃ β ds bx, zs.length = ks.length ∧ RA X.K β H1 zs ds ∧ Good X.K P.T β bx H1 ∧ Out X.K P β H1 (m (pick .non π ds) bx) Q E := by
    refine ⟨β, δ, bx, ev, gd, ?_⟩
    cases hF : A δ bx with
    | ok ds bx' =>
      rw [hF] at o2
      exact fun β' vs H' l g' r => ⟨β', ds, bx', by rw [r.length]; exact hA _ _ _ _ hF, r, g', (o2 β' H' l g' l).out⟩
    | err c d bx' =>
      rw [hF] at o2
      exact o2
    | bad =>
      rw [hF] at o2
      exact o2
  refine wpAny_Call_Name_kw (ld_glob I hg hm ?_ hdb)
  refine PySem.W.callWith_KW0 (h₀ := X.base) I.ok.mod.kin h2.kp hall ?_ hpl
  refine thn (ha.run pos pins s σ H _ I h') fun ws s2 ⟨zs, H2, I2, rz, β2, ds, bx2, hl, ra, g2, o3⟩ => ⟨I2.kIn, ?_⟩
  rw [hks]
  have hl2 : ws.length = ks.length := by rw [← rz.length]; exact hl
  refine wpAny_call (codeAny_mono (F.run X.A X.stack s2 H2 ⟨[] ++ [], ks.zip ws⟩ (pick .none π ws) (pick .non π zs) Q E hga hr I2.env0 (hbk s2 ws I2.kIn hl2) (vals_pick rz π) ⟨β2, pick .non π ds, bx2, by unfold pick; rw [List.length_map]; exact hp, ra_pick ra π, g2, o3⟩) fun r s' hq => ?_)
  cases r with
  | error e => exact hx pins σ H2 s2 e s' I2 hq
  | ok fl =>
    cases fl with
    | ret u => exact I2.after hq
    | next => exact False.elim hq
    | brk => exact False.elim hq
    | cont => exact False.elim hq
end
section
variable {Pg : Program} {w : World} {K : PySem.W.Frag} {mg : Str → Option Value} {base : Heap} {P : Pm} {gd : Bool}
variable {x : Str} {st : Stmt} {f : Addr} {kV doc pm cdv ct oc : Value} {an od : Option Addr} {osl : Array (Option Value)} {N ps : List Str} {k : Nat} {S : Sn}
/-- a def that lets no error out -/
theorem df_B0 (lk : K.lookup f = some ⟨oc, od, .func (PySem.W.fnOf x x (defArgs st) (defBody st) (defScope st) .none kV doc pm an cdv ct), osl⟩) (hcd : PySem.W.codeIn K cdv x = true) (kp : PySem.W.keepIn K (.ref f) = true) (hm : mg x = some (.ref f)) (sc : FnScope N ps (defScope st))
    (hbd : ∀ (kV doc pm : Value) (an : Option Addr) (cdv ct : Value) (us : List Value), us.length = ps.length → bindArgs (PySem.W.fnOf x x (defArgs st) (defBody st) (defScope st) .none kV doc pm an cdv ct) ⟨us, []⟩ = pure (ps.zip us))
    (hb : ∀ (A : Around) (outer : List Env) (s : Shared) (H : Hp), (gd = true → A.guards = some []) → Room k (A.deeper (envOfC x (defScope st) s.heap.objs.size f cdv)) →
      SSD (cxOf CX0 Pg w K mg base N x (defScope st) f cdv A outer s H E0).nox P E0 (defBody st) S) :
    DfB gd Pg w K mg base P CX0 (k + 1) x st ps (fun ds bx => noErr (fnD N S ds bx)) := by
  have F0 := fun_mk (st := st) lk hcd kp
  refine ⟨f, _, hm, F0, F0.binds hbd, fun vs H Q E h => spD_len _ _ _ _ h, fun A outer s H args us vs Q E hg hr e0 hbn r h => ?_⟩
  have hs : spD K P ps.length (fnD N S) vs H Q E0 := by
    obtain ⟨β, ds, bx, h1, h2, h3, o⟩ := h
    refine ⟨β, ds, bx, h1, h2, h3, ?_⟩
    replace o : Out K P β H (noErr (fnD N S ds bx)) Q E := o
    cases hF : fnD N S ds bx with
    | ok d bx' =>
      rw [hF] at o
      exact o
    | err c d bx' =>
      rw [hF] at o
      exact o.elim
    | bad =>
      rw [hF] at o
      exact o
  have z := LamX.run_ofS (CX := CX0) (E := E0) (Q := Q) lk hcd sc hr e0 hbn r (spD_len _ _ _ _ h) fun hr' => ⟨tDS K P E0 S, (hb A outer s H hg hr').nox, fn_end hs⟩
  refine codeAny_mono z fun rr s' hq => ?_
  match rr, hq with
  | .ok _, hq => exact hq
  | .error _, hq => exact False.elim hq
/-- a def that may raise -/
theorem df_BX (lk : K.lookup f = some ⟨oc, od, .func (PySem.W.fnOf x x (defArgs st) (defBody st) (defScope st) .none kV doc pm an cdv ct), osl⟩) (hcd : PySem.W.codeIn K cdv x = true) (kp : PySem.W.keepIn K (.ref f) = true) (hm : mg x = some (.ref f)) (sc : FnScope N ps (defScope st))
    (hbd : ∀ (kV doc pm : Value) (an : Option Addr) (cdv ct : Value) (us : List Value), us.length = ps.length → bindArgs (PySem.W.fnOf x x (defArgs st) (defBody st) (defScope st) .none kV doc pm an cdv ct) ⟨us, []⟩ = pure (ps.zip us))
    (hb : ∀ (A : Around) (outer : List Env) (s : Shared) (H : Hp) (E : XK), (gd = true → A.guards = some []) → Room k (A.deeper (envOfC x (defScope st) s.heap.objs.size f cdv)) →
      SSD (cxOf (L2.CX Pg w) Pg w K mg base N x (defScope st) f cdv A outer s H E) P E (defBody st) S) :
    DfB gd Pg w K mg base P (L2.CX Pg w) (k + 1) x st ps (fnD N S) := by
  have F0 := fun_mk (st := st) lk hcd kp
  refine ⟨f, _, hm, F0, F0.binds hbd, fun vs H Q E h => spD_len _ _ _ _ h, fun A outer s H args us vs Q E hg hr e0 hbn r h => ?_⟩
  exact LamX.run_ofS (CX := L2.CX Pg w) (E := E) (Q := Q) lk hcd sc hr e0 hbn r (spD_len _ _ _ _ h) fun hr' => ⟨tDS K P E S, hb A outer s H E hg hr', fn_end h⟩
end
/-! ### what else is written in the texts -/
section
variable {X : Cx} {P : Pm} {E : XK} {pos : Pos} {a b : Expr} {F G : Fn D} {es : List Expr} {A : Fn (List D)}
def cIsB (neg : Bool) : Sto → D → D → Option D
  | _, .bl i, .bl j => some (.bl (if neg then !decide (i = j) else decide (i = j)))
  | _, _, _ => none
theorem opd_isB : OpD X P (fun x y H Q => ∃ a b, x = .bl a ∧ y = .bl b ∧ Q (.bl (decide (a = b))) H) (cIsB false) := by
  intro β bx H x y d e z Q g rx ry h k
  unfold cIsB at h
  split at h
  · cases h
    exact ⟨_, _, rx.bl_inv, ry.bl_inv, k _ H .refl g (.bl _)⟩
  · cases h
theorem opd_notB : OpD X P (fun x y H Q => ∃ a b, x = .bl a ∧ y = .bl b ∧ Q (.bl (!decide (a = b))) H) (cIsB true) := by
  intro β bx H x y d e z Q g rx ry h k
  unfold cIsB at h
  split at h
  · cases h
    exact ⟨_, _, rx.bl_inv, ry.bl_inv, k _ H .refl g (.bl _)⟩
  · cases h
theorem ed_isB (ha : ED X P E a F) (hb : ED X P E b G) : ED X P E (.Compare a [.Is] [b] pos) (f2 (cIsB false) F G) := ed_cmp op_isBl opd_isB ha hb (nomark _)
theorem ed_notB (ha : ED X P E a F) (hb : ED X P E b G) : ED X P E (.Compare a [.IsNot] [b] pos) (f2 (cIsB true) F G) := ed_cmp op_notBl opd_notB ha hb (nomark _)
theorem et_isB (ha : ED X P E a F) (hb : ED X P E b G) : ET X P E (.Compare a [.Is] [b] pos) (fB (f2 (cIsB false) F G)) := et_cmp op_isBl opd_isB ha hb (nomark _)
theorem et_notB (ha : ED X P E a F) (hb : ED X P E b G) : ET X P E (.Compare a [.IsNot] [b] pos) (fB (f2 (cIsB true) F G)) := et_cmp op_notBl opd_notB ha hb (nomark _)
/-- all(xs) of a list of answers -/
def toBls : List D → Option (List Bool)
  | [] => some []
  | .bl b :: r => (toBls r).map (b :: ·)
  | _ => none
theorem toBls_inv : ∀ {l : List D} {ns : List Bool}, toBls l = some ns → l = ns.map D.bl
  | [], ns, h => by cases h; rfl
  | .bl i :: r, ns, h => by
    simp only [toBls] at h
    cases hr : toBls r with
    | none => rw [hr] at h; cases h
    | some ms =>
      rw [hr] at h
      cases h
      rw [toBls_inv hr]
      rfl
  | .non :: _, _, h => by cases h
  | .int _ :: _, _, h => by cases h
  | .str _ :: _, _, h => by cases h
  | .lst _ :: _, _, h => by cases h
  | .tup _ :: _, _, h => by cases h
  | .ref _ :: _, _, h => by cases h
  | .fn _ :: _, _, h => by cases h
  | .scr _ :: _, _, h => by cases h
theorem toBls_map : ∀ ns : List Bool, toBls (ns.map D.bl) = some ns
  | [] => rfl
  | n :: r => by simp only [List.map_cons, toBls, toBls_map r, Option.map_some]
theorem RA.bls_inv {K : PySem.W.Frag} {β : Mu} {H : Hp} : ∀ {ns : List Bool} {vs : List V}, RA K β H vs (ns.map D.bl) → vs = ns.map V.bl
  | [], _, h => by cases h; rfl
  | n :: r, _, h => by
    cases h with
    | cons a b => rw [a.bl_inv, RA.bls_inv b]; rfl
def cAll (st : Sto) : List D → Option D
  | [d] => ((vl st d).bind toBls).map fun bs => .bl (bs.all id)
  | _ => none
theorem cd_all : CallD X P (rAll X.K) cAll := by
  intro β bx H xs ds z Q g r h k
  unfold cAll at h
  split at h
  · rename_i d
    obtain ⟨v, rfl, r1⟩ := r.one
    cases hl : vl bx d with
    | none => rw [hl] at h; cases h
    | some l =>
      rw [hl] at h
      replace h : (toBls l).map (fun bs => D.bl (bs.all id)) = some z := h
      cases hb : toBls l with
      | none => rw [hb] at h; cases h
      | some bs =>
        rw [hb] at h
        cases h
        have e := toBls_inv hb
        subst e
        obtain ⟨a, xs, rfl, s, ra⟩ := r1.vl g hl
        rw [ra.bls_inv] at s
        exact ⟨a, bs, rfl, .inl s, k _ H .refl g (.bl _)⟩
  · cases h
end
end Ms
namespace Ms
theorem noG {p : Prop} : (false = true → p) := fun z => nomatch z
theorem yesG {p : Prop} (h : p) : (true = true → p) := fun _ => h
end Ms

end
section
set_option Elab.async false
set_option linter.all false
set_option maxRecDepth 100000
set_option maxHeartbeats 4000000
namespace Ms
open PySem PySem.Spec PyProof.Rows L2
/-- a lambda of the text -/
structure LamI where
  params : Arguments
  body : Expr
  scope : Scope
/-- the n-th lambda of a frame of these cells stands at f -/
def lmOf (cells : List (Str × Addr)) (q : Str) (ls : List LamI) (n : Nat) (f : Addr) (H : Hp) : Prop :=
  ∃ (i : LamI) (c' : Addr), ls[n]? = some i ∧ H f = some (LamH cells q i.params i.body i.scope f c') ∧ H c' = some (LamX.CodeO c' q)
def tbOf (tb : List (Addr × Str)) (cells : List (Str × Addr)) (q : Str) (ls : List LamI) : Tb := ⟨tb, lmOf cells q ls, fun _ _ _ _ ⟨i, c', h1, h2, h3⟩ k => ⟨i, c', h1, k _ _ h2, k _ _ h3⟩⟩
def hideC : Cell → Cell
  | .lam _ => .dead
  | c => c
def hide (st : Sto) : Sto := st.map hideC
def hideR : Res D → Res D
  | .ok d st => .ok d (hide st)
  | .err c d st => .err c d (hide st)
  | .bad => .bad
theorem Good.hideL {K : PySem.W.Frag} {T T' : Tb} {β : Mu} {st : Sto} {H : Hp} (g : Good K T β st H) (e : T'.tb = T.tb) : Good K T' β (Ms.hide st) H := by
  refine ⟨by unfold Ms.hide; rw [List.length_map]; exact g.ln, fun k a b h => ?_, g.inj, g.sm, g.ex, by rw [e]; exact g.tb⟩
  obtain ⟨c, h1, h2⟩ := g.cs k a b h
  refine ⟨hideC c, by unfold Ms.hide; rw [List.getElem?_map, h1]; rfl, ?_⟩
  cases c with
  | lst ds => exact h2
  | dead => exact h2
  | lam n => exact h2.1
section
variable {Pg : Program} {w : World} {K : PySem.W.Frag} {mg : Str → Option Value} {base : Heap} {P : Pm} {gd : Bool}
variable {x : Str} {st : Stmt} {f : Addr} {kV doc pm cdv ct oc : Value} {an od : Option Addr} {osl : Array (Option Value)} {N ps : List Str} {k : Nat} {S : Sn}
/-- a def that keeps lambdas of its own, and lets no error out -/
theorem df_BL (lk : K.lookup f = some ⟨oc, od, .func (PySem.W.fnOf x x (defArgs st) (defBody st) (defScope st) .none kV doc pm an cdv ct), osl⟩) (hcd : PySem.W.codeIn K cdv x = true) (kp : PySem.W.keepIn K (.ref f) = true) (hm : mg x = some (.ref f)) (sc : FnScope N ps (defScope st))
    (hbd : ∀ (kV doc pm : Value) (an : Option Addr) (cdv ct : Value) (us : List Value), us.length = ps.length → bindArgs (PySem.W.fnOf x x (defArgs st) (defBody st) (defScope st) .none kV doc pm an cdv ct) ⟨us, []⟩ = pure (ps.zip us))
    (hb : ∀ (A : Around) (outer : List Env) (s : Shared) (H : Hp), (gd = true → A.guards = some []) → Room k (A.deeper (envOfC x (defScope st) s.heap.objs.size f cdv)) →
      ∃ T' : Tb, T'.tb = P.T.tb ∧ SSD (cxOf CX0 Pg w K mg base N x (defScope st) f cdv A outer s H E0).nox ⟨T', P.CR⟩ E0 (defBody st) S) :
    DfB gd Pg w K mg base P CX0 (k + 1) x st ps (fun ds bx => hideR (noErr (fnD N S ds (hide bx)))) := by
  have F0 := fun_mk (st := st) lk hcd kp
  refine ⟨f, _, hm, F0, F0.binds hbd, fun vs H Q E h => spD_len _ _ _ _ h, fun A outer s H args us vs Q E hg hr e0 hbn r h => ?_⟩
  have hs : ∀ T' : Tb, T'.tb = P.T.tb → spD K ⟨T', P.CR⟩ ps.length (fnD N S) vs H Q E0 := fun T' e => by
    obtain ⟨β, ds, bx, h1, h2, h3, o⟩ := h
    refine ⟨β, ds, hide bx, h1, h2, h3.hideL e, ?_⟩
    replace o : Out K P β H (hideR (noErr (fnD N S ds (hide bx)))) Q E := o
    cases hF : fnD N S ds (hide bx) with
    | ok d bx' =>
      rw [hF] at o
      exact fun β' v H' l g' r' => o β' v H' l (g'.hideL e.symm) r'
    | err c d bx' =>
      rw [hF] at o
      exact o.elim
    | bad =>
      rw [hF] at o
      exact o
  have z := LamX.run_ofS (CX := CX0) (E := E0) (Q := Q) lk hcd sc hr e0 hbn r (spD_len _ _ _ _ h) fun hr' => by
    obtain ⟨T', e, hb'⟩ := hb A outer s H hg hr'
    exact ⟨tDS K ⟨T', P.CR⟩ E0 S, hb'.nox, fn_end (hs T' e)⟩
  refine codeAny_mono z fun rr s' hq => ?_
  match rr, hq with
  | .ok _, hq => exact hq
  | .error _, hq => exact False.elim hq
end
/-- what is to be known of each lambda that is called -/
theorem hl_of {X : Cx} {P : Pm} {B : Nat → Fn D} {k : Nat} {ls : List LamI}
    (all : ∀ n i, ls[n]? = some i → LamX.LamS X.env.scope i.scope ∧ (∀ (q : Str) (cl : List (Str × Addr)) (pm cv ctv : Value), bindArgs (PySem.W.kla_fn "<lambda>" q i.params i.body i.scope cl pm cv ctv) ⟨[], []⟩ = pure []) ∧
      ∀ (A : Around) (outer : List Env) (s : Shared) (H : Hp) (E' : XK) (f c' : Addr), Room k (A.deeper (LamX.lamEnv X i.scope s.heap.objs.size f c')) → ED (LamX.lamCx X A outer s H E' i.scope f c') P E' i.body (B n)) (n : Nat) (f : Addr) (H : Hp)
    (h : lmOf X.env.cells (X.env.qual ++ "<lambda>") ls n f H) : ∃ (c' : Addr) (params : Arguments) (body : Expr) (scope : Scope), H f = some (LamH X.env.cells (X.env.qual ++ "<lambda>") params body scope f c') ∧ H c' = some (LamX.CodeO c' (X.env.qual ++ "<lambda>")) ∧ LamX.LamS X.env.scope scope ∧
      (∀ (q : Str) (cl : List (Str × Addr)) (pm cv ctv : Value), bindArgs (PySem.W.kla_fn "<lambda>" q params body scope cl pm cv ctv) ⟨[], []⟩ = pure []) ∧
      ∀ (A : Around) (outer : List Env) (s : Shared) (H : Hp) (E' : XK), Room k (A.deeper (LamX.lamEnv X scope s.heap.objs.size f c')) → ED (LamX.lamCx X A outer s H E' scope f c') P E' body (B n) := by
  obtain ⟨i, c', h1, h2, h3⟩ := h
  obtain ⟨a1, a2, a3⟩ := all n i h1
  exact ⟨c', i.params, i.body, i.scope, h2, h3, a1, a2, fun A outer s H E' hr => a3 A outer s H E' f c' hr⟩
end Ms

end
section
set_option Elab.async false
set_option linter.all false
set_option maxRecDepth 100000
set_option maxHeartbeats 4000000
/-! More of what the texts say. -/
namespace Ms
open PySem PySem.Spec PyProof.Rows L2
section
variable {X : Cx} {P : Pm} {E : XK} {F G : Fn D} {A : Fn (List D)} {a b : Expr} {pos : Pos}
/-! ### list(range(..)) -/
def rgOk (i j : Int) : Bool := decide (-(2 ^ 62) ≤ i) && decide (i < 2 ^ 62) && decide (-(2 ^ 62) ≤ j) && decide (j < 2 ^ 62) && decide ((j - i).toNat ≤ 1000000)
def cLstRg2 : Sto → D → D → Option D
  | _, .int i, .int j => if rgOk i j = true then some (.lst (rgl i (j - i).toNat)) else none
  | _, _, _ => none
def cLstRg1 : Sto → D → Option D
  | _, .int j => if rgOk 0 j = true then some (.lst (rgl 0 j.toNat)) else none
  | _, _ => none
theorem rgl_RA {K : PySem.W.Frag} {β : Mu} {H : Hp} {i : Int} {n : Nat} : RA K β H ((List.range n).map fun k => V.int (i + (k : Nat))) (rgl i n) := by
  have h : ∀ l : List Nat, RA K β H (l.map fun k => V.int (i + (k : Nat))) (l.map fun k => D.int (i + (k : Nat))) := fun l => by
    induction l with
    | nil => exact .nil
    | cons x r ih => exact .cons (.int _) ih
  unfold rgl
  exact h _
theorem rg_fits {i j : Int} (h : rgOk i j = true) : RgOk i j := by
  unfold rgOk at h
  simp only [Bool.and_eq_true, decide_eq_true_eq] at h
  obtain ⟨⟨⟨⟨h1, h2⟩, h3⟩, h4⟩, h5⟩ := h
  exact ⟨h1, h2, h3, h4, by omega⟩
theorem ed_listRg2 {p p2 pos2 : Pos} (hc : X.calm = true) (g1 : Gl X "list") (m1 : X.mg "list" = none) (g2 : Gl X "range") (m2 : X.mg "range" = none) (ha : ED X P E a F) (hb : ED X P E b G)
    (na : starEach [a, b] X.env = (false, eval a X.env) :: starEach [b] X.env := by rfl) (nb : starEach [b] X.env = (false, eval b X.env) :: starEach [] X.env := by rfl) (hp : (backTo pos2 (starEach [b] X.env)).any (·.1) = false := by rfl)
    (nc : starEach [.Call (.Name "range" p2) [a, b] [] pos2] X.env = (false, eval (.Call (.Name "range" p2) [a, b] [] pos2) X.env) :: starEach [] X.env := by rfl) :
    ED X P E (.Call (.Name "list" p) [.Call (.Name "range" p2) [a, b] [] pos2] [] pos) (f2 cLstRg2 F G) := by
  refine pe_imp (pe_listRg hc g1 m1 (prg_2 g2 m2 ha hb na nb hp) nc) ?_
  rintro σ H Q ⟨β, δ, bx, ev, g, o⟩
  refine d_bind ev g o.x fun β1 bx1 x d H1 l1 g1 r1 o1 => ?_
  refine d_bind (ev.le l1) g1 o1 fun β2 bx2 y e H2 l2 g2 r2 o2 => ?_
  obtain ⟨z, hz, kz⟩ := OutX.lft' o2
  unfold cLstRg2 at hz
  split at hz
  · rename_i i j
    split at hz
    · rename_i hr
      cases hz
      exact ⟨i, j, r1.int_inv, r2.int_inv, rg_fits hr, fun q hq => kz β2 _ (.new hq) (g2.new hq) _ (.lst ⟨.inl upd_same, g2.ne hq⟩ rgl_RA)⟩
    · cases hz
  · cases hz
theorem ed_listRg1 {p p2 pos2 : Pos} (hc : X.calm = true) (g1 : Gl X "list") (m1 : X.mg "list" = none) (g2 : Gl X "range") (m2 : X.mg "range" = none) (ha : ED X P E a F)
    (na : starEach [a] X.env = (false, eval a X.env) :: starEach [] X.env := by rfl)
    (nc : starEach [.Call (.Name "range" p2) [a] [] pos2] X.env = (false, eval (.Call (.Name "range" p2) [a] [] pos2) X.env) :: starEach [] X.env := by rfl) :
    ED X P E (.Call (.Name "list" p) [.Call (.Name "range" p2) [a] [] pos2] [] pos) (f1 cLstRg1 F) := by
  refine pe_imp (pe_listRg hc g1 m1 (prg_1 g2 m2 ha na) nc) ?_
  rintro σ H Q ⟨β, δ, bx, ev, g, o⟩
  refine d_bind ev g o.x fun β1 bx1 x d H1 l1 g1 r1 o1 => ?_
  obtain ⟨z, hz, kz⟩ := OutX.lft' o1
  unfold cLstRg1 at hz
  split at hz
  · rename_i j
    split at hz
    · rename_i hr
      cases hz
      refine ⟨j, r1.int_inv, rg_fits hr, fun q hq => kz β1 _ (.new hq) (g1.new hq) _ (.lst ⟨.inl upd_same, g1.ne hq⟩ ?_)⟩
      unfold rgV
      rw [Int.sub_zero]
      exact rgl_RA
    · cases hz
  · cases hz
/-! ### a list, so many times -/
def cRep : Sto → D → D → Option D
  | st, .ref k, .int n => (match st[k]? with
    | some (.lst l) => if -(2 ^ 63) ≤ n ∧ n < 2 ^ 63 ∧ l.length * n.toNat ≤ 1000000 then some (.lst (List.replicate n.toNat l).flatten) else none
    | _ => none)
  | _, _, _ => none
theorem RA.reps {K : PySem.W.Frag} {β : Mu} {H : Hp} {vs : List V} {ds : List D} (r : RA K β H vs ds) : ∀ n : Nat, RA K β H (List.replicate n vs).flatten (List.replicate n ds).flatten
  | 0 => .nil
  | n + 1 => by
    rw [List.replicate_succ, List.replicate_succ, List.flatten_cons, List.flatten_cons]
    exact r.append (RA.reps r n)
theorem opd_rep : OpD X P rRep cRep := by
  intro β bx H x y d e z Q g rx ry h k
  unfold cRep at h
  split at h
  · rename_i kk n
    split at h
    · rename_i l hl
      split at h
      · rename_i hb
        cases h
        obtain ⟨a, xs, rfl, hk, hH, ra⟩ := rx.live g hl
        refine ⟨a, n, xs, rfl, ry.int_inv, hH, hb.1, hb.2.1, by rw [ra.length]; exact leM hb.2.2, fun p hp => k _ _ (.new hp) (g.new hp) (.lst ⟨.inl upd_same, g.ne hp⟩ ?_)⟩
        exact RA.le (.new hp) (ra.reps _)
      · cases h
    · cases h
  · cases h
theorem ed_rep (ha : ED X P E a F) (hb : ED X P E b G) : ED X P E (.BinOp a .Mult b pos) (f2 cRep F G) := ed_bin op_rep opd_rep ha hb
/-! ### the greatest, the least -/
def maxI (n : Int) (ns : List Int) : Int := ns.foldl max n
def minI (n : Int) (ns : List Int) : Int := ns.foldl min n
theorem maxI_le : ∀ (ns : List Int) (n y : Int), y ∈ n :: ns → y ≤ maxI n ns
  | [], n, y, h => by cases List.mem_singleton.mp h; exact Int.le_refl _
  | m :: r, n, y, h => by
    have e : maxI n (m :: r) = maxI (max n m) r := rfl
    rw [e]
    rcases List.mem_cons.mp h with rfl | h
    · exact Int.le_trans (by omega : y ≤ max y m) (maxI_le r _ _ List.mem_cons_self)
    · rcases List.mem_cons.mp h with rfl | h
      · exact Int.le_trans (by omega : y ≤ max n y) (maxI_le r _ _ List.mem_cons_self)
      · exact maxI_le r _ _ (List.mem_cons_of_mem _ h)
theorem maxI_mem : ∀ (ns : List Int) (n : Int), maxI n ns ∈ n :: ns
  | [], n => List.mem_cons_self
  | m :: r, n => by
    have e : maxI n (m :: r) = maxI (max n m) r := rfl
    rw [e]
    rcases List.mem_cons.mp (maxI_mem r (max n m)) with h | h
    · rw [h]
      by_cases q : n ≤ m
      · rw [show max n m = m by omega]; simp
      · rw [show max n m = n by omega]; simp
    · exact List.mem_cons_of_mem _ (List.mem_cons_of_mem _ h)
theorem minI_le : ∀ (ns : List Int) (n y : Int), y ∈ n :: ns → minI n ns ≤ y
  | [], n, y, h => by cases List.mem_singleton.mp h; exact Int.le_refl _
  | m :: r, n, y, h => by
    have e : minI n (m :: r) = minI (min n m) r := rfl
    rw [e]
    rcases List.mem_cons.mp h with rfl | h
    · exact Int.le_trans (minI_le r _ _ List.mem_cons_self) (by omega : min y m ≤ y)
    · rcases List.mem_cons.mp h with rfl | h
      · exact Int.le_trans (minI_le r _ _ List.mem_cons_self) (by omega : min n y ≤ y)
      · exact minI_le r _ _ (List.mem_cons_of_mem _ h)
theorem minI_mem : ∀ (ns : List Int) (n : Int), minI n ns ∈ n :: ns
  | [], n => List.mem_cons_self
  | m :: r, n => by
    have e : minI n (m :: r) = minI (min n m) r := rfl
    rw [e]
    rcases List.mem_cons.mp (minI_mem r (min n m)) with h | h
    · rw [h]
      by_cases q : n ≤ m
      · rw [show min n m = n by omega]; simp
      · rw [show min n m = m by omega]; simp
    · exact List.mem_cons_of_mem _ (List.mem_cons_of_mem _ h)
def cMaxL (st : Sto) : List D → Option D
  | [d] => ((vl st d).bind toInts).bind fun ns => match ns with
    | n :: r => some (.int (maxI n r))
    | [] => none
  | _ => none
def cMinL (st : Sto) : List D → Option D
  | [d] => ((vl st d).bind toInts).bind fun ns => match ns with
    | n :: r => some (.int (minI n r))
    | [] => none
  | _ => none
theorem cd_maxL : CallD X P (rMax X.K) cMaxL := by
  intro β bx H xs ds z Q g r h k
  unfold cMaxL at h
  split at h
  · rename_i d
    obtain ⟨v, rfl, r1⟩ := r.one
    cases hn : (vl bx d).bind toInts with
    | none => rw [hn] at h; cases h
    | some ns =>
      rw [hn] at h
      match ns, hn, h with
      | n :: t, hn, h =>
        cases h
        obtain ⟨a, rfl, s⟩ := cd_ints g r1 hn
        refine ⟨a, n :: t, rfl, s, Nat.succ_pos _, fun m hm hle => ?_⟩
        have e : m = maxI n t := Int.le_antisymm (maxI_le t n m hm) (hle _ (maxI_mem t n))
        rw [e]
        exact k _ H .refl g (.int _)
  · cases h
theorem cd_minL : CallD X P (rMin X.K) cMinL := by
  intro β bx H xs ds z Q g r h k
  unfold cMinL at h
  split at h
  · rename_i d
    obtain ⟨v, rfl, r1⟩ := r.one
    cases hn : (vl bx d).bind toInts with
    | none => rw [hn] at h; cases h
    | some ns =>
      rw [hn] at h
      match ns, hn, h with
      | n :: t, hn, h =>
        cases h
        obtain ⟨a, rfl, s⟩ := cd_ints g r1 hn
        refine ⟨a, n :: t, rfl, s, Nat.succ_pos _, fun m hm hle => ?_⟩
        have e : m = minI n t := Int.le_antisymm (hle _ (minI_mem t n)) (minI_le t n m hm)
        rw [e]
        exact k _ H .refl g (.int _)
  · cases h
end
end Ms

end
section
set_option Elab.async false
set_option linter.all false
set_option maxRecDepth 100000
set_option maxHeartbeats 4000000
/-! try: return ("told", repr(ask())) except Refused as fault: .. -/
namespace Ms
open PySem PySem.Spec PyProof.Rows L2
def hResR : Res D → Res D
  | .ok d bx => if showOk d = true then .ok (.tup [.str "told", .str d.py.shown]) bx else .bad
  | .err c d bx => if c = "Refused" then (if showOk d = true then .ok (.tup [.str "refused", .str d.py.shown, .bl true]) bx else .bad) else .bad
  | .bad => .bad
def fHeardR (F : Fn D) : Fn D := fun δ bx => hResR (F δ bx)
def TTHeardR (K : PySem.W.Frag) (CR : Addr) : (XK → Hp → VK → Prop) → Hp → VK → Prop := fun tl H Q =>
  tl (EHeard K CR Q) H fun v H' => rRepr K [v] H' fun w H2 => [V.str "told", w].length ≤ sizeLine ∧ ∀ p, H2 p = none → Q (.ref p) (upd H2 p (.tup [.str "told", w]))
theorem nd_ask : (["ask", "fault"] : List Str).Nodup := by decide +kernel
theorem heard_givesR {X : Cx} {x q qn : Str} {sg : Scope} {g CR B fI : Addr} {cdg : Value} {k : Nat} {j1 j2 k1 k2 : Nat} {p0 p1 p2 p3 p4 p5 p6 p7 p8 p9 q1 q2 q3 q4 q5 q6 q7 q8 q9 r1 r2 : Pos}
    (hga : X.A.guards = some []) (hr : Room (k + 2) X.A) (T : PySem.RefX.LowTxt "Refused" qn X.K X.mg CR fI) (hne : CR ≠ B) (hk : PySem.W.kitOne X.K (.ref CR) (.ref B) = some true) (gB : X.mg "WreckError" = some (.ref B)) (gr : X.mg "repr" = none) (gi : X.mg "isinstance" = none)
    (s1 : sg.names.lookup ("Refused" : Str) = some .globalImplicit) (s2 : sg.names.lookup ("repr" : Str) = some .globalImplicit) (s3 : sg.names.lookup ("isinstance" : Str) = some .globalImplicit) (s4 : sg.names.lookup ("WreckError" : Str) = some .globalImplicit) (s5 : sg.names.lookup ("fault" : Str) = some .local) :
    LamX.GivesTo X ["ask", "fault"] x sg g cdg [.Try [.Return (some (.Tuple [.Constant (.str "told") j1 p0, .Call (.Name "repr" r1) [.Call (.Name "ask" p1) [] [] p2] [] r2] k1 p3)) p4]
      [.ExceptHandler (some (.Name "Refused" p5)) (some "fault") [.Return (some (.Tuple [.Constant (.str "refused") j2 p6, .Call (.Name "repr" p7) [.Attribute (.Name "fault" p8) "at" p9] [] q1, .Call (.Name "isinstance" q2) [.Name "fault" q3, .Name "WreckError" q4] [] q5] k2 q6)) q7] q8] [] [] q9] "ask" q (TTHeardR X.K CR) := by
  intro f c' s H Q tl act hc h
  have hga' : (X.A.deeper (envOfC x sg s.heap.objs.size g cdg)).guards = some [] := hga
  have hr' : Room (k + 1) (X.A.deeper (envOfC x sg s.heap.objs.size g cdg)) := hr.deeper _
  refine ⟨_, pss_one (ps_try_as (X := (cxOf C8.CX0 X.prog X.w X.K X.mg X.base ["ask", "fault"] x sg g cdg X.A X.stack s H C8.E0).nox) (i := 1) (c := .ref CR) (Wout := fun _ _ _ _ => False)
      (tb := fun W D σ H => ∃ Ech : XK, (∀ cls d σ' H', Ech cls d H' → σ'.length = 2 → W cls d σ' H') ∧ σ[0]? = some (some (.ref f)) ∧ H c' = some (LamX.CodeO c' q) ∧ tl Ech H fun v H' => rRepr X.K [v] H' fun w H2 => [V.str "told", w].length ≤ sizeLine ∧ ∀ p, H2 p = none → D.rt (.ref p) (upd H2 p (.tup [.str "told", w])))
      rfl rfl nd_ask rfl s5 ⟨s1, by decide, .inl T.gC⟩ LamX.takes0 (fun W pn xe tk _ => ?_) (fun a oe cls d pn hz hf => pss_one (ps_ret (pe_tup (pa_cons pe_str (pa_cons
        (pe_callB (show CallR (((cxOf C8.CX0 X.prog X.w X.K X.mg X.base ["ask", "fault"] x sg g cdg X.A X.stack s H C8.E0).nox).suite a ((a, oe) :: pn)) (.builtin "repr") (rRepr X.K) from call_repr (X := ((cxOf C8.CX0 X.prog X.w X.K X.mg X.base ["ask", "fault"] x sg g cdg X.A X.stack s H C8.E0).nox).suite a ((a, oe) :: pn)) hga' hr'.units) (by exact s2) (by exact gr) b_repr (pa_cons (pe_byLow (X := (cxOf C8.CX0 X.prog X.w X.K X.mg X.base ["ask", "fault"] x sg g cdg X.A X.stack s H C8.E0).nox) T hz hf (pv 1 rfl (.inl s5))) pa_nil))
        (pa_cons (pe_callB (call_isX (X := (cxOf C8.CX0 X.prog X.w X.K X.mg X.base ["ask", "fault"] x sg g cdg X.A X.stack s H C8.E0).nox) hz hf hne hk) (by exact s3) (by exact gi) b_isinstance (pa_cons (pv 1 rfl (.inl s5)) (pa_cons (pe_glob (v := .ref B) (by exact s4) (by exact gB) rfl) pa_nil))) pa_nil))))))), ?_⟩
  · refine ⟨fun pins s' σ H' D I h' => ?_⟩
    obtain ⟨Ech, hW, h1, h2, h3⟩ := h'
    have hp := act _ pn xe Ech p1 p2 (takes_len tk) fun cls d σ' H' he hl => hW cls d σ' H' he hl
    have hrp := pe_callB (show CallR (((cxOf C8.CX0 X.prog X.w X.K X.mg X.base ["ask", "fault"] x sg g cdg X.A X.stack s H C8.E0).nox).tr pn xe) (.builtin "repr") (rRepr X.K) from call_repr (X := ((cxOf C8.CX0 X.prog X.w X.K X.mg X.base ["ask", "fault"] x sg g cdg X.A X.stack s H C8.E0).nox).tr pn xe) hga' hr'.units) (p := r1) (pos := r2) (by exact s2) (by exact gr) b_repr (pa_cons hp pa_nil)
    have hq := pss_one (ps_ret (pos := p4) (pe_tup (x1 := k1) (pos := p3) (pa_cons (pe_str (x := "told") (j := j1) (pos := p0)) (pa_cons hrp pa_nil))))
    exact hq.run pins s' σ H' D I ⟨h1, h2, h3⟩
  · refine ⟨EHeard X.K CR Q, fun cls d σ' H' ⟨e1, dd, v, pd, e2, e3, e4, e5, e6, e7, e8, e9⟩ hl => ⟨true, ?_, fun _ a ha => ?_, fun z => nomatch z⟩, rfl, hc, h⟩
    · rw [e1]
      exact T.te
    · rw [e1]
      have h1 : (σ'.set 1 (some (V.ref a)))[1]? = some (some (V.ref a)) := List.getElem?_set_self (by omega)
      refine ⟨.ref a, h1, rfl, rfl, dd, v, e2, e3, v, pd, rfl, e4, e5, e6, e7, e8, .ref a, h1, rfl, rfl, ⟨dd, _, e2, e3⟩, le1000 (by show 3 ≤ 1000; omega), e9⟩
theorem hresR_of {K : PySem.W.Frag} {P : Pm} {E : XK} {β : Mu} {H : Hp} {r : Res D} {Q : VK} (h : Out K P β H (hResR r) Q E) :
    Out K P β H r (fun v H' => rRepr K [v] H' fun w H2 => [V.str "told", w].length ≤ sizeLine ∧ ∀ p, H2 p = none → Q (.ref p) (upd H2 p (.tup [.str "told", w]))) (EHeard K (P.CR "Refused") Q) := by
  cases r with
  | ok d bx' =>
    have o' : Out K P β H (if showOk d = true then .ok (.tup [.str "told", .str d.py.shown]) bx' else .bad) Q E := h
    split at o'
    · rename_i hs
      unfold showOk at hs
      simp only [Bool.and_eq_true, decide_eq_true_eq] at hs
      exact fun β' v H' l' g' r => ⟨v, d.py, rfl, r.dp hs.1.1.1, hs.1.1.2, d.noDict, hs.1.2, hs.2, le1000 (by show 2 ≤ 1000; omega), fun p hp => o' _ _ _ (l'.trans (.new hp)) (g'.new hp) (.tup ⟨.inl upd_same, g'.ne hp⟩ (.cons (.str _) (.cons (.str _) .nil)))⟩
    · exact o'.elim
  | err c d bx' =>
    have o' : Out K P β H (if c = "Refused" then (if showOk d = true then .ok (.tup [.str "refused", .str d.py.shown, .bl true]) bx' else .bad) else .bad) Q E := h
    split at o'
    · rename_i hcn
      subst hcn
      split at o'
      · rename_i hs
        unfold showOk at hs
        simp only [Bool.and_eq_true, decide_eq_true_eq] at hs
        exact fun β' a v H' l' g' hx r => ⟨rfl, a, v, d.py, rfl, hx, r.dp hs.1.1.1, hs.1.1.2, d.noDict, hs.1.2, hs.2, fun p hp => o' _ _ _ (l'.trans (.new hp)) (g'.new hp) (.tup ⟨.inl upd_same, g'.ne hp⟩ (.cons (.str _) (.cons (.str _) (.cons (.bl _) .nil))))⟩
      · exact o'.elim
    · exact o'.elim
  | bad => exact h.elim
end Ms

end
section
set_option Elab.async false
set_option linter.all false
set_option maxRecDepth 100000
set_option maxHeartbeats 4000000
/-! Truth of values; how many members a set has. -/
namespace Ms
open PySem PySem.Spec PyProof.Rows L2
section
variable {X : Cx} {P : Pm} {E : XK} {F G : Fn D} {A : Fn (List D)} {a b e : Expr} {pos : Pos}
def cTru (st : Sto) (d : D) : Option Bool := match d with
  | .non => some false
  | .bl b => some b
  | .int i => some (i != 0)
  | d => (vs st d).map fun l => !l.isEmpty
def fTru (F : Fn D) : Fn Bool := bnd F fun d => fun δ bx => lft (cTru bx d) δ bx
theorem RA.isEmpty {K : PySem.W.Frag} {β : Mu} {H : Hp} {vs : List V} {ds : List D} (r : RA K β H vs ds) : vs.isEmpty = ds.isEmpty := by
  cases r <;> rfl
theorem tru_of {K : PySem.W.Frag} {T : Tb} {β : Mu} {st : Sto} {H : Hp} {v : V} {d : D} {c : Bool} (g : Good K T β st H) (r : R K β H v d) (h : cTru st d = some c) : TruV K v H c := by
  have key : ∀ l, vs st d = some l → (some (!l.isEmpty) = some c) → TruV K v H c := fun l hl e => by
    obtain ⟨p, xs, rfl, s, ra⟩ := r.vs g hl
    have e' : c = !xs.isEmpty := by rw [ra.isEmpty]; exact (Option.some.inj e).symm
    rcases s with s | s
    · exact .inl ⟨xs, s, e'⟩
    · exact .inr (.inl ⟨xs, s, e'⟩)
  have key2 : (vs st d).map (fun l => !l.isEmpty) = some c → TruV K v H c := fun e => by
    cases hl : vs st d with
    | none => rw [hl] at e; cases e
    | some l => rw [hl] at e; exact key l hl e
  cases d with
  | non =>
    cases h
    cases r
    rfl
  | bl b =>
    cases h
    rw [r.bl_inv]
    rfl
  | int i =>
    cases h
    rw [r.int_inv]
    rfl
  | str _ => exact key2 h
  | lst _ => exact key2 h
  | tup _ => exact key2 h
  | ref _ => exact key2 h
  | fn _ => exact key2 h
  | scr _ => exact key2 h
theorem et_tru (h : ED X P E e F) (he : ∀ whole, isTrue e X.env whole = (do let v ← whole; standAt e.pos; holding [v] (truthy v)) := by intro _; rfl) : ET X P E e (fTru F) := by
  refine pt_imp (pt_truth h he) ?_
  rintro σ H Q ⟨β, δ, bx, ev, g, o⟩
  refine att_bind (α := Unit) ev g o fun β1 bx1 x d H1 l1 g1 r1 o1 => ?_
  cases hc : cTru bx1 d with
  | none =>
    rw [hc] at o1
    exact (show False from o1).elim
  | some c =>
    rw [hc] at o1
    exact ⟨c, tru_of g1 r1 hc, o1 _ H1 .refl g1⟩
/-! ### len(set(..)) -/
/-- how many unlike ones there are -/
def unl (ns : List Int) : Nat := (firstMet (fun i => ns.getD i 0) ns.length).length
theorem met_mem (val : Nat → Int) (i : Nat) (k : Int) : k ∈ firstMet val i ↔ ∃ j, j < i ∧ val j = k := by
  have h := firstMet_any val i k
  have h1 : (firstMet val i).any (· == k) = true ↔ k ∈ firstMet val i := by
    rw [List.any_eq_true]
    exact ⟨fun ⟨x, hx, e⟩ => by rw [← beq_iff_eq.mp e]; exact hx, fun hk => ⟨k, hk, beq_self_eq_true k⟩⟩
  rw [← h1, h, List.any_eq_true]
  constructor
  · rintro ⟨x, hx, e⟩
    obtain ⟨j, hj, rfl⟩ := List.mem_map.mp hx
    exact ⟨j, List.mem_range.mp hj, beq_iff_eq.mp e⟩
  · rintro ⟨j, hj, rfl⟩
    exact ⟨_, List.mem_map.mpr ⟨j, List.mem_range.mpr hj, rfl⟩, beq_self_eq_true _⟩
theorem met_nodup (val : Nat → Int) : ∀ i, (firstMet val i).Nodup
  | 0 => List.nodup_nil
  | i + 1 => by
    rw [firstMet_succ]
    unfold step_dedup
    have ih := met_nodup val i
    split
    · exact ih
    · rename_i hn
      rw [List.nodup_append]
      refine ⟨ih, by simp, fun x hx y hy => ?_⟩
      cases List.mem_singleton.mp hy
      intro z
      subst z
      exact hn (List.any_eq_true.mpr ⟨_, hx, beq_self_eq_true _⟩)
theorem unl_mem {ns : List Int} {k : Int} : k ∈ firstMet (fun i => ns.getD i 0) ns.length ↔ k ∈ ns := by
  rw [met_mem]
  constructor
  · rintro ⟨j, hj, rfl⟩
    rw [List.getD_eq_getElem?_getD, List.getElem?_eq_getElem hj]
    exact List.getElem_mem hj
  · intro h
    obtain ⟨j, hj, rfl⟩ := List.mem_iff_getElem.mp h
    exact ⟨j, hj, by simp [List.getD_eq_getElem?_getD, List.getElem?_eq_getElem hj]⟩
theorem unl_eq {ns ks : List Int} (hn : ks.Nodup) (h : ∀ k, k ∈ ks ↔ k ∈ ns) : ks.length = unl ns := by
  have p : ks.Perm (firstMet (fun i => ns.getD i 0) ns.length) := (List.perm_ext_iff_of_nodup hn (met_nodup _ _)).mpr fun k => by rw [h, unl_mem]
  exact p.length_eq
/-- len(set(a)), a being a list or a tuple of ints -/
theorem pe_lenSet {ta : TE} {p p2 q : Pos} (hg : Gl X "len") (hm : X.mg "len" = none) (hg2 : Gl X "set") (hm2 : X.mg "set" = none) (ha : PE X a ta) (hc : X.calm = true := by rfl)
    (na : starEach [a] X.env = (false, eval a X.env) :: starEach [] X.env := by rfl) :
    PE X (.Call (.Name "len" p) [.Call (.Name "set" p2) [a] [] q] [] pos) (fun σ H Q => ta σ H fun x H1 => ∃ (l : Addr) (ns : List Int), x = .ref l ∧ (SqL X.K H1 l (ns.map V.int) ∨ SqT X.K H1 l (ns.map V.int)) ∧ ns.length ≤ 4000 ∧ Q (.int (unl ns : Nat)) H1) := by
  refine ⟨fun pins s σ H Q I h => ?_⟩
  refine Call_ (ld_blt I hg hm boot_len (PyProof.Rows.callWith_builtin1 (PyProof.Rows.args_cons ?_ rfl) rfl rfl))
  refine Call_ (ld_blt I hg2 hm2 boot_set (PyProof.Rows.callWith_type1 (PyProof.Rows.args_cons (thn (ha.run pins s σ H _ I h) fun v s1 hu => PyProof.Rows.args_nil ?_) na) na rfl))
  obtain ⟨x, H1, I1, r1, l, ns, rfl, hq, hl, q1⟩ := hu
  cases r1
  rcases hq with hq | hq
  · obtain ⟨its, r, pl, hz⟩ := I1.list hq
    have size : its.toArray.size = ns.length := by rw [List.size_toArray, ← r.length, List.length_map]
    refine call_set_list (ns := ns) (I1.ok.hd hc) pl.isList (by simpa using r.ints) (by rw [size]; unfold scanBound; omega) fun h' tk st_ kp => PyProof.Rows.args_nil ?_
    rw [size] at st_
    obtain ⟨ob, es, ep, t, ho, hex, hd, _, _, _, hf, hn⟩ := st_
    have lim := firstMet_length_le (fun i => ns.getD i 0) ns.length
    have I2 : Inv X pins σ H1 { s1 with heap := h', toks := tk } := I1.kept fun b o e => kp b o (Heap.lt_size e) e
    refine call_len_set ho hex hd hf (by rw [hn]; omega) ⟨.int (unl ns : Nat), H1, I2.tok _, ⟨_, by rw [hn]; rfl⟩, q1⟩
  · obtain ⟨its, r, pl, hz⟩ := I1.tuple hq
    refine call_set_tupI ns (I1.ok.hd hc) pl (by simpa using r.ints) (by unfold scanBound; omega) fun h' tk c st_ le kp => PyProof.Rows.args_nil ?_
    obtain ⟨ob, es, ep, t, ho, hex, hd, hg_, nd, hm_, hb, hf, hn, _, _⟩ := st_
    have I2 : Inv X pins σ H1 { s1 with heap := h', toks := tk } := I1.kept kp
    have e : es.size = unl ns := by
      have := unl_eq (ns := ns) nd fun k => by rw [← hm_ k]; exact decide_eq_true_iff
      simpa using this
    refine call_len_set ho hex hd hf (by omega) ⟨.int (unl ns : Nat), H1, I2.tok _, ⟨_, by rw [e]⟩, q1⟩
def cLenSet (st : Sto) (d : D) : Option D := ((vs st d).bind toInts).bind fun ns => if ns.length ≤ 4000 then some (.int (unl ns : Nat)) else none
theorem ed_lenSet {p p2 q : Pos} (hg : Gl X "len") (hm : X.mg "len" = none) (hg2 : Gl X "set") (hm2 : X.mg "set" = none) (ha : ED X P E a F) (hc : X.calm = true := by rfl)
    (na : starEach [a] X.env = (false, eval a X.env) :: starEach [] X.env := by rfl) : ED X P E (.Call (.Name "len" p) [.Call (.Name "set" p2) [a] [] q] [] pos) (f1 cLenSet F) := by
  refine pe_imp (pe_lenSet hg hm hg2 hm2 ha hc na) ?_
  rintro σ H Q ⟨β, δ, bx, ev, g, o⟩
  refine d_bind ev g o.x fun β1 bx1 x d H1 l1 g1 r1 o1 => ?_
  obtain ⟨z, hz, kz⟩ := OutX.lft g1 o1
  unfold cLenSet at hz
  cases hl : vs bx1 d with
  | none => rw [hl] at hz; cases hz
  | some l =>
    rw [hl] at hz
    cases hn : toInts l with
    | none => simp only [Option.bind_some, hn] at hz; cases hz
    | some ns =>
      simp only [Option.bind_some, hn] at hz
      split at hz
      · rename_i hle
        cases hz
        have e := toInts_inv hn
        subst e
        obtain ⟨a, xs, rfl, s, ra⟩ := r1.vs g1 hl
        rw [ra.ints_inv] at s
        exact ⟨a, ns, rfl, s, hle, kz _ (.int _)⟩
      · cases hz
end
end Ms

end
section
set_option Elab.async false
set_option linter.all false
set_option maxRecDepth 100000
set_option maxHeartbeats 4000000
/-! A list comprehension whose block may call the frame's own lambdas: within it the frame stands as ever. -/
namespace Ms
open PySem PySem.Spec PyProof.Rows L2
/-- wherever the block Y stands, the frame X stands too -/
def OutI (X Y : Cx) (pins : List (Addr × Obj)) (σ : L2.St) : Prop := ∀ pn' σ' H' s', Inv Y pn' σ' H' s' → Inv X pins σ H' s'
/-- the environment of a block that starts at t -/
abbrev bEnv (X : Cx) (scope : Scope) (t : Shared) : Env := compEnvC scope (cellsFrom (t.heap.objs.size + 1) scope.names (cloFrom X.env.cells scope.names [])) t.heap.objs.size X.env
section
variable {X : Cx} {pins : List (Addr × Obj)} {σ : L2.St} {H : Hp} {s0 : Shared}
theorem outI_of {scope : Scope} {fp : List Addr} {t : Shared} {cenv : Env} (I : Inv X pins σ H t) (f : ∀ b ∈ fp, FpOk X pins H b) : OutI X (X.blk t H scope cenv fp) pins σ := fun _ _ _ _ J =>
  Inv.call' (ch := fp) I J.os J.base J.hok J.bare fun b hb => let z := (f b hb).2.2.2; ⟨z.1, (f b hb).2.1, z.2.1, z.2.2⟩
theorem lcO_core {Q : VK} {elt tg iter : Expr} {ifs : List Expr} {scope : Scope} {own : List (Str × Nat)} {pos pos' : Pos} {wi : TI} {g : TG} {tt : TT} {te : TE} {use : Option (Value → Sem Unit)} {Qf : Value → Shared → Prop}
    (hc : X.calm = true) (hN : X.N.Nodup) (I : Inv X pins σ H s0) (hi : PI X tg iter wi) (ok : BlkOk X.N X.env.scope scope own)
    (hb : ∀ (t : Shared) (H' : Hp) (Cc : Addr) (cl : List (Str × Addr)) (fp : List Addr), OutI X (blkX X scope t H' Cc cl fp) pins σ → PG (blkX X scope t H' Cc cl fp) tg g ∧ PTs (blkX X scope t H' Cc cl fp) ifs tt ∧ PE (blkX X scope t H' Cc cl fp) elt te)
    (hs : ∀ x, foldedSetIterable iter X.env x = pure x) (h : tLc wi g tt te (own.map (·.2)) σ H Q)
    (back : ∀ D C s' m H', Inv X pins σ H' s' → Q (.ref D) H' → s'.heap.Ns C m → FpOk X pins H' C → compPost (model X.prog X.w) X.A X.xe use Qf (.ref D) C (.ok .next) s') :
    wpAny (model X.prog X.w) X.A (comprehension (.ListComp elt [⟨tg, iter, ifs, 0⟩] scope pos) scope X.env pos' (newList []) false (eval iter X.env) use) Qf X.xe s0 := by
  have fr : ∀ y ∈ scope.names, y.2 = .free → ∃ c, X.env.cells.lookup y.1 = some c := fun y hy e => (ok.free y hy e).elim (fun k => I.ok.has _ (.inl k)) fun k => I.ok.has _ (.inr k)
  refine wpAny_comprehension_free (use := use) rfl hs (closure_ok fr) ok.kind (fun y hy e => (ok.uniq y hy).trans (by rw [e])) (thn (hi.run pins s0 σ H _ I h) fun _ _ hx => thn hx ?_)
  rintro _ sa ⟨it, fp, tn, J, Ha, rfl, Ia, T, sta, fpa, q⟩
  obtain ⟨D, hD⟩ : ∃ D, D = sa.heap.objs.size := ⟨_, rfl⟩
  have nD : Ha D = none := Ia.hok.fresh (Nat.le_of_eq hD.symm)
  obtain ⟨W, ⟨m0, w0⟩, turn⟩ := q D nD
  obtain ⟨Hb, hHb⟩ : ∃ Hb, Hb = upd Ha D (.lst []) := ⟨_, rfl⟩
  obtain ⟨sb, hsb⟩ : ∃ sb : Shared, sb = { sa with heap := sa.heap.push { cls := .type "list", data := .seq ([] : List Value).toArray } } := ⟨_, rfl⟩
  have kb : ∀ b o, sa.heap.get? b = some o → sb.heap.get? b = some o := fun b o e => by rw [hsb]; exact Heap.get?_push_of_some _ e
  have Ib : Inv X pins σ Hb sb := by
    rw [hsb, hHb]
    exact Ia.laid (t' := sa.toks) (fun b o e => Heap.get?_push_of_some _ e) (Nat.le_of_eq hD.symm) ⟨Nat.zero_le _, [], 0, .nil, by rw [hD]; exact Heap.get?_push_size _ rfl⟩
  have fpb : ∀ b ∈ fp, FpOk X pins Hb b ∧ b < sb.heap.objs.size := fun b m => by
    obtain ⟨o, e, _⟩ := T.obj _ _ sta b m
    have lt := Heap.lt_size e
    refine ⟨⟨?_, (fpa b m).2⟩, Heap.lt_size (kb b o e)⟩
    rw [hHb, upd_ne (by rw [hD]; exact Nat.ne_of_lt lt)]
    exact (fpa b m).1
  rw [← hHb] at w0
  have stb : tn 0 sb.heap := T.keep _ _ _ sta fun b _ o e => kb b o e
  have Ic : Inv (X.blk sb Hb scope (bEnv X scope sb) fp) [] (wipe σ (own.map (·.2))) Hb { sb with heap := pushCells (sb.heap.push { cls := .type "dict", data := .dict #[] }) scope.names } := block_start Ib ok hN fpb
  have out : OutI X (X.blk sb Hb scope (bEnv X scope sb) fp) pins σ := outI_of Ib fun b m => (fpb b m).1
  obtain ⟨pg, pt, pe⟩ : PG (X.blk sb Hb scope (bEnv X scope sb) fp) tg g ∧ PTs (X.blk sb Hb scope (bEnv X scope sb) fp) ifs tt ∧ PE (X.blk sb Hb scope (bEnv X scope sb) fp) elt te := hb sb Hb _ _ fp out
  obtain ⟨ce, hce⟩ : ∃ ce, ce = bEnv X scope sb := ⟨_, rfl⟩
  rw [← hce] at Ic out pg pt pe
  have cL : ce.locals = sb.heap.objs.size := by rw [hce]; rfl
  obtain ⟨s1, hs1⟩ : ∃ s1 : Shared, s1 = { sb with heap := pushCells (sb.heap.push { cls := .type "dict", data := .dict #[] }) scope.names } := ⟨_, rfl⟩
  rw [← hs1] at Ic
  have st1 : tn 0 s1.heap := T.keep _ _ _ stb fun b _ o e => by rw [hs1]; exact pushCells_keeps _ _ _ _ (Heap.get?_push_of_some _ e)
  have fpY : ∀ {σ' : L2.St} {H' : Hp} {s' : Shared}, Inv (X.blk sb Hb scope ce fp) [] σ' H' s' → (∀ b ∈ fp, H' b = none) → ∀ b ∈ fp, FpOk (X.blk sb Hb scope ce fp) [] H' b := fun {σ' H' s'} J nn b m =>
    ⟨nn b m, (J.ok.exf b m).1, J.ok.exfs b m, .inl m, fun x c e => (J.ok.exf b m).2 x c e, fun p hp => by cases hp⟩
  have loop : codeAny (model X.prog X.w) X.A (.compLoop (.ListComp elt [⟨tg, iter, ifs, 0⟩] scope pos) 0 (.ref it) (.ref D) ce) (compPost (model X.prog X.w) X.A X.xe use Qf (.ref D) sb.heap.objs.size) s1 := by
    refine compLoop_any (fun n s' => ∃ i H', Inv (X.blk sb Hb scope ce fp) [] (wipe σ (own.map (·.2))) H' s' ∧ tn i s'.heap ∧ (∀ b ∈ fp, H' b = none) ∧ W i n H') (fun n s2 hs2 => ?_) m0 ⟨0, Hb, Ic, st1, fun b m => (fpb b m).1.1, w0⟩
    obtain ⟨i, H2, I2, st2, n2, w2⟩ := hs2
    rcases turn i n H2 w2 with ⟨stop, qq⟩ | ⟨go, Nx, hNx, step⟩
    · refine thnF (T.done (X.blk sb Hb scope ce fp) rfl rfl rfl hc i [] s2 _ H2 (fun _ _ => False) I2 (fpY I2 n2) st2 stop) fun r s3 ⟨hr, I3⟩ => ?_
      rw [hr]
      have nC : H2 sb.heap.objs.size = none := by
        have z : H2 ce.locals = none := I3.free
        rwa [cL] at z
      obtain ⟨m, hn, _⟩ := I3.loc
      have hn : s3.heap.Ns ce.locals m := hn
      rw [cL] at hn
      exact back D sb.heap.objs.size s3 m H2 (out _ _ _ _ I3) qq hn (Ib.fpOk (Nat.le_refl _) nC)
    · refine thnF (T.item (X.blk sb Hb scope ce fp) rfl rfl rfl hc i [] s2 _ H2 (fun _ _ => False) I2 (fpY I2 n2) st2 go) fun r s3 ⟨u, hr, h3⟩ => ?_
      rw [hr]
      refine thnF h3 fun _ s4 ⟨x, H4, I4, r4, y4, st4, n4⟩ => ?_
      refine thnF (pg.run _ s4 _ H4 x u _ (I4.pinned (fpY I4 n4) (T.obj _ _ st4)) r4 (step x H4 y4)) fun _ s5 ⟨σ5, H5, I5, hw, q5⟩ => ?_
      refine thnF (pt.run _ s5 σ5 H5 _ I5 q5) fun b s6 ⟨H6, I6, q6⟩ => ?_
      have ends : ∀ {s' : Shared} {H' : Hp}, Inv (X.blk sb Hb scope ce fp) ([] ++ pinsAt fp s4.heap) σ5 H' s' → Nx H' → ∃ m, m < n ∧ ∃ i H', Inv (X.blk sb Hb scope ce fp) [] (wipe σ (own.map (·.2))) H' s' ∧ tn i s'.heap ∧ (∀ b ∈ fp, H' b = none) ∧ W i m H' := fun {s' H'} J nx => by
        obtain ⟨m', hm, w'⟩ := hNx H' nx
        have pin : ∀ b ∈ fp, ∀ o, s4.heap.get? b = some o → s'.heap.get? b = some o ∧ H' b = none := fun b m o e => by
          obtain ⟨z1, z2, _⟩ := J.pin (b, o) (List.mem_append_right _ (List.mem_append_right _ (mem_pinsAt m e)))
          exact ⟨z1, z2⟩
        refine ⟨m', hm, i + 1, H', (J.unpinned (pins := [])).weak (by rw [← hw, wipe_length]) (fun j v e => (wipe_some (by rw [hw]; exact e)).1), T.keep _ _ _ st4 fun b m o e => (pin b m o e).1, fun b m => ?_, w'⟩
        obtain ⟨o, e, _⟩ := T.obj _ _ st4 b m
        exact (pin b m o e).2
      cases b with
      | false => exact ends I6 q6
      | true => exact thnF (pe.run _ s6 σ5 H6 _ I6 q6) fun z s7 ⟨yv, H7, I7, r7, acc, hD7, hz7, nx⟩ => app_ok (X := X.blk sb Hb scope ce fp) I7 hD7 hz7 r7 fun s8 I8 => ends I8 nx
  refine wpAny_newObj_type (newEnv_comp ?_) (Nat.zero_le _)
  have fin := codeAny_compStart_list loop (T.self X.A 0 _ _ _ st1 loop)
  subst hce hs1 hsb hHb hD
  exact fin
/-- as a value -/
theorem pe_lcO {elt tg iter : Expr} {ifs : List Expr} {scope : Scope} {own : List (Str × Nat)} {pos : Pos} {wi : TI} {g : TG} {tt : L2.St → TT} {te : TE} (hc : X.calm = true) (hN : X.N.Nodup) (hi : PI X tg iter wi) (ok : BlkOk X.N X.env.scope scope own)
    (hb : ∀ (pins : List (Addr × Obj)) (σ : L2.St) (t : Shared) (H' : Hp) (Cc : Addr) (cl : List (Str × Addr)) (fp : List Addr), OutI X (blkX X scope t H' Cc cl fp) pins σ → PG (blkX X scope t H' Cc cl fp) tg g ∧ PTs (blkX X scope t H' Cc cl fp) ifs (tt σ) ∧ PE (blkX X scope t H' Cc cl fp) elt te)
    (hs : ∀ x, foldedSetIterable iter X.env x = pure x) : PE X (.ListComp elt [⟨tg, iter, ifs, 0⟩] scope pos) (fun σ H Q => tLc wi g (tt σ) te (own.map (·.2)) σ H Q) := by
  refine ⟨fun pins s σ H Q I h => ?_⟩
  rw [eval_ListComp]
  refine lcO_core hc hN I hi ok (hb pins σ) hs h fun D C s' m H' I' q hn ⟨f0, f1, f2, f3, f4, f5⟩ => ⟨m, hn, fun h'' k => ⟨.ref D, H', I'.turned (t' := s'.toks) (fun b o n e => (k.2 b n).trans e) f0 f1 f3 f4 f5, rfl, q⟩⟩
end
end Ms

end
section
set_option Elab.async false
set_option linter.all false
set_option maxRecDepth 100000
set_option maxHeartbeats 4000000
/-! Lambdas heard: a def that calls what it is given and tells what came of it, whatever it tells; also within a comprehension. -/
namespace Ms
open PySem PySem.Spec PyProof.Rows L2
def fHeardG (hR : Res D → Res D) (F : Fn D) : Fn D := fun δ bx => hR (F δ bx)
def fHeardVG (hR : Res D → Res D) (F : Fn D) (B : Nat → Fn D) : Fn D := bnd F fun d => fun δ bx => match d with
  | .ref k => (match bx[k]? with
    | some (.lam n) => hR (B n δ bx)
    | _ => .bad)
  | _ => .bad
/-- the same, amid a comprehension whose own names stand in the slots is -/
def fHeardVB (hR : Res D → Res D) (is : List Nat) (F : Fn D) (B : Nat → Fn D) : Fn D := bnd F fun d => fun δ bx => match d with
  | .ref k => (match bx[k]? with
    | some (.lam n) => hR (B n (unset is δ) bx)
    | _ => .bad)
  | _ => .bad
theorem Ev.unwipe {K : PySem.W.Frag} {β : Mu} {H : Hp} {σ : L2.St} {δ : List (Option D)} {is : List Nat} (e : Ev K β H (wipe σ is) δ) : Ev K β H σ δ := ⟨by rw [← e.len, wipe_length], fun i d h => by
  obtain ⟨v, h1, h2⟩ := e.at_ i d h
  exact ⟨v, (wipe_some h1).1, h2⟩⟩
section
variable {K : PySem.W.Frag} {P : Pm} {E : XK} {EK : VK → XK} {VQ : VK → VK} {TT : (XK → Hp → VK → Prop) → Hp → VK → Prop} {hR : Res D → Res D}
theorem heard_ofG (hTT : ∀ tl H Q, TT tl H Q = tl (EK Q) H (VQ Q)) (hof : ∀ β H r Q, Out K P β H (hR r) Q E → Out K P β H r (VQ Q) (EK Q)) {F : Fn D} {σ : L2.St} {H : Hp} {Q : VK} (h : tD K P E (fHeardG hR F) σ H Q) : LamX.tLam P.T.tb TT (fun E' => tD K P E' F) σ H Q := by
  obtain ⟨β, δ, bx, ev, g, o⟩ := h
  refine ⟨g.tb, fun H1 x t1 => ?_⟩
  have l : Le β H β H1 := .ext x
  have x' : ∀ b o, H b = some o → (∀ ps, o ≠ .tbl ps) → H1 b = some o := x
  have sm : ∀ (k : Nat) (a : Addr) (b : Bool), β.cs[k]? = some (a, b) → ∃ o, H1 a = some o ∧ ∀ ps, o ≠ .tbl ps := fun k a b h => by
    obtain ⟨o, z, t⟩ := g.sm k a b h
    exact ⟨o, x' _ _ z t, t⟩
  have g1 : Good K P.T β bx H1 := ⟨g.ln, fun k a b h => by
    obtain ⟨c, h1, h2⟩ := g.cs k a b h
    exact ⟨c, h1, h2.le l (g.xk l) fun xs z => x _ _ z (fun ps z => by cases z)⟩, g.inj, sm, fun e he => by
    obtain ⟨⟨l, h⟩, n⟩ := g.ex e he
    exact ⟨⟨l, x _ _ h (fun ps z => by cases z)⟩, n⟩, t1⟩
  rw [hTT]
  exact ⟨β, δ, bx, ev.le l, g1, hof _ _ _ _ (Out.le l o)⟩
end
section
variable {X : Cx} {P : Pm} {E : XK} {F : Fn D} {EK : VK → XK} {VQ : VK → VK} {TT : (XK → Hp → VK → Prop) → Hp → VK → Prop} {hR : Res D → Res D}
theorem ed_heardG {x a : Str} {g c Pt : Addr} {k : Nat} {pg : Arguments} {bg : List Stmt} {sg : Scope} {dV kV doc pm cdv ct oc : Value} {an od : Option Addr} {osl : Array (Option Value)} {Ng : List Str}
    {params : Arguments} {body : Expr} {scope : Scope} {p lpos pos : Pos} (hTT : ∀ tl H Q, TT tl H Q = tl (EK Q) H (VQ Q)) (hof : ∀ β H r Q, Out X.K P β H (hR r) Q E → Out X.K P β H r (VQ Q) (EK Q)) (hg : Gl X x) (hm : X.mg x = some (.ref g)) (hk : PySem.W.keepIn X.K (.ref g) = true)
    (lk : X.K.lookup g = some ⟨oc, od, .func (PySem.W.fnOf x x pg bg sg dV kV doc pm an cdv ct), osl⟩) (hcg : PySem.W.codeIn X.K cdv x = true) (hb : L2.Binds X.K (PySem.W.fnOf x x pg bg sg dV kV doc pm an cdv ct) [a] []) (Sg : FnScope Ng [a] sg) (hNg : Ng[0]? = some a) (hva : Vis sg a)
    (hG : LamX.GivesTo X Ng x sg g cdv bg a (X.env.qual ++ "<lambda>") TT)
    (TB : LamX.TabB X.base X.mg c Pt) (hcode : X.env.code = .ref c) (hmT : (Pt, X.env.qual ++ "<lambda>") ∈ P.T.tb) (hu : ∀ q ∈ P.T.tb, q.1 = Pt → q.2 = X.env.qual ++ "<lambda>") (hr : Room (k + 2) X.A) (L : LamX.LamS X.env.scope scope) (hdef : defaultsOf params X.env = ([], []))
    (hbind : ∀ (q : Str) (cl : List (Str × Addr)) (pm cv ctv : Value), bindArgs (PySem.W.kla_fn "<lambda>" q params body scope cl pm cv ctv) ⟨[], []⟩ = pure [])
    (hbody : ∀ (A : Around) (outer : List Env) (s : Shared) (H : Hp) (E' : XK) (f c' : Addr), Room k (A.deeper (LamX.lamEnv X scope s.heap.objs.size f c')) → ED (LamX.lamCx X A outer s H E' scope f c') P E' body F)
    (hdb : (x == ("__debug__" : Str)) = false := by decide) (hd : (a == ("__debug__" : Str)) = false := by decide) (hcd : (a == ("__classdict__" : Str)) = false := by decide) :
    ED X P E (.Call (.Name x p) [.Lambda params body scope lpos] [] pos) (fHeardG hR F) :=
  pe_imp (LamX.pe_lamcall (t := fun E' => tD X.K P E' F) hg hm hk lk hcg hb Sg hNg hva hG TB hcode hmT hu hr L hdef hbind hbody hdb hd hcd) fun _ _ _ h => heard_ofG hTT hof h
/-- what a kept lambda of the frame X is known for -/
def LamKnown (X : Cx) (P : Pm) (k : Nat) (B : Nat → Fn D) : Prop := ∀ n f H, P.T.lm n f H → ∃ (c' : Addr) (params : Arguments) (body : Expr) (scope : Scope), H f = some (LamH X.env.cells (X.env.qual ++ "<lambda>") params body scope f c') ∧ H c' = some (LamX.CodeO c' (X.env.qual ++ "<lambda>")) ∧ LamX.LamS X.env.scope scope ∧
      (∀ (q : Str) (cl : List (Str × Addr)) (pm cv ctv : Value), bindArgs (PySem.W.kla_fn "<lambda>" q params body scope cl pm cv ctv) ⟨[], []⟩ = pure []) ∧
      ∀ (A : Around) (outer : List Env) (s : Shared) (H : Hp) (E' : XK), Room k (A.deeper (LamX.lamEnv X scope s.heap.objs.size f c')) → ED (LamX.lamCx X A outer s H E' scope f c') P E' body (B n)
/-- the arg is one of the frame's lambdas -/
theorem lam_arg {K : PySem.W.Frag} {F : Fn D} {G : Nat → List (Option D) → Sto → Res D} {σ : L2.St} {H : Hp} {Q : VK} {β : Mu} {δ : List (Option D)} {bx : Sto} (ev : Ev K β H σ δ) (gd : Good K P.T β bx H)
    (o : Out K P β H (bnd F (fun d => fun δ bx => match d with
      | .ref k => (match bx[k]? with
        | some (.lam n) => hR (G n δ bx)
        | _ => .bad)
      | _ => .bad) δ bx) Q E) : tD K P E F σ H fun v H1 => ∃ (f : Addr) (n : Nat) (β1 : Mu) (bx1 : Sto), v = .ref f ∧ P.T.lm n f H1 ∧ Ev K β1 H1 σ δ ∧ Good K P.T β1 bx1 H1 ∧ Out K P β1 H1 (hR (G n δ bx1)) Q E := by
  refine d_bind ev gd o.x fun β1 bx1 v d H1 l1 g1 r1 o1 => ?_
  cases r1 with
  | ref hk =>
    have ⟨c, h1, h2⟩ := g1.cs _ _ _ hk
    dsimp only at o1
    rw [h1] at o1
    cases c with
    | lam n => exact ⟨_, n, β1, bx1, rfl, h2.2, ev.le l1, g1, out_ofX o1⟩
    | lst _ => exact o1.elim
    | dead => exact o1.elim
  | non => exact o1.elim
  | bl _ => exact o1.elim
  | int _ => exact o1.elim
  | str _ => exact o1.elim
  | lst _ _ => exact o1.elim
  | tup _ _ => exact o1.elim
  | fn _ _ => exact o1.elim
  | scr _ => exact o1.elim
/-- x(y), y being one of the frame's lambdas -/
theorem ed_heardVG {B : Nat → Fn D} {x a y : Str} {g : Addr} {k : Nat} {pg : Arguments} {bg : List Stmt} {sg : Scope} {dV kV doc pm cdv ct oc : Value} {an od : Option Addr} {osl : Array (Option Value)} {Ng : List Str}
    {p py pos : Pos} (hTT : ∀ tl H Q, TT tl H Q = tl (EK Q) H (VQ Q)) (hof : ∀ β H r Q, Out X.K P β H (hR r) Q E → Out X.K P β H r (VQ Q) (EK Q)) (hg : Gl X x) (hm : X.mg x = some (.ref g)) (hk : PySem.W.keepIn X.K (.ref g) = true)
    (lk : X.K.lookup g = some ⟨oc, od, .func (PySem.W.fnOf x x pg bg sg dV kV doc pm an cdv ct), osl⟩) (hcg : PySem.W.codeIn X.K cdv x = true) (hb : L2.Binds X.K (PySem.W.fnOf x x pg bg sg dV kV doc pm an cdv ct) [a] []) (Sg : FnScope Ng [a] sg) (hNg : Ng[0]? = some a) (hva : Vis sg a)
    (hG : LamX.GivesTo X Ng x sg g cdv bg a (X.env.qual ++ "<lambda>") TT) (hr : Room (k + 2) X.A) (h : ED X P E (.Name y py) F) (hl : LamKnown X P k B)
    (hdb : (x == ("__debug__" : Str)) = false := by decide) (hd : (a == ("__debug__" : Str)) = false := by decide) (hcd : (a == ("__classdict__" : Str)) = false := by decide) :
    ED X P E (.Call (.Name x p) [.Name y py] [] pos) (fHeardVG hR F B) := by
  refine ⟨fun pins s σ H Q I ⟨β, δ, bx, ev, gd, o⟩ => ?_⟩
  refine wpAny_Call_Name_kw (ld_glob I hg hm ?_ hdb)
  refine PySem.W.callWith_K (h₀ := X.base) I.ok.mod.kin hk ?_ (by rfl) (by rfl)
  show wpAny _ _ (spliced ((false, eval (.Name y py) X.env) :: backTo pos (starEach [] X.env))) _ _ s
  refine Calls.spliced_cons (thn (h.run pins s σ H _ I (lam_arg (G := fun n δ bx => B n δ bx) ev gd o)) fun u s1 hu => ?_)
  obtain ⟨v, H1, I1, rv, f, n, β1, bx1, rfl, hlm, ev1, g1, o1⟩ := hu
  have eu : u = Value.ref f := rv
  subst eu
  obtain ⟨c', params, body, scope, hf, hc, L, bd, hB⟩ := hl n f H1 hlm
  refine Calls.spliced_nil ⟨I1.kIn, ?_⟩
  have call_ : codeAny (model X.prog X.w) X.A (.call (.ref g) ⟨[.ref f], []⟩) (CR C8.CX0 X.stack X.prog X.w H1 s1 Q C8.E0) s1 := by
    refine LamX.run_ofS (vs := [.ref f]) (us := [.ref f]) (ps := [a]) (N := Ng) lk hcg Sg hr I1.env0 (hb s1 [.ref f] I1.kIn rfl) (.cons rfl .nil) rfl fun hr' => ?_
    have ⟨t', ht', hq'⟩ := hG f c' s1 H1 Q (fun E' H' Q' => H' f = some (LamH X.env.cells (X.env.qual ++ "<lambda>") params body scope f c') ∧ tD X.K P E' (B n) σ H' Q')
      (fun W pn xe E' p1 p2 tk hW => lam_act I1 L bd tk hW hr' (fun A outer s H hr2 => hB A outer s H E' hr2) hNg hva hd hcd) hc (by
        rw [hTT]
        exact ⟨hf, β1, δ, bx1, ev1, g1, hof _ _ _ _ o1⟩)
    exact ⟨t', ht'.nox, hq'⟩
  refine wpAny_call (codeAny_mono call_ fun r s2 hq => ?_)
  match r, hq with
  | .error e, hq => exact False.elim hq
  | .ok (.ret u), hq => exact I1.after hq
  | .ok .next, hq => exact False.elim hq
  | .ok .brk, hq => exact False.elim hq
  | .ok .cont, hq => exact False.elim hq
/-- the same in a comprehension's block -/
theorem pe_heardVB {scb : Scope} {tb : Shared} {Hb : Hp} {Cc : Addr} {cl : List (Str × Addr)} {fp : List Addr} {pins0 : List (Addr × Obj)} {σ0 : L2.St} {is : List Nat} (out : OutI X (blkX X scb tb Hb Cc cl fp) pins0 σ0)
    {B : Nat → Fn D} {x a y : Str} {g : Addr} {k : Nat} {pg : Arguments} {bg : List Stmt} {sg : Scope} {dV kV doc pm cdv ct oc : Value} {an od : Option Addr} {osl : Array (Option Value)} {Ng : List Str}
    {p py pos : Pos} (hTT : ∀ tl H Q, TT tl H Q = tl (EK Q) H (VQ Q)) (hof : ∀ β H r Q, Out X.K P β H (hR r) Q E → Out X.K P β H r (VQ Q) (EK Q)) (hg : Gl (blkX X scb tb Hb Cc cl fp) x) (hm : X.mg x = some (.ref g)) (hk : PySem.W.keepIn X.K (.ref g) = true)
    (lk : X.K.lookup g = some ⟨oc, od, .func (PySem.W.fnOf x x pg bg sg dV kV doc pm an cdv ct), osl⟩) (hcg : PySem.W.codeIn X.K cdv x = true) (hb : L2.Binds X.K (PySem.W.fnOf x x pg bg sg dV kV doc pm an cdv ct) [a] []) (Sg : FnScope Ng [a] sg) (hNg : Ng[0]? = some a) (hva : Vis sg a)
    (hG : LamX.GivesTo X Ng x sg g cdv bg a (X.env.qual ++ "<lambda>") TT) (hr : Room (k + 2) X.A) (h : ED (blkX X scb tb Hb Cc cl fp) P E (.Name y py) F) (hl : LamKnown X P k B)
    (hdb : (x == ("__debug__" : Str)) = false := by decide) (hd : (a == ("__debug__" : Str)) = false := by decide) (hcd : (a == ("__classdict__" : Str)) = false := by decide) :
    PE (blkX X scb tb Hb Cc cl fp) (.Call (.Name x p) [.Name y py] [] pos) (fun σ H Q => wipe σ is = wipe σ0 is ∧ tD X.K P E (fHeardVB hR is F B) σ H Q) := by
  refine ⟨fun pins s σ H Q I ⟨hw, β, δ, bx, ev, gd, o⟩ => ?_⟩
  refine wpAny_Call_Name_kw (ld_glob I hg hm ?_ hdb)
  refine PySem.W.callWith_K (h₀ := X.base) I.ok.mod.kin hk ?_ (by rfl) (by rfl)
  show wpAny _ _ (spliced ((false, eval (.Name y py) (blkX X scb tb Hb Cc cl fp).env) :: backTo pos (starEach [] (blkX X scb tb Hb Cc cl fp).env))) _ _ s
  refine Calls.spliced_cons (thn (h.run pins s σ H _ I (lam_arg (G := fun n δ bx => B n (unset is δ) bx) ev gd o)) fun u s1 hu => ?_)
  obtain ⟨v, H1, I1, rv, f, n, β1, bx1, rfl, hlm, ev1, g1, o1⟩ := hu
  have eu : u = Value.ref f := rv
  subst eu
  obtain ⟨c', params, body, scope, hf, hc, L, bd, hB⟩ := hl n f H1 hlm
  have IX := out _ _ _ _ I1
  have ev2 : Ev X.K β1 H1 σ0 (unset is δ) := Ev.unwipe (is := is) (by rw [← hw]; exact ev1.unset is)
  refine Calls.spliced_nil ⟨I1.kIn, ?_⟩
  have call_ : codeAny (model X.prog X.w) X.A (.call (.ref g) ⟨[.ref f], []⟩) (CR C8.CX0 X.stack X.prog X.w H1 s1 Q C8.E0) s1 := by
    refine LamX.run_ofS (vs := [.ref f]) (us := [.ref f]) (ps := [a]) (N := Ng) lk hcg Sg hr IX.env0 (hb s1 [.ref f] I1.kIn rfl) (.cons rfl .nil) rfl fun hr' => ?_
    have ⟨t', ht', hq'⟩ := hG f c' s1 H1 Q (fun E' H' Q' => H' f = some (LamH X.env.cells (X.env.qual ++ "<lambda>") params body scope f c') ∧ tD X.K P E' (B n) σ0 H' Q')
      (fun W pn xe E' p1 p2 tk hW => lam_act IX L bd tk hW hr' (fun A outer s H hr2 => hB A outer s H E' hr2) hNg hva hd hcd) hc (by
        rw [hTT]
        exact ⟨hf, β1, _, bx1, ev2, g1, hof _ _ _ _ o1⟩)
    exact ⟨t', ht'.nox, hq'⟩
  refine wpAny_call (codeAny_mono call_ fun r s2 hq => ?_)
  match r, hq with
  | .error e, hq => exact False.elim hq
  | .ok (.ret u), hq => exact I1.after hq
  | .ok .next, hq => exact False.elim hq
  | .ok .brk, hq => exact False.elim hq
  | .ok .cont, hq => exact False.elim hq
/-- held against data, in a comprehension's block -/
theorem et_cmpB {Y : Cx} {op : CmpOp} {r : R2} {f : Sto → D → D → Option D} {a b : Expr} {F G : Fn D} {pos : Pos} {Cn : L2.St → Prop} (ho : OpR Y (compareOp op) r) (hr : OpD Y P r f) (ha : PE Y a (fun σ H Q => Cn σ ∧ tD Y.K P E F σ H Q)) (hb : ED Y P E b G) (hm : behindInMarks op b = false) :
    PT Y (.Compare a [op] [b] pos) (fun σ H Q => Cn σ ∧ tDT Y.K P E (fB (f2 f F G)) σ H Q) :=
  pt_imp (pt_cmpR ho ha hb hm) fun σ H Q ⟨c, q⟩ => ⟨c, ed_tOp hr σ H _ (tB_of q)⟩
theorem et_neB {Y : Cx} {a b : Expr} {F G : Fn D} {pos : Pos} {Cn : L2.St → Prop} (hu : Y.A.units + 64 < cLine) (ha : PE Y a (fun σ H Q => Cn σ ∧ tD Y.K P E F σ H Q)) (hb : ED Y P E b G) : PT Y (.Compare a [.NotEq] [b] pos) (fun σ H Q => Cn σ ∧ tDT Y.K P E (fB (f2 cNeD F G)) σ H Q) :=
  et_cmpB (op_neD hu) opd_neD ha hb (nomark _)
theorem et_oneB {Y : Cx} {c : Expr} {C : Fn Bool} {Cn : L2.St → Prop} (h : PT Y c (fun σ H Q => Cn σ ∧ tDT Y.K P E C σ H Q)) : PTs Y [c] (fun σ H Q => Cn σ ∧ tDT Y.K P E C σ H Q) := pts_one h
theorem tLc_ofO {t : TG} {is : List Nat} {b : Bd} {Fi : Fn (List D)} {C : Fn Bool} (hgd : GD X.K t is b) : ∀ σ H Q, tD X.K P E (fLc is b Fi C F) σ H Q → tLc (tDL X.K P E Fi) t (fun σ2 H2 Q2 => wipe σ2 is = wipe σ is ∧ tDT X.K P E C σ2 H2 Q2) (tD X.K P E F) is σ H Q := by
  rintro σ H Q ⟨β, δ, bx, ev, g, o⟩
  refine lc_core_of hgd ev g ?_ fun _ _ _ w h => ⟨w, h⟩
  unfold fLc bnd at o
  cases hF : fLcA is b Fi C F δ bx with
  | bad => rw [hF] at o; exact o
  | err c d bx' => rw [hF] at o; exact o
  | ok ds bx' =>
    rw [hF] at o
    exact fun βi Hi l gi p xs _ hp np h ra => o (βi.back β.ex) (.ref p) Hi l.back (gi.back l.e1) (.lst ⟨.inl h, fun z => (gi.ex p hp).2 true z, np⟩ (ra.back l.e1))
/-- a comprehension whose test hears the frame's lambdas -/
theorem ed_lcO {t : TG} {b : Bd} {tg iter elt : Expr} {scope : Scope} {Fi : Fn (List D)} {C : Fn Bool} {ifs : List Expr} {own : List (Str × Nat)} {pos : Pos} (hc : X.calm = true) (hN : X.N.Nodup) (hi : EI X P E tg iter Fi) (ok : BlkOk X.N X.env.scope scope own) (hgd : GD X.K t (own.map (·.2)) b)
    (hg : ∀ (s : Shared) (H : Hp) (Cc : Addr) (cl : List (Str × Addr)) (fp : List Addr), PG (blkX X scope s H Cc cl fp) tg t)
    (ht : ∀ (pins : List (Addr × Obj)) (σ : L2.St) (s : Shared) (H : Hp) (Cc : Addr) (cl : List (Str × Addr)) (fp : List Addr), OutI X (blkX X scope s H Cc cl fp) pins σ → PTs (blkX X scope s H Cc cl fp) ifs (fun σ2 H2 Q2 => wipe σ2 (own.map (·.2)) = wipe σ (own.map (·.2)) ∧ tDT X.K P E C σ2 H2 Q2))
    (he : ∀ (s : Shared) (H : Hp) (Cc : Addr) (cl : List (Str × Addr)) (fp : List Addr), ED (blkX X scope s H Cc cl fp) P E elt F) (hs : ∀ x, foldedSetIterable iter X.env x = pure x := by intro _; rfl) :
    ED X P E (.ListComp elt [⟨tg, iter, ifs, 0⟩] scope pos) (fLc (own.map (·.2)) b Fi C F) :=
  pe_imp (pe_lcO (tt := fun σ σ2 H2 Q2 => wipe σ2 (own.map (·.2)) = wipe σ (own.map (·.2)) ∧ tDT X.K P E C σ2 H2 Q2) hc hN hi ok (fun pins σ s H Cc cl fp o => ⟨hg s H Cc cl fp, ht pins σ s H Cc cl fp o, he s H Cc cl fp⟩) hs) (tLc_ofO hgd)
end
end Ms
namespace Ms
open PySem PySem.Spec
/-! ### where a lambda stands in a text -/
inductive Nd where
  | s (x : Stmt) | e (x : Expr)
def kids : Nd → List Nd
  | .s (.Assign _ v _) => [.e v]
  | .s (.Expr v _) => [.e v]
  | .s (.Return (some v) _) => [.e v]
  | .s (.If t b o _) => .e t :: (b.map Nd.s ++ o.map Nd.s)
  | .s (.For _ t b o _) => .e t :: (b.map Nd.s ++ o.map Nd.s)
  | .s (.While t b o _) => .e t :: (b.map Nd.s ++ o.map Nd.s)
  | .e (.Call f as _ _) => .e f :: as.map Nd.e
  | .e (.List es _) => es.map Nd.e
  | .e (.Tuple es _ _) => es.map Nd.e
  | .e (.Compare a _ bs _) => .e a :: bs.map Nd.e
  | .e (.BoolOp _ vs _) => vs.map Nd.e
  | .e (.UnaryOp _ v _) => [.e v]
  | _ => []
def lamAt : List Nat → Nd → LamI
  | [], .e (.Lambda p b s _) => ⟨p, b, s⟩
  | i :: r, n => match (kids n)[i]? with
    | some k => lamAt r k
    | none => ⟨⟨[], [], none, [], [], none, []⟩, .Constant .none 0 ⟨0, 0, 0, 0⟩, ⟨.function, [], false, false, default⟩⟩
  | _, _ => ⟨⟨[], [], none, [], [], none, []⟩, .Constant .none 0 ⟨0, 0, 0, 0⟩, ⟨.function, [], false, false, default⟩⟩
def lamIn (ss : List Stmt) : List Nat → LamI
  | i :: r => match ss[i]? with
    | some x => lamAt r (.s x)
    | none => lamAt [] (.s (.Pass ⟨0, 0, 0, 0⟩))
  | [] => lamAt [] (.s (.Pass ⟨0, 0, 0, 0⟩))
end Ms

end
section
set_option Elab.async false
set_option linter.all false
set_option maxRecDepth 100000
set_option maxHeartbeats 4000000
namespace Ms
open PySem PySem.Spec PyProof.Rows L2
/-! ### what a mirror comes to, by what is wanted of it -/
def W {α : Type} (r : Res α) (Q : α → Sto → Prop) (E : Str → D → Sto → Prop) : Prop := match r with
  | .ok a bx => Q a bx
  | .err c d bx => E c d bx
  | .bad => False
def WS (r : Rs) (N : List (Option D) → Sto → Prop) (R : D → Sto → Prop) (E : Str → D → Sto → Prop) : Prop := match r with
  | .nx δ bx => N δ bx
  | .rt d bx => R d bx
  | .er c d bx => E c d bx
  | .bad => False
abbrev NoE : Str → D → Sto → Prop := fun _ _ _ => False
section
variable {α γ : Type} {δ : List (Option D)} {bx : Sto} {Q : α → Sto → Prop} {E : Str → D → Sto → Prop} {N : List (Option D) → Sto → Prop} {Rt : D → Sto → Prop}
theorem W.imp {r : Res α} {Q' : α → Sto → Prop} {E' : Str → D → Sto → Prop} (h : W r Q E) (k : ∀ a bx, Q a bx → Q' a bx) (e : ∀ c d bx, E c d bx → E' c d bx) : W r Q' E' := by
  cases r with
  | ok a bx => exact k _ _ h
  | err c d bx => exact e _ _ _ h
  | bad => exact h
theorem W.to {r : Res α} {Q' : α → Sto → Prop} {E' : Str → D → Sto → Prop} (h : W r Q NoE) (k : ∀ a bx, Q a bx → Q' a bx) : W r Q' E' := h.imp k fun _ _ _ z => z.elim
theorem WS.imp {r : Rs} {N' : List (Option D) → Sto → Prop} {R' : D → Sto → Prop} {E' : Str → D → Sto → Prop} (h : WS r N Rt E) (n : ∀ δ bx, N δ bx → N' δ bx) (k : ∀ a bx, Rt a bx → R' a bx) (e : ∀ c d bx, E c d bx → E' c d bx) : WS r N' R' E' := by
  cases r with
  | nx δ bx => exact n _ _ h
  | rt a bx => exact k _ _ h
  | er c d bx => exact e _ _ _ h
  | bad => exact h
theorem W.ok_iff {r : Res α} : (∃ a bx, r = .ok a bx ∧ Q a bx) ↔ W r Q NoE := by
  cases r with
  | ok a bx => exact ⟨fun ⟨_, _, e, h⟩ => by cases e; exact h, fun h => ⟨a, bx, rfl, h⟩⟩
  | err c d bx => exact ⟨fun ⟨_, _, e, _⟩ => (nomatch e), fun h => h.elim⟩
  | bad => exact ⟨fun ⟨_, _, e, _⟩ => (nomatch e), fun h => h.elim⟩
theorem W_ok {a : α} : W (.ok a bx) Q E ↔ Q a bx := Iff.rfl
theorem W_err {c : Str} {d : D} : W (.err c d bx : Res α) Q E ↔ E c d bx := Iff.rfl
theorem W_bad : W (.bad : Res α) Q E ↔ False := Iff.rfl
theorem W_pur {a : α} : W (pur a δ bx) Q E ↔ Q a bx := Iff.rfl
theorem W_bnd {F : Fn γ} {G : γ → Fn α} : W (bnd F G δ bx) Q E ↔ W (F δ bx) (fun a bx' => W (G a δ bx') Q E) E := by
  unfold bnd
  cases F δ bx <;> rfl
theorem W_lft {o : Option α} : W (lft o δ bx) Q E ↔ ∃ a, o = some a ∧ Q a bx := by
  cases o with
  | none => exact ⟨fun h => h.elim, fun ⟨_, e, _⟩ => (nomatch e)⟩
  | some a => exact ⟨fun h => ⟨a, rfl, h⟩, fun ⟨_, e, h⟩ => by cases e; exact h⟩
theorem WS_of {F : Fn α} {k : α → Sn} : WS (sOf F k δ bx) N Rt E ↔ W (F δ bx) (fun a bx' => WS (k a δ bx') N Rt E) E := by
  unfold sOf
  cases F δ bx <;> rfl
theorem WS_seq {S T : Sn} : WS (sSeq S T δ bx) N Rt E ↔ WS (S δ bx) (fun δ' bx' => WS (T δ' bx') N Rt E) Rt E := by
  unfold sSeq
  cases S δ bx <;> rfl
theorem WS_next : WS (sNext δ bx) N Rt E ↔ N δ bx := Iff.rfl
theorem WS_set {i : Nat} {F : Fn D} : WS (sSet i F δ bx) N Rt E ↔ W (F δ bx) (fun d bx' => N (δ.set i (some d)) bx') E := WS_of
theorem WS_ret {F : Fn D} : WS (sRet F δ bx) N Rt E ↔ W (F δ bx) Rt E := WS_of
theorem WS_drop {F : Fn D} : WS (sDrop F δ bx) N Rt E ↔ W (F δ bx) (fun _ bx' => N δ bx') E := WS_of
theorem WS_raise {c : Str} {F : Fn D} : WS (sRaise c F δ bx) N Rt E ↔ W (F δ bx) (fun d bx' => E c d bx') E := WS_of
theorem WS_if {C : Fn Bool} {S T : Sn} : WS (sIf C S T δ bx) N Rt E ↔ W (C δ bx) (fun c bx' => WS ((if c = true then S else T) δ bx') N Rt E) E := WS_of
theorem W_fnD {N : List Str} {S : Sn} {ds : List D} {Q : D → Sto → Prop} : W (fnD N S ds bx) Q E ↔ WS (S (ds.map some ++ List.replicate (N.length - ds.length) none) bx) (fun _ bx' => Q .non bx') Q E := by
  unfold fnD
  cases S (ds.map some ++ List.replicate (N.length - ds.length) none) bx <;> rfl
theorem W_noErr {r : Res D} {Q : D → Sto → Prop} : W (noErr r) Q E ↔ W r Q NoE := by
  cases r <;> rfl
theorem W_call {m : List D → Sto → Res D} {A : Fn (List D)} {Q : D → Sto → Prop} : W (fCall m A δ bx) Q E ↔ W (A δ bx) (fun ds bx' => W (m ds bx') Q E) E := W_bnd
theorem W_callK {m : List D → Sto → Res D} {π : List Nat} {A : Fn (List D)} {Q : D → Sto → Prop} : W (fCallK m π A δ bx) Q E ↔ W (A δ bx) (fun ds bx' => W (m (pick .non π ds) bx') Q E) E := W_bnd
theorem W_cons {F : Fn D} {A : Fn (List D)} {Q : List D → Sto → Prop} : W (fCons F A δ bx) Q E ↔ W (F δ bx) (fun d bx' => W (A δ bx') (fun ds bx'' => Q (d :: ds) bx'') E) E := by
  unfold fCons
  rw [W_bnd]
  refine iff_of_eq (congrArg (fun k => W (F δ bx) k E) (funext fun d => funext fun bx' => propext ?_))
  rw [W_bnd]
  rfl
theorem W_f1 {f : Sto → D → Option D} {F : Fn D} {Q : D → Sto → Prop} : W (f1 f F δ bx) Q E ↔ W (F δ bx) (fun d bx' => ∃ z, f bx' d = some z ∧ Q z bx') E := by
  unfold f1
  rw [W_bnd]
  exact iff_of_eq (congrArg (fun k => W (F δ bx) k E) (funext fun d => funext fun bx' => propext W_lft))
theorem W_fA {f : Sto → List D → Option D} {A : Fn (List D)} {Q : D → Sto → Prop} : W (fA f A δ bx) Q E ↔ W (A δ bx) (fun ds bx' => ∃ z, f bx' ds = some z ∧ Q z bx') E := by
  unfold fA
  rw [W_bnd]
  exact iff_of_eq (congrArg (fun k => W (A δ bx) k E) (funext fun d => funext fun bx' => propext W_lft))
theorem W_f2 {f : Sto → D → D → Option D} {F G : Fn D} {Q : D → Sto → Prop} : W (f2 f F G δ bx) Q E ↔ W (F δ bx) (fun d bx' => W (G δ bx') (fun e bx'' => ∃ z, f bx'' d e = some z ∧ Q z bx'') E) E := by
  unfold f2
  rw [W_bnd]
  refine iff_of_eq (congrArg (fun k => W (F δ bx) k E) (funext fun d => funext fun bx' => propext ?_))
  rw [W_bnd]
  exact iff_of_eq (congrArg (fun k => W (G δ bx') k E) (funext fun d => funext fun bx' => propext W_lft))
theorem W_B {F : Fn D} {Q : Bool → Sto → Prop} : W (fB F δ bx) Q E ↔ W (F δ bx) (fun d bx' => ∃ b, toB d = some b ∧ Q b bx') E := by
  unfold fB
  rw [W_bnd]
  exact iff_of_eq (congrArg (fun k => W (F δ bx) k E) (funext fun d => funext fun bx' => propext W_lft))
theorem W_ifT {C : Fn Bool} {A B : Fn α} : W (fIfT C A B δ bx) Q E ↔ W (C δ bx) (fun c bx' => W ((if c = true then A else B) δ bx') Q E) E := W_bnd
theorem W_ifB {F : Fn D} {A B : Fn α} : W (fIfB F A B δ bx) Q E ↔ W (F δ bx) (fun d bx' => ∃ b, toB d = some b ∧ W ((if b = true then A else B) δ bx') Q E) E := by
  unfold fIfB
  rw [W_bnd]
  refine iff_of_eq (congrArg (fun k => W (F δ bx) k E) (funext fun d => funext fun bx' => propext ?_))
  cases h : toB d with
  | none => exact ⟨fun h => h.elim, fun ⟨_, e, _⟩ => (nomatch e)⟩
  | some b =>
    cases b
    · exact ⟨fun h => ⟨false, rfl, h⟩, fun ⟨_, e, h⟩ => by cases e; exact h⟩
    · exact ⟨fun h => ⟨true, rfl, h⟩, fun ⟨_, e, h⟩ => by cases e; exact h⟩
theorem W_not {A : Fn Bool} {Q : Bool → Sto → Prop} : W (fNot A δ bx) Q E ↔ W (A δ bx) (fun c bx' => Q (!c) bx') E := W_bnd
theorem WS_unp {is : List Nat} {F : Fn D} : WS (sUnp is F δ bx) N Rt E ↔ W (F δ bx) (fun d bx' => ∃ δ', (vs bx' d).bind (fun l => setAll is l δ) = some δ' ∧ N δ' bx') E := by
  unfold sUnp
  rw [WS_of]
  refine iff_of_eq (congrArg (fun k => W (F δ bx) k E) (funext fun d => funext fun bx' => propext ?_))
  cases h : (vs bx' d).bind fun l => setAll is l δ with
  | none => exact ⟨fun h => h.elim, fun ⟨_, e, _⟩ => (nomatch e)⟩
  | some b => exact ⟨fun h => ⟨b, rfl, h⟩, fun ⟨_, e, h⟩ => by cases e; exact h⟩
theorem WS_par {i j : Nat} {A : Fn (List D)} : WS (sPar i j A δ bx) N Rt E ↔ W (A δ bx) (fun ds bx' => ∃ d e, ds = [d, e] ∧ N ((δ.set i (some d)).set j (some e)) bx') E := by
  unfold sPar
  rw [WS_of]
  refine iff_of_eq (congrArg (fun k => W (A δ bx) k E) (funext fun ds => funext fun bx' => propext ?_))
  match ds with
  | [d, e] => exact ⟨fun h => ⟨d, e, rfl, h⟩, fun ⟨_, _, e, h⟩ => by cases e; exact h⟩
  | [] => exact ⟨fun h => h.elim, fun ⟨_, _, e, _⟩ => (nomatch e)⟩
  | [_] => exact ⟨fun h => h.elim, fun ⟨_, _, e, _⟩ => (nomatch e)⟩
  | _ :: _ :: _ :: _ => exact ⟨fun h => h.elim, fun ⟨_, _, e, _⟩ => (nomatch e)⟩
theorem WS_for {b : Bd} {Fi : Fn (List D)} {S : Sn} : WS (sFor b Fi S δ bx) N Rt E ↔ W (Fi δ bx) (fun ds bx' => WS (forL b S ds δ bx') N Rt E) E := WS_of
theorem W_wk {F : Fn D} {Q : List D → Sto → Prop} : W (fWk F δ bx) Q E ↔ W (F δ bx) (fun d bx' => ∃ l, wlk d = some l ∧ Q l bx') E := by
  unfold fWk
  rw [W_bnd]
  exact iff_of_eq (congrArg (fun k => W (F δ bx) k E) (funext fun d => funext fun bx' => propext W_lft))
theorem W_po {F : Fn D} {Q : Option Int → Sto → Prop} : W (fPo F δ bx) Q E ↔ W (F δ bx) (fun d bx' => ∃ i, d = .int i ∧ Q (some i) bx') E := by
  unfold fPo
  rw [W_bnd]
  refine iff_of_eq (congrArg (fun k => W (F δ bx) k E) (funext fun d => funext fun bx' => propext ?_))
  cases d with
  | int i => exact ⟨fun h => ⟨i, rfl, h⟩, fun ⟨_, e, h⟩ => by cases e; exact h⟩
  | _ => exact ⟨fun h => h.elim, fun ⟨_, e, _⟩ => (nomatch e)⟩
theorem W_sl {F : Fn D} {A B : Fn (Option Int)} {Q : D → Sto → Prop} : W (fSl F A B δ bx) Q E ↔ W (F δ bx) (fun d bx1 => W (A δ bx1) (fun lo bx2 => W (B δ bx2) (fun hi bx3 => ∃ z, cSl bx3 d lo hi = some z ∧ Q z bx3) E) E) E := by
  unfold fSl
  rw [W_bnd]
  refine iff_of_eq (congrArg (fun k => W (F δ bx) k E) (funext fun d => funext fun bx' => propext ?_))
  rw [W_bnd]
  refine iff_of_eq (congrArg (fun k => W (A δ bx') k E) (funext fun d => funext fun bx' => propext ?_))
  rw [W_bnd]
  exact iff_of_eq (congrArg (fun k => W (B δ bx') k E) (funext fun d => funext fun bx' => propext W_lft))
theorem W_poN {Q : Option Int → Sto → Prop} : W (fPoN δ bx) Q E ↔ Q none bx := Iff.rfl
theorem W_chain {p q : Int → Int → Bool} {F G J : Fn D} {Q : D → Sto → Prop} : W (fChain p q F G J δ bx) Q E ↔ W (F δ bx) (fun d bx1 => W (G δ bx1) (fun e bx2 => ∃ i j, d = .int i ∧ e = .int j ∧ (if p i j = true then W (J δ bx2) (fun z bx3 => ∃ k, z = .int k ∧ Q (.bl (q j k)) bx3) E else Q (.bl false) bx2)) E) E := by
  unfold fChain
  rw [W_bnd]
  refine iff_of_eq (congrArg (fun k => W (F δ bx) k E) (funext fun d => funext fun bx1 => propext ?_))
  rw [W_bnd]
  refine iff_of_eq (congrArg (fun k => W (G δ bx1) k E) (funext fun e => funext fun bx2 => propext ?_))
  cases d with
  | int i =>
    cases e with
    | int j =>
      cases hp : p i j with
      | true =>
        simp only [iB, hp]
        rw [W_bnd]
        have : (∃ i_1 j_1, D.int i = D.int i_1 ∧ D.int j = D.int j_1 ∧ if p i_1 j_1 = true then W (J δ bx2) (fun z bx3 => ∃ k, z = .int k ∧ Q (.bl (q j_1 k)) bx3) E else Q (.bl false) bx2) ↔ W (J δ bx2) (fun z bx3 => ∃ k, z = .int k ∧ Q (.bl (q j k)) bx3) E := by
          refine ⟨fun ⟨i1, j1, e1, e2, h⟩ => ?_, fun h => ⟨i, j, rfl, rfl, ?_⟩⟩
          · cases e1
            cases e2
            rw [if_pos hp] at h
            exact h
          · rw [if_pos hp]
            exact h
        rw [this]
        refine iff_of_eq (congrArg (fun k => W (J δ bx2) k E) (funext fun z => funext fun bx3 => propext ?_))
        rw [W_lft]
        cases z with
        | int k => exact ⟨fun ⟨_, e, h⟩ => by cases e; exact ⟨k, rfl, h⟩, fun ⟨_, e, h⟩ => by cases e; exact ⟨_, rfl, h⟩⟩
        | _ => exact ⟨fun ⟨_, e, _⟩ => (nomatch e), fun ⟨_, e, _⟩ => (nomatch e)⟩
      | false =>
        simp only [iB, hp]
        refine ⟨fun h => ⟨i, j, rfl, rfl, ?_⟩, fun ⟨i1, j1, e1, e2, h⟩ => ?_⟩
        · rw [hp]
          exact h
        · cases e1
          cases e2
          rw [hp] at h
          exact h
    | _ => exact ⟨fun h => h.elim, fun ⟨_, _, _, e, _⟩ => (nomatch e)⟩
  | _ => cases e <;> exact ⟨fun h => h.elim, fun ⟨_, _, e, _⟩ => (nomatch e)⟩
theorem W_new {A : Fn (List D)} {Q : D → Sto → Prop} : W (fNew A δ bx) Q E ↔ W (A δ bx) (fun ds bx' => ds.length ≤ 1000000 ∧ Q (.ref bx'.length) (bx' ++ [.lst ds])) E := by
  unfold fNew
  rw [W_bnd]
  refine iff_of_eq (congrArg (fun k => W (A δ bx) k E) (funext fun ds => funext fun bx' => propext ?_))
  by_cases h : ds.length ≤ 1000000
  · rw [if_pos h]
    exact ⟨fun q => ⟨h, q⟩, fun q => q.2⟩
  · rw [if_neg h]
    exact ⟨fun q => q.elim, fun q => h q.1⟩
theorem W_newOf {F : Fn D} {Q : D → Sto → Prop} : W (fNewOf F δ bx) Q E ↔ W (F δ bx) (fun d bx' => ∃ l, vs bx' d = some l ∧ Q (.ref bx'.length) (bx' ++ [.lst l])) E := by
  unfold fNewOf
  rw [W_bnd]
  refine iff_of_eq (congrArg (fun k => W (F δ bx) k E) (funext fun d => funext fun bx' => propext ?_))
  cases h : vs bx' d with
  | none => exact ⟨fun h => h.elim, fun ⟨_, e, _⟩ => (nomatch e)⟩
  | some b => exact ⟨fun h => ⟨b, rfl, h⟩, fun ⟨_, e, h⟩ => by cases e; exact h⟩
theorem WS_put {F G J : Fn D} : WS (sPut F G J δ bx) N Rt E ↔ W (F δ bx) (fun e bx1 => W (G δ bx1) (fun d bx2 => W (J δ bx2) (fun i bx3 => ∃ k n l j, d = .ref k ∧ i = .int n ∧ bx3[k]? = some (.lst l) ∧ ixN l.length n = some j ∧ N δ (bx3.set k (.lst (l.set j e)))) E) E) E := by
  unfold sPut
  rw [WS_of]
  refine iff_of_eq (congrArg (fun k => W (F δ bx) k E) (funext fun e => funext fun bx1 => propext ?_))
  rw [WS_of]
  refine iff_of_eq (congrArg (fun k => W (G δ bx1) k E) (funext fun d => funext fun bx2 => propext ?_))
  rw [WS_of]
  refine iff_of_eq (congrArg (fun k => W (J δ bx2) k E) (funext fun i => funext fun bx3 => propext ?_))
  constructor
  · intro h
    split at h
    · split at h
      · split at h
        · exact ⟨_, _, _, _, rfl, rfl, by assumption, by assumption, h⟩
        · exact h.elim
      · exact h.elim
    · exact h.elim
  · rintro ⟨k, n, l, j, rfl, rfl, h1, h2, h3⟩
    simp only [h1, h2]
    exact h3
theorem WS_frz {i : Nat} : WS (sFrz i δ bx) N Rt E ↔ ∃ k l, δ[i]? = some (some (.ref k)) ∧ bx[k]? = some (.lst l) ∧ N (δ.set i (some (.lst l))) (bx.set k .dead) := by
  unfold sFrz
  constructor
  · intro h
    split at h
    · split at h
      · exact ⟨_, _, by assumption, by assumption, h⟩
      · exact h.elim
    · exact h.elim
  · rintro ⟨k, l, h1, h2, h3⟩
    simp only [h1, h2]
    exact h3
theorem WS_app {F G : Fn D} : WS (sApp F G δ bx) N Rt E ↔ W (F δ bx) (fun d bx1 => ∃ k l0, d = .ref k ∧ bx1[k]? = some (.lst l0) ∧ W (G δ bx1) (fun e bx2 => ∃ l, bx2[k]? = some (.lst l) ∧ l.length < 1000000 ∧ N δ (bx2.set k (.lst (l ++ [e])))) E) E := by
  unfold sApp
  rw [WS_of]
  refine iff_of_eq (congrArg (fun k => W (F δ bx) k E) (funext fun d => funext fun bx1 => propext ?_))
  have key : ∀ k, WS (sOf G (appK k) δ bx1) N Rt E ↔ W (G δ bx1) (fun e bx2 => ∃ l, bx2[k]? = some (.lst l) ∧ l.length < 1000000 ∧ N δ (bx2.set k (.lst (l ++ [e])))) E := fun k => by
    rw [WS_of]
    refine iff_of_eq (congrArg (fun k => W (G δ bx1) k E) (funext fun e => funext fun bx2 => propext ?_))
    unfold appK
    constructor
    · intro h
      split at h
      · split at h
        · exact ⟨_, by assumption, by assumption, h⟩
        · exact h.elim
      · exact h.elim
    · rintro ⟨l, h1, h2, h3⟩
      simp only [h1, h2, if_true]
      exact h3
  constructor
  · intro h
    split at h
    · split at h
      · exact ⟨_, _, rfl, by assumption, (key _).mp h⟩
      · exact h.elim
    · exact h.elim
  · rintro ⟨k, l0, rfl, h1, h2⟩
    simp only [h1]
    exact (key _).mpr h2
/-! ### loops -/
theorem for_rule {b : Bd} {S : Sn} {ds : List D} (I : Nat → List (Option D) → Sto → Prop) (h0 : I 0 δ bx) (hd : ∀ δ bx, I ds.length δ bx → N δ bx)
    (step : ∀ i d δ bx, ds[i]? = some d → I i δ bx → ∃ δ1, b bx δ d = some δ1 ∧ WS (S δ1 bx) (I (i + 1)) Rt E) : WS (forL b S ds δ bx) N Rt E := by
  induction ds generalizing δ bx I with
  | nil => exact hd _ _ h0
  | cons d r ih =>
    obtain ⟨δ1, e, h⟩ := step 0 d δ bx rfl h0
    simp only [forL, e]
    cases hS : S δ1 bx with
    | nx δ' bx' =>
      rw [hS] at h
      exact ih (fun i => I (i + 1)) h hd fun i d' δ bx hi hI => step (i + 1) d' δ bx hi hI
    | rt d' bx' => rw [hS] at h; exact h
    | er c d' bx' => rw [hS] at h; exact h
    | bad => rw [hS] at h; exact h
theorem lc_rule {b : Bd} {C : Fn Bool} {F : Fn D} {ds acc : List D} {Q : List D → Sto → Prop} (I : Nat → List D → Sto → Prop) (h0 : I 0 acc bx) (hd : ∀ acc bx, I ds.length acc bx → Q acc bx)
    (step : ∀ i d acc bx, ds[i]? = some d → I i acc bx → ∃ δ1, b bx δ d = some δ1 ∧ W (C δ1 bx) (fun c bx1 => if c = true then W (F δ1 bx1) (fun y bx2 => I (i + 1) (acc ++ [y]) bx2) NoE else I (i + 1) acc bx1) NoE) : W (lcGo b δ C F ds bx acc) Q E := by
  induction ds generalizing acc bx I with
  | nil => exact hd _ _ h0
  | cons d r ih =>
    obtain ⟨δ1, e, h⟩ := step 0 d acc bx rfl h0
    simp only [lcGo, e]
    cases hC : C δ1 bx with
    | bad => rw [hC] at h; exact h.elim
    | err _ _ _ => rw [hC] at h; exact h.elim
    | ok c bx1 =>
      rw [hC] at h
      replace h : if c = true then W (F δ1 bx1) (fun y bx2 => I 1 (acc ++ [y]) bx2) NoE else I 1 acc bx1 := h
      cases c with
      | false => exact ih (fun i => I (i + 1)) (by simpa using h) hd fun i d' acc bx hi hI => step (i + 1) d' acc bx hi hI
      | true =>
        rw [if_pos rfl] at h
        dsimp only
        cases hF : F δ1 bx1 with
        | bad => rw [hF] at h; exact h.elim
        | err _ _ _ => rw [hF] at h; exact h.elim
        | ok y bx2 =>
          rw [hF] at h
          exact ih (fun i => I (i + 1)) h hd fun i d' acc bx hi hI => step (i + 1) d' acc bx hi hI
/-- a comprehension that draws nothing -/
theorem lc_pure {b : Bd} {C : Fn Bool} {F : Fn D} {c : D → Bool} {f : D → D} : ∀ {ds acc : List D}, (∀ d ∈ ds, ∃ δ1, b bx δ d = some δ1 ∧ C δ1 bx = .ok (c d) bx ∧ (c d = true → F δ1 bx = .ok (f d) bx)) → lcGo b δ C F ds bx acc = .ok (acc ++ (ds.filter c).map f) bx
  | [], acc, _ => by simp [lcGo]
  | d :: r, acc, h => by
    obtain ⟨δ1, e, h1, h2⟩ := h d List.mem_cons_self
    have ih := fun acc => lc_pure (ds := r) (acc := acc) fun d hd => h d (List.mem_cons_of_mem _ hd)
    simp only [lcGo, e, h1]
    cases hc : c d with
    | true =>
      simp only [h2 hc]
      rw [ih, List.filter_cons_of_pos hc, List.map_cons, List.append_assoc]
      rfl
    | false =>
      simp only []
      rw [ih, List.filter_cons_of_neg (by simp [hc])]
theorem all_pure {b : Bd} {F : Fn D} {p : D → Bool} : ∀ {ds : List D}, (∀ d ∈ ds, ∃ δ1, b bx δ d = some δ1 ∧ F δ1 bx = .ok (.bl (p d)) bx) → allGo b δ F ds bx = .ok (.bl (ds.all p)) bx
  | [], _ => by simp [allGo]
  | d :: r, h => by
    obtain ⟨δ1, e, h1⟩ := h d List.mem_cons_self
    have ih := all_pure (ds := r) fun d hd => h d (List.mem_cons_of_mem _ hd)
    simp only [allGo, e, h1]
    cases hc : p d with
    | true => simp only []; rw [ih, List.all_cons, hc, Bool.true_and]
    | false => simp only []; rw [List.all_cons, hc, Bool.false_and]
end
end Ms

end
section
set_option Elab.async false
set_option linter.all false
set_option maxRecDepth 100000
set_option maxHeartbeats 4000000
/-! while, name += e, max(.., default=..), data in data, tuples repeated, {}.get(..) -/
namespace Ms
open PySem PySem.Spec PyProof.Rows L2
/-! ### while: so many turns at most -/
def whL (C : Fn Bool) (S : Sn) : Nat → Sn
  | 0 => fun _ _ => .bad
  | n + 1 => fun δ bx => match C δ bx with
    | .ok c bx1 => if c = true then (match S δ bx1 with
        | .nx δ' bx' => whL C S n δ' bx'
        | .rt e bx' => .rt e bx'
        | .er c e bx' => .er c e bx'
        | .bad => .bad) else .nx δ bx1
    | .err c d bx1 => .er c d bx1
    | .bad => .bad
def sWh (C : Fn Bool) (S : Sn) : Sn := whL C S 100000
section
variable {X : Cx} {P : Pm} {E : XK} {pos : Pos}
theorem sd_while {c : Expr} {body : List Stmt} {C : Fn Bool} {S : Sn} (hp : PassesOwn (model X.prog X.w) X.A X.env X.xe) (hc : ET X P E c C) (hb : SSD X P E body S) : SD X P E (.While c body [] pos) (sWh C S) := by
  refine ps_imp (ps_while hp hc hb) ?_
  rintro Z σ H ⟨β, δ, bx, ev, g, o⟩
  refine ⟨fun m σ' H' => ∃ β' δ' bx', Le β H β' H' ∧ Ev X.K β' H' σ' δ' ∧ Good X.K P.T β' bx' H' ∧ OutS X.K P β' H' (whL C S m δ' bx') Z E, ⟨100000, β, δ, bx, .refl, ev, g, o⟩, ?_⟩
  rintro m σ' H' ⟨β', δ', bx', l, ev', g', o'⟩
  refine ⟨β', δ', bx', ev', g', ?_⟩
  cases m with
  | zero => exact (show False from o').elim
  | succ n =>
    simp only [whL] at o'
    cases hC : C δ' bx' with
    | bad => rw [hC] at o'; exact o'
    | err c d b => rw [hC] at o'; exact o'
    | ok c bx1 =>
      rw [hC] at o'
      dsimp only at o'
      intro β2 H2 l2 g2
      cases c with
      | false =>
        rw [if_neg (by decide)] at o' ⊢
        exact o' β2 σ' H2 l2 g2 (ev'.le l2)
      | true =>
        rw [if_pos rfl] at o' ⊢
        refine ⟨fun σ3 H3 => ∃ β3 δ3 bx3, Le β H β3 H3 ∧ Ev X.K β3 H3 σ3 δ3 ∧ Good X.K P.T β3 bx3 H3 ∧ OutS X.K P β3 H3 (whL C S n δ3 bx3) Z E, fun σ3 H3 h => ⟨n, Nat.lt_succ_self n, h⟩, β2, δ', bx1, ev'.le l2, g2, ?_⟩
        cases hS : S δ' bx1 with
        | nx δ2 bx2 =>
          rw [hS] at o'
          exact fun β3 σ3 H4 l3 g3 ev3 => ⟨β3, δ2, bx2, (l.trans l2).trans l3, ev3, g3, OutS.le (l2.trans l3) o'⟩
        | rt e b =>
          rw [hS] at o'
          exact fun β3 v H4 l3 g3 r => o' β3 v H4 (l2.trans l3) g3 r
        | er c e b =>
          rw [hS] at o'
          exact OutE.le l2 o'
        | bad =>
          rw [hS] at o'
          exact o'
end
theorem while_rule {C : Fn Bool} {S : Sn} {N : List (Option D) → Sto → Prop} {Rt : D → Sto → Prop} {E : Str → D → Sto → Prop} (I : Nat → List (Option D) → Sto → Prop)
    (step : ∀ n δ bx, I n δ bx → W (C δ bx) (fun c bx1 => if c = true then ∃ m, n = m + 1 ∧ WS (S δ bx1) (I m) Rt E else N δ bx1) E) : ∀ (n k : Nat), n < k → ∀ δ bx, I n δ bx → WS (whL C S k δ bx) N Rt E := by
  intro n
  induction n with
  | zero =>
    intro k hk δ bx h
    obtain ⟨j, rfl⟩ : ∃ j, k = j + 1 := ⟨k - 1, by omega⟩
    have s := step 0 δ bx h
    simp only [whL]
    cases hC : C δ bx with
    | bad => rw [hC] at s; exact s
    | err c d b => rw [hC] at s; exact s
    | ok c bx1 =>
      rw [hC] at s
      replace s : if c = true then ∃ m, 0 = m + 1 ∧ WS (S δ bx1) (I m) Rt E else N δ bx1 := s
      cases c with
      | false => exact s
      | true =>
        rw [if_pos rfl] at s
        obtain ⟨m, e, _⟩ := s
        omega
  | succ n ih =>
    intro k hk δ bx h
    obtain ⟨j, rfl⟩ : ∃ j, k = j + 1 := ⟨k - 1, by omega⟩
    have s := step (n + 1) δ bx h
    simp only [whL]
    cases hC : C δ bx with
    | bad => rw [hC] at s; exact s
    | err c d b => rw [hC] at s; exact s
    | ok c bx1 =>
      rw [hC] at s
      replace s : if c = true then ∃ m, n + 1 = m + 1 ∧ WS (S δ bx1) (I m) Rt E else N δ bx1 := s
      cases c with
      | false => exact s
      | true =>
        rw [if_pos rfl] at s
        obtain ⟨m, e, s⟩ := s
        have e' : n = m := by omega
        subst e'
        dsimp only
        rw [if_pos rfl]
        cases hS : S δ bx1 with
        | nx δ2 bx2 =>
          rw [hS] at s
          exact ih j (by omega) δ2 bx2 s
        | rt e b => rw [hS] at s; exact s
        | er c e b => rw [hS] at s; exact s
        | bad => rw [hS] at s; exact s
theorem WS_wh {C : Fn Bool} {S : Sn} {δ : List (Option D)} {bx : Sto} {N : List (Option D) → Sto → Prop} {Rt : D → Sto → Prop} {E : Str → D → Sto → Prop} (I : Nat → List (Option D) → Sto → Prop) (n : Nat) (hn : n < 100000) (h0 : I n δ bx)
    (step : ∀ n δ bx, I n δ bx → W (C δ bx) (fun c bx1 => if c = true then ∃ m, n = m + 1 ∧ WS (S δ bx1) (I m) Rt E else N δ bx1) E) : WS (sWh C S δ bx) N Rt E := while_rule I step n _ hn δ bx h0
/-! ### name op= e, whole numbers -/
def sAug (i : Nat) (f : Int → Int → Int) (F : Fn D) : Sn := fun δ bx => match δ[i]? with
  | some (some (.int a)) => sOf F (fun d δ bx => match d with
      | .int b => .nx (δ.set i (some (.int (f a b)))) bx
      | _ => .bad) δ bx
  | _ => .bad
section
variable {X : Cx} {P : Pm} {E : XK} {pos : Pos}
theorem sd_aug {i : Nat} {x : Str} {e : Expr} {op : Operator} {f : Int → Int → Int} {F : Fn D} {pos' : Pos} (ho : PIp X op (ipI f)) (hN : X.N.Nodup) (hi : X.N[i]? = some x) (hx : Loc X.env.scope x) (he : ED X P E e F)
    (hf : X.fn x = true ∨ X.env.scope.names.lookup x = some .local := by first | exact .inl rfl | exact .inr rfl | assumption) : SD X P E (.AugAssign (.Name x pos') op e pos) (sAug i f F) := by
  refine ps_imp (ps_aug hN hi hx he ho hf) ?_
  rintro Z σ H ⟨β, δ, bx, ev, g, o⟩
  unfold sAug at o
  split at o
  · rename_i a hd
    obtain ⟨v, h1, r⟩ := ev.at_ i _ hd
    have := r.int_inv
    subst this
    refine ⟨.int a, h1, sd_bind ev g o fun β1 bx1 y d H1 l1 g1 r1 o1 => ?_⟩
    cases d with
    | int b =>
      have := r1.int_inv
      subst this
      exact ⟨a, b, rfl, rfl, o1 β1 _ H1 .refl g1 ((ev.le l1).set i (.int _))⟩
    | _ => exact (show False from o1).elim
  · exact (show False from o).elim
end
theorem WS_aug {i : Nat} {f : Int → Int → Int} {F : Fn D} {δ : List (Option D)} {bx : Sto} {N : List (Option D) → Sto → Prop} {Rt : D → Sto → Prop} {E : Str → D → Sto → Prop} : WS (sAug i f F δ bx) N Rt E ↔ ∃ a, δ[i]? = some (some (.int a)) ∧ W (F δ bx) (fun d bx' => ∃ b, d = .int b ∧ N (δ.set i (some (.int (f a b)))) bx') E := by
  unfold sAug
  constructor
  · intro h
    split at h
    · rename_i a ha
      refine ⟨a, ha, (WS_of.mp h).imp (fun d bx' q => ?_) fun _ _ _ q => q⟩
      cases d with
      | int b => exact ⟨b, rfl, q⟩
      | _ => exact (show False from q).elim
    · exact h.elim
  · rintro ⟨a, ha, h⟩
    simp only [ha]
    refine WS_of.mpr (h.imp (fun d bx' ⟨b, e, q⟩ => ?_) fun _ _ _ q => q)
    subst e
    exact q
/-! ### x in (a, b) -/
def inOk (d : D) : Bool := d.pure && SeqAt.shaped d.py && decide (d.py.depth ≤ 60)
def cInT (neg : Bool) (st : Sto) (d e : D) : Option D := match e with
  | .tup ds => if (inOk d && (D.tup ds).pure && SeqAt.shaped (D.tup ds).py) = true then some (.bl (if neg then !(ds.any fun z => PyData.eqv z.py d.py) else ds.any fun z => PyData.eqv z.py d.py)) else none
  | _ => none
theorem pyAll_any {q : PyData} : ∀ l : List D, (D.pyAll l).any (fun z => PyData.eqv z q) = l.any fun z => PyData.eqv z.py q
  | [] => rfl
  | d :: r => by simp only [D.pyAll, List.any_cons, pyAll_any r]
def rInT (K : PySem.W.Frag) (neg : Bool) : R2 := fun x y H Q => ∃ d ds, Dp K H x d ∧ Dp K H y (.tuple ds) ∧ SeqAt.shaped d = true ∧ d.depth ≤ 60 ∧ SeqAt.shaped (.tuple ds) = true ∧ Q (.bl (if neg then !(ds.any fun z => PyData.eqv z d) else ds.any fun z => PyData.eqv z d)) H
section
variable {X : Cx} {P : Pm} {E : XK} {pos : Pos} {a b : Expr} {F G : Fn D}
theorem op_inT (hu : X.A.units + 64 < cLine) : OpR X (compareOp .In) (rInT X.K false) := by
  intro pins s σ H x y v u Q I rx ry h
  obtain ⟨d, ds, hd, he, sd, dd, se, q⟩ := h
  obtain ⟨as, r1⟩ := Dp.reads I d x v hd rx
  obtain ⟨bs, r2⟩ := Dp.reads I (.tuple ds) y u he ry
  refine SeqAt.in_tuple_reads r2 r1 (SeqAt.canLay_of_shaped se) (SeqAt.canLay_of_shaped sd) ?_ ⟨.bl _, H, I, rfl, q⟩
  have := Nat.min_le_right (PyData.depthAll ds) d.depth
  omega
theorem op_notInT (hu : X.A.units + 64 < cLine) : OpR X (compareOp .NotIn) (rInT X.K true) := by
  intro pins s σ H x y v u Q I rx ry h
  obtain ⟨d, ds, hd, he, sd, dd, se, q⟩ := h
  obtain ⟨as, r1⟩ := Dp.reads I d x v hd rx
  obtain ⟨bs, r2⟩ := Dp.reads I (.tuple ds) y u he ry
  refine SeqAt.notIn_tuple_reads r2 r1 (SeqAt.canLay_of_shaped se) (SeqAt.canLay_of_shaped sd) ?_ ⟨.bl _, H, I, rfl, q⟩
  have := Nat.min_le_right (PyData.depthAll ds) d.depth
  omega
theorem opd_inT {neg : Bool} : OpD X P (rInT X.K neg) (cInT neg) := by
  intro β bx H x y d e z Q g rx ry h k
  unfold cInT at h
  split at h
  · rename_i ds
    split at h
    · rename_i hc
      cases h
      simp only [inOk, Bool.and_eq_true, decide_eq_true_eq] at hc
      refine ⟨d.py, D.pyAll ds, rx.dp hc.1.1.1.1, ry.dp hc.1.2, hc.1.1.1.2, hc.1.1.2, hc.2, ?_⟩
      rw [pyAll_any]
      exact k _ H .refl g (.bl _)
    · cases h
  · cases h
theorem ed_inT (hu : X.A.units + 64 < cLine) (ha : ED X P E a F) (hb : ED X P E b G) (hm : behindInMarks .In b = false := by rfl) : ED X P E (.Compare a [.In] [b] pos) (f2 (cInT false) F G) := ed_cmp (op_inT hu) opd_inT ha hb hm
end
/-! ### (a,) * n -/
def cRepT : Sto → D → D → Option D
  | _, .tup l, .int n => if l ≠ [] ∧ 2 ≤ n ∧ n ≤ 1000 ∧ l.length ≤ 1000 then some (.tup (List.replicate n.toNat l).flatten) else none
  | _, _, _ => none
theorem opd_repT {X : Cx} {P : Pm} : OpD X P (rRepT X.K) cRepT := by
  intro β bx H x y d e z Q g rx ry h k
  unfold cRepT at h
  split at h
  · rename_i l n
    split at h
    · rename_i hc
      cases h
      cases rx with
      | tup s ra =>
        have := ry.int_inv
        subst this
        refine ⟨_, n, _, rfl, rfl, s.sq, fun z => hc.1 (by
          subst z
          cases ra
          rfl), hc.2.1, hc.2.2.1, by rw [ra.length]; exact hc.2.2.2, fun p hp => k _ _ (.new hp) (g.new hp) (.tup ⟨.inl upd_same, g.ne hp⟩ ((RA.reps ra _).le (.new hp)))⟩
    · cases h
  · cases h
theorem ed_repT {X : Cx} {P : Pm} {E : XK} {pos : Pos} {a b : Expr} {F G : Fn D} (ha : ED X P E a F) (hb : ED X P E b G) : ED X P E (.BinOp a .Mult b pos) (f2 cRepT F G) := ed_bin op_repT opd_repT ha hb
/-! ### max(l, default=d) -/
def cMaxDf (st : Sto) (d e : D) : Option D := match (vl st d).bind toInts with
  | some (n :: r) => some (.int (r.foldl max n))
  | some [] => some e
  | none => none
theorem dp_ints {K : PySem.W.Frag} {H : Hp} : ∀ ns : List Int, DpAll K H (ns.map V.int) (ns.map PyData.int)
  | [] => .nil
  | n :: r => .cons (.int n) (dp_ints r)
theorem alike_ints (ns : List Int) : PySem.W.AlikeAll (ns.map PyData.int) := by
  refine ⟨fun x hx y hy => ?_, fun x hx => ?_⟩
  · obtain ⟨i, _, rfl⟩ := List.mem_map.mp hx
    obtain ⟨j, _, rfl⟩ := List.mem_map.mp hy
    rfl
  · obtain ⟨i, _, rfl⟩ := List.mem_map.mp hx
    exact fun z => by cases z
theorem pe_maxDf {X : Cx} {te td : TE} {e c : Expr} {p kp pos : Pos} (hu : X.A.units + 64 < cLine) (hg : Gl X "max") (hm : X.mg "max" = none) (hc : X.calm = true) (ha : PE X e te) (hd : PE X c td)
    (he : starEach [e] X.env = [(false, eval e X.env)] := by rfl) (hall : (backToKw pos (keywordEach [⟨some "default", c, kp⟩] X.env)).all (·.1.isSome) = true := by rfl)
    (hkw : (backToKw pos (keywordEach [⟨some "default", c, kp⟩] X.env)).any (·.1.isNone) = false := by rfl) (hplain : (backTo pos (starEach [e] X.env)).any (·.1) = false := by rfl) (hbt : backTo pos (starEach [e] X.env) = (false, eval e X.env) :: backTo pos (starEach [] X.env) := by rfl)
    (hfm : (backToKw pos (keywordEach [⟨some "default", c, kp⟩] X.env)).filterMap (·.1) = [("default" : Str)] := by rfl) :
    PE X (.Call (.Name "max" p) [e] [⟨some "default", c, kp⟩] pos) (fun σ H Q => te σ H fun x H1 => td σ H1 fun y H2 => ∃ (a : Addr) (ns : List Int), x = .ref a ∧ SqL X.K H2 a (ns.map V.int) ∧ (match ns with
      | n :: r => Q (.int (r.foldl max n)) H2
      | [] => Q y H2)) := by
  refine ⟨fun pins s σ H Q I h => ?_⟩
  refine wpAny_Call_Name_kw (ld_blt I hg hm b_max ?_ (by decide) (by decide))
  refine callWith_kw ?_ hbt hplain hall hkw
  rw [hbt]
  refine Calls.spliced_cons (thn (ha.run pins s σ H _ I h) fun u s1 ⟨x, H1, I1, rx, q1⟩ => Calls.spliced_nil ?_)
  refine kws_cons (thn (hd.run pins s1 σ H1 _ I1 q1) fun w s2 ⟨y, H2, I2, ry, a, ns, ex, hs, q2⟩ => kws_nil ?_)
  subst ex
  have eu : u = Value.ref a := rx
  subst eu
  rw [hfm]
  obtain ⟨its, rv, hl, _⟩ := I2.list hs
  obtain ⟨as, rs⟩ := Dp.readsAll I2 (ns.map PyData.int) _ its (dp_ints ns) rv
  refine PySem.W.max_list_default (vs := its.toArray) (xs := ns.map PyData.int) (I2.ok.hd hc) hl.isList rs (alike_ints ns) (by
    rw [PySem.W.ke_depthAll]
    omega) (fun e h' tk hk => ?_) fun z zs i v h' tk bs e hi r hk => ?_
  · have e' : ns = [] := List.map_eq_nil_iff.mp e
    subst e'
    exact ⟨y, H2, I2.kept hk, ry, q2⟩
  · cases ns with
    | nil => cases e
    | cons n t =>
      rw [List.map_cons] at e
      injection e with e1 e2
      subst e1 e2
      rw [PySem.W.maxD_ints] at r
      cases r
      exact ⟨.int _, H2, I2.kept hk, ⟨_, rfl⟩, q2⟩
theorem ed_maxDf {X : Cx} {P : Pm} {E : XK} {F G : Fn D} {e c : Expr} {p kp pos : Pos} (hu : X.A.units + 64 < cLine) (hc : X.calm = true) (hg : Gl X "max") (hm : X.mg "max" = none) (ha : ED X P E e F) (hd : ED X P E c G)
    (he : starEach [e] X.env = [(false, eval e X.env)] := by rfl) (hall : (backToKw pos (keywordEach [⟨some "default", c, kp⟩] X.env)).all (·.1.isSome) = true := by rfl)
    (hkw : (backToKw pos (keywordEach [⟨some "default", c, kp⟩] X.env)).any (·.1.isNone) = false := by rfl) (hplain : (backTo pos (starEach [e] X.env)).any (·.1) = false := by rfl) (hbt : backTo pos (starEach [e] X.env) = (false, eval e X.env) :: backTo pos (starEach [] X.env) := by rfl)
    (hfm : (backToKw pos (keywordEach [⟨some "default", c, kp⟩] X.env)).filterMap (·.1) = [("default" : Str)] := by rfl) : ED X P E (.Call (.Name "max" p) [e] [⟨some "default", c, kp⟩] pos) (f2 cMaxDf F G) := by
  refine pe_imp (pe_maxDf hu hg hm hc ha hd he hall hkw hplain hbt hfm) ?_
  rintro σ H Q ⟨β, δ, bx, ev, g, o⟩
  refine at_bind ev g o fun β1 bx1 x d H1 l1 g1 r1 o1 => at_bind (ev.le l1) g1 o1 fun β2 bx2 y e H2 l2 g2 r2 o2 => ?_
  cases hf : cMaxDf bx2 d e with
  | none =>
    rw [hf] at o2
    exact (show False from o2).elim
  | some z =>
    rw [hf] at o2
    unfold cMaxDf at hf
    cases hn : (vl bx2 d).bind toInts with
    | none => rw [hn] at hf; cases hf
    | some ns =>
      rw [hn] at hf
      obtain ⟨a, rfl, s⟩ := cd_ints g2 (r1.le l2) hn
      refine ⟨a, ns, rfl, s, ?_⟩
      cases ns with
      | nil =>
        cases hf
        exact o2 β2 y H2 .refl g2 r2
      | cons n t =>
        cases hf
        exact o2 β2 _ H2 .refl g2 (.int _)
/-! ### {}.get(k) -/
theorem ed_get0 {X : Cx} {P : Pm} {E : XK} {n : Int} {x : Nat} {kp dp apos cpos : Pos} (hu : X.A.units + 64 < cLine) (m : M1 X (.Dict [] [] dp) "get" apos (.Constant (.int n) x kp) cpos) : ED X P E (.Call (.Attribute (.Dict [] [] dp) "get" apos) [.Constant (.int n) x kp] [] cpos) (pur .non) := by
  refine pe_imp (pe_dget1 (by omega) pe_dnewK (pe_int (i := n)) m) ?_
  rintro σ H Q ⟨β, δ, bx, ev, g, o⟩
  intro p hp
  refine ⟨p, rfl, .inl ⟨[], .inl upd_same⟩, ?_⟩
  refine ⟨none, .inl ⟨[], .inl n, .inl upd_same, rfl, rfl⟩, ?_⟩
  exact o β _ _ (.new hp) (g.new hp) .non
end Ms

end
section
set_option Elab.async false
set_option linter.all false
set_option maxRecDepth 100000
set_option maxHeartbeats 4000000
/-! try: ask() except Refused as fault: return (repr(fault.at), isinstance(fault, WreckError)), and: return None -/
namespace Ms
open PySem PySem.Spec PyProof.Rows L2
def ERef (K : PySem.W.Frag) (CR : Addr) (Q : VK) : XK := fun cls d H' => cls = .ref CR ∧ ∃ dd v pd, d = some dd ∧ H' dd = some (.xd [(("at" : Str), v)]) ∧ Dp K H' v pd ∧ pd.showable = true ∧ pd.hasDict = false ∧ pd.depth ≤ 60 ∧ pd.shown.length ≤ sizeLine ∧
  ∀ p, H' p = none → Q (.ref p) (upd H' p (.tup [.str pd.shown, .bl true]))
def VRef (Q : VK) : VK := fun _ H' => Q .non H'
def TTRef (K : PySem.W.Frag) (CR : Addr) : (XK → Hp → VK → Prop) → Hp → VK → Prop := fun tl H Q => tl (ERef K CR Q) H (VRef Q)
def hResN : Res D → Res D
  | .ok _ bx => .ok .non bx
  | .err c d bx => if c = "Refused" then (if showOk d = true then .ok (.tup [.str d.py.shown, .bl true]) bx else .bad) else .bad
  | .bad => .bad
theorem refused_gives {X : Cx} {x q qn : Str} {sg : Scope} {g CR B fI : Addr} {cdg : Value} {k : Nat} {j1 k2 : Nat} {p1 p2 p3 p4 p5 p6 p7 p8 p9 q1 q2 q3 q4 q5 q6 q7 q8 q9 : Pos}
    (hga : X.A.guards = some []) (hr : Room (k + 2) X.A) (T : PySem.RefX.LowTxt "Refused" qn X.K X.mg CR fI) (hne : CR ≠ B) (hk : PySem.W.kitOne X.K (.ref CR) (.ref B) = some true) (gB : X.mg "WreckError" = some (.ref B)) (gr : X.mg "repr" = none) (gi : X.mg "isinstance" = none)
    (s1 : sg.names.lookup ("Refused" : Str) = some .globalImplicit) (s2 : sg.names.lookup ("repr" : Str) = some .globalImplicit) (s3 : sg.names.lookup ("isinstance" : Str) = some .globalImplicit) (s4 : sg.names.lookup ("WreckError" : Str) = some .globalImplicit) (s5 : sg.names.lookup ("fault" : Str) = some .local) :
    LamX.GivesTo X ["_law_ask", "fault"] x sg g cdg [.Try [.Expr (.Call (.Name "_law_ask" p1) [] [] p2) p4]
      [.ExceptHandler (some (.Name "Refused" p5)) (some "fault") [.Return (some (.Tuple [.Call (.Name "repr" p7) [.Attribute (.Name "fault" p8) "at" p9] [] q1, .Call (.Name "isinstance" q2) [.Name "fault" q3, .Name "WreckError" q4] [] q5] k2 q6)) q7] q8] [] [] q9, .Return (some (.Constant .none j1 p3)) p6] "_law_ask" q (TTRef X.K CR) := by
  intro f c' s H Q tl act hc h
  have hga' : (X.A.deeper (envOfC x sg s.heap.objs.size g cdg)).guards = some [] := hga
  have hr' : Room (k + 1) (X.A.deeper (envOfC x sg s.heap.objs.size g cdg)) := hr.deeper _
  refine ⟨_, pss_cons (ps_try_as (X := (cxOf C8.CX0 X.prog X.w X.K X.mg X.base ["_law_ask", "fault"] x sg g cdg X.A X.stack s H C8.E0).nox) (i := 1) (c := .ref CR) (Wout := fun _ _ _ _ => False)
      (tb := fun W D σ H => ∃ Ech : XK, (∀ cls d σ' H', Ech cls d H' → σ'.length = 2 → W cls d σ' H') ∧ σ[0]? = some (some (.ref f)) ∧ H c' = some (LamX.CodeO c' q) ∧ tl Ech H fun v H' => D.nx σ H')
      rfl rfl nd_heard rfl s5 ⟨s1, by decide, .inl T.gC⟩ LamX.takes0 (fun W pn xe tk _ => ?_) (fun a oe cls d pn hz hf => pss_one (ps_ret (pe_tup (pa_cons
        (pe_callB (show CallR (((cxOf C8.CX0 X.prog X.w X.K X.mg X.base ["_law_ask", "fault"] x sg g cdg X.A X.stack s H C8.E0).nox).suite a ((a, oe) :: pn)) (.builtin "repr") (rRepr X.K) from call_repr (X := ((cxOf C8.CX0 X.prog X.w X.K X.mg X.base ["_law_ask", "fault"] x sg g cdg X.A X.stack s H C8.E0).nox).suite a ((a, oe) :: pn)) hga' hr'.units) (by exact s2) (by exact gr) b_repr (pa_cons (pe_byLow (X := (cxOf C8.CX0 X.prog X.w X.K X.mg X.base ["_law_ask", "fault"] x sg g cdg X.A X.stack s H C8.E0).nox) T hz hf (pv 1 rfl (.inl s5))) pa_nil))
        (pa_cons (pe_callB (call_isX (X := (cxOf C8.CX0 X.prog X.w X.K X.mg X.base ["_law_ask", "fault"] x sg g cdg X.A X.stack s H C8.E0).nox) hz hf hne hk) (by exact s3) (by exact gi) b_isinstance (pa_cons (pv 1 rfl (.inl s5)) (pa_cons (pe_glob (v := .ref B) (by exact s4) (by exact gB) rfl) pa_nil))) pa_nil)))))) (pss_one (ps_ret pe_non)), ?_⟩
  · refine ⟨fun pins s' σ H' D I h' => ?_⟩
    obtain ⟨Ech, hW, h1, h2, h3⟩ := h'
    have hp := act _ pn xe Ech p1 p2 (takes_len tk) fun cls d σ' H' he hl => hW cls d σ' H' he hl
    exact (pss_one (ps_expr (pos := p4) hp)).run pins s' σ H' D I ⟨h1, h2, h3⟩
  · refine ⟨ERef X.K CR Q, fun cls d σ' H' ⟨e1, dd, v, pd, e2, e3, e4, e5, e6, e7, e8, e9⟩ hl => ⟨true, ?_, fun _ a ha => ?_, fun z => nomatch z⟩, rfl, hc, h⟩
    · rw [e1]
      exact T.te
    · rw [e1]
      have h1 : (σ'.set 1 (some (V.ref a)))[1]? = some (some (V.ref a)) := List.getElem?_set_self (by omega)
      refine ⟨.ref a, h1, rfl, rfl, dd, v, e2, e3, v, pd, rfl, e4, e5, e6, e7, e8, .ref a, h1, rfl, rfl, ⟨dd, _, e2, e3⟩, le1000 (by show 2 ≤ 1000; omega), e9⟩
theorem hresN_of {K : PySem.W.Frag} {P : Pm} {E : XK} {β : Mu} {H : Hp} {r : Res D} {Q : VK} (h : Out K P β H (hResN r) Q E) : Out K P β H r (VRef Q) (ERef K (P.CR "Refused") Q) := by
  cases r with
  | ok d bx' => exact fun β' v H' l' g' r => h β' .non H' l' g' .non
  | err c d bx' =>
    have o' : Out K P β H (if c = "Refused" then (if showOk d = true then .ok (.tup [.str d.py.shown, .bl true]) bx' else .bad) else .bad) Q E := h
    split at o'
    · rename_i hcn
      subst hcn
      split at o'
      · rename_i hs
        unfold showOk at hs
        simp only [Bool.and_eq_true, decide_eq_true_eq] at hs
        exact fun β' a v H' l' g' hx r => ⟨rfl, a, v, d.py, rfl, hx, r.dp hs.1.1.1, hs.1.1.2, d.noDict, hs.1.2, hs.2, fun p hp => o' _ _ _ (l'.trans (.new hp)) (g'.new hp) (.tup ⟨.inl upd_same, g'.ne hp⟩ (.cons (.str _) (.cons (.bl _) .nil)))⟩
      · exact o'.elim
    · exact o'.elim
  | bad => exact h.elim
/-! ### [x] * n, to grow or change -/
def fRepM (F G : Fn D) : Fn D := bnd F fun d => bnd G fun e => fun _ bx => match cRep bx d e with
  | some (.lst l) => .ok (.ref bx.length) (bx ++ [.lst l])
  | _ => .bad
theorem ed_repM {X : Cx} {P : Pm} {E : XK} {pos : Pos} {a b : Expr} {F G : Fn D} (ha : ED X P E a F) (hb : ED X P E b G) : ED X P E (.BinOp a .Mult b pos) (fRepM F G) := by
  refine pe_imp (pe_op op_rep ha hb) ?_
  rintro σ H Q ⟨β, δ, bx, ev, g, o⟩
  refine at_bind ev g o fun β1 bx1 x d H1 l1 g1 r1 o1 => at_bind (ev.le l1) g1 o1 fun β2 bx2 y e H2 l2 g2 r2 o2 => ?_
  have rx := r1.le l2
  split at o2
  · rename_i l hl
    unfold cRep at hl
    split at hl
    · rename_i kk n
      split at hl
      · rename_i m hm
        split at hl
        · rename_i hb
          cases hl
          obtain ⟨c, xs, rfl, hk, hH, ra⟩ := rx.live g2 hm
          refine ⟨c, n, xs, rfl, r2.int_inv, hH, hb.1, hb.2.1, by rw [ra.length]; exact leM hb.2.2, fun p hp => ?_⟩
          exact o2 _ _ _ (.cell hp) (g2.cell hp (ra.reps _)) (.cell g2.ln)
        · cases hl
      · cases hl
    · cases hl
  · exact (show False from o2).elim
theorem W_repM {F G : Fn D} {δ : List (Option D)} {bx : Sto} {Q : D → Sto → Prop} {E : Str → D → Sto → Prop} : W (fRepM F G δ bx) Q E ↔ W (F δ bx) (fun d bx' => W (G δ bx') (fun e bx'' => ∃ l, cRep bx'' d e = some (.lst l) ∧ Q (.ref bx''.length) (bx'' ++ [.lst l])) E) E := by
  unfold fRepM
  rw [W_bnd]
  refine iff_of_eq (congrArg (fun k => W (F δ bx) k E) (funext fun d => funext fun bx' => propext ?_))
  rw [W_bnd]
  refine iff_of_eq (congrArg (fun k => W (G δ bx') k E) (funext fun e => funext fun bx'' => propext ?_))
  constructor
  · intro h
    split at h
    · exact ⟨_, by assumption, h⟩
    · exact h.elim
  · rintro ⟨l, h1, h2⟩
    simp only [h1]
    exact h2
theorem et_inT {X : Cx} {P : Pm} {E : XK} {pos : Pos} {a b : Expr} {F G : Fn D} (hu : X.A.units + 64 < cLine) (ha : ED X P E a F) (hb : ED X P E b G) (hm : behindInMarks .In b = false := by rfl) : ET X P E (.Compare a [.In] [b] pos) (fB (f2 (cInT false) F G)) := et_cmp (op_inT hu) opd_inT ha hb hm
theorem b_str : bootBuiltins ("str" : Str) = some (.type "str") := by decide +kernel
end Ms

end
section
set_option Elab.async false
set_option linter.all false
set_option maxRecDepth 100000
set_option maxHeartbeats 4000000
/-! all(.. for .. in x), x a list that may still change (and does not while it is walked). -/
namespace Ms
open PySem PySem.Spec PyProof.Rows L2
open Classical
noncomputable def allGoR (k : Nat) (l0 : List D) (b : Bd) (δ : List (Option D)) (F : Fn D) : List D → Sto → Res D
  | [], bx => if bx[k]? = some (.lst l0) then .ok (.bl true) bx else .bad
  | d :: r, bx => if bx[k]? = some (.lst l0) then (match b bx δ d with
    | none => .bad
    | some δ1 => match F δ1 bx with
      | .ok (.bl true) bx1 => allGoR k l0 b δ F r bx1
      | .ok (.bl false) bx1 => .ok (.bl false) bx1
      | _ => .bad) else .bad
noncomputable def fAllGS (is : List Nat) (b : Bd) (F0 : Fn D) (F : Fn D) : Fn D := bnd F0 fun d => fun δ bx => match d with
  | .ref k => (match bx[k]? with
    | some (.lst l) => allGoR k l b (unset is δ) F l bx
    | _ => .bad)
  | d => (match wlk d with
    | some ds => allGo b (unset is δ) F ds bx
    | none => .bad)
theorem cell_live {K : PySem.W.Frag} {T : Tb} {β β' : Mu} {st : Sto} {H H' : Hp} {k : Nat} {a : Addr} {c : Bool} {l : List D} (h : β.cs[k]? = some (a, c)) (le : Le β H β' H') (g : Good K T β' st H') (e : st[k]? = some (.lst l)) : ∃ xs, H' a = some (.lst xs) ∧ RA K β' H' xs l := by
  obtain ⟨b', h1, _⟩ := le.cs k a c h
  obtain ⟨cl, h2, h3⟩ := g.cs k a b' h1
  rw [e] at h2
  cases h2
  obtain ⟨_, xs, h4, h5⟩ := h3
  exact ⟨xs, h4, h5⟩
theorem tAllS_of {K : PySem.W.Frag} {P : Pm} {E : XK} {t : TG} {is : List Nat} {b : Bd} {F0 : Fn D} {F : Fn D} (hgd : GD K t is b) : ∀ σ H Q, tD K P E (fAllGS is b F0 F) σ H Q → GenZ.tAllG P.T.tb (iAny K (tD K P E F0)) t (tD K P E F) is σ H Q := by
  rintro σ H Q ⟨β, δ, bx, ev, g, o⟩
  cases hF : F0 δ bx with
  | bad =>
    unfold fAllGS bnd at o
    rw [hF] at o
    exact o.elim
  | err c d bx' =>
    unfold fAllGS bnd at o
    rw [hF] at o
    exact ⟨β, δ, bx, ev, g, by rw [hF]; exact o⟩
  | ok d bx1 =>
    by_cases hd : ∃ k, d = .ref k
    · obtain ⟨k, rfl⟩ := hd
      have o2 := o.x
      unfold fAllGS bnd at o2
      rw [hF] at o2
      dsimp only at o2
      refine ⟨β, δ, bx, ev, g, ?_⟩
      rw [hF]
      intro β1 v H1 l1 g1 r1
      cases r1 with
      | ref hk =>
        rename_i a c
        cases hc : bx1[k]? with
        | none => rw [hc] at o2; exact (show False from o2).elim
        | some cl =>
          cases cl with
          | dead => rw [hc] at o2; exact (show False from o2).elim
          | lam n => rw [hc] at o2; exact (show False from o2).elim
          | lst l =>
            rw [hc] at o2
            dsimp only at o2
            have o3 := o2.le l1
            obtain ⟨xs, hx, ra⟩ := cell_live hk .refl g1 hc
            refine .inl ⟨a, rfl, ⟨xs, .inl (.inl hx)⟩, ?_⟩
            refine ⟨g1.tb, fun H2 x t2 => ?_⟩
            have lx : Le β1 H1 β1 H2 := .ext x
            refine ⟨fun i m Hc => m = l.length - i ∧ i ≤ l.length ∧ ∃ βi bx', Le β1 H1 βi Hc ∧ Ev K βi Hc (wipe σ is) (Ms.unset is δ) ∧ Good K P.T βi bx' Hc ∧ OutX P K β1 H1 (allGoR k l b (Ms.unset is δ) F (l.drop i) bx') E fun d β' _ H' => ∀ v, R K β' H' v d → Q v H',
              ⟨l.length, rfl, Nat.zero_le _, β1, bx1, lx, ((ev.le l1).le lx).unset is, g1.extN x t2, by simpa using o3⟩, ?_⟩
            rintro i m Hi ⟨rfl, hi, βi, bx', li, evi, gi, oi⟩
            by_cases hlt : i < l.length
            · rw [List.drop_eq_getElem_cons hlt] at oi
              simp only [allGoR] at oi
              by_cases hq : bx'[k]? = some (.lst l)
              · rw [if_pos hq] at oi
                obtain ⟨ys, hy, rb⟩ := cell_live hk li gi hq
                have hyl : i < ys.length := by rw [rb.length]; exact hlt
                refine .inr ⟨⟨ys, ys[i], .inl (.inl hy), by simp⟩, l.length - (i + 1), by omega, fun Hc => ∃ βi bx', Le β1 H1 βi Hc ∧ Ev K βi Hc (wipe σ is) (Ms.unset is δ) ∧ Good K P.T βi bx' Hc ∧ OutX P K β1 H1 (allGoR k l b (Ms.unset is δ) F (l.drop (i + 1)) bx') E fun d β' _ H' => ∀ v, R K β' H' v d → Q v H',
                  fun H2 h => ⟨l.length - (i + 1), Nat.le_refl _, rfl, hlt, h⟩, fun x H2 y => ?_⟩
                obtain ⟨rfl, hx2⟩ := y
                obtain ⟨w, e1, rw'⟩ := rb.get (List.getElem?_eq_getElem hlt)
                have := hx2 ys (.inl (.inl hy))
                rw [e1] at this
                cases this
                cases hbd : b bx' (Ms.unset is δ) l[i] with
                | none =>
                  rw [hbd] at oi
                  exact oi.elim
                | some δ1 =>
                  rw [hbd] at oi
                  dsimp only at oi
                  refine hgd P.T βi bx' _ δ1 _ _ _ _ _ evi gi rw' hbd fun σ3 ev3 hw => ?_
                  refine ⟨(hw is fun _ h => h).trans (wipe_wipe σ is), βi, δ1, bx', ev3, gi, ?_⟩
                  cases hE : F δ1 bx' with
                  | bad =>
                    rw [hE] at oi
                    exact oi
                  | err c d b =>
                    rw [hE] at oi
                    exact oi.elim
                  | ok d bx3 =>
                    rw [hE] at oi
                    intro β4 y H4 l4 g4 ry
                    cases d with
                    | bl c =>
                      cases c with
                      | true => exact ⟨true, ry.bl_inv, fun _ => ⟨β4, bx3, li.trans l4, evi.le l4, g4, oi⟩, fun z => nomatch z⟩
                      | false => exact ⟨false, ry.bl_inv, (fun z => nomatch z), fun _ => oi β4 H4 (li.trans l4) g4 _ (.bl false)⟩
                    | _ => exact oi.elim
              · rw [if_neg hq] at oi
                exact oi.elim
            · have e : i = l.length := by omega
              subst e
              rw [List.drop_length] at oi
              simp only [allGoR] at oi
              by_cases hq : bx'[k]? = some (.lst l)
              · rw [if_pos hq] at oi
                obtain ⟨ys, hy, rb⟩ := cell_live hk li gi hq
                exact .inl ⟨⟨ys, .inl (.inl hy), by rw [rb.length]; exact Nat.le_refl _⟩, oi βi Hi li gi _ (.bl true)⟩
              · rw [if_neg hq] at oi
                exact oi.elim
    · have e : fAllGS is b F0 F δ bx = fAllG is b (fWk F0) F δ bx := by
        unfold fAllGS fAllG fWk bnd
        rw [hF]
        dsimp only
        cases d with
        | ref k => exact (hd ⟨k, rfl⟩).elim
        | _ => first | rfl | (simp only [lft, wlk]) 
      have h : tD K P E (fAllG is b (fWk F0) F) σ H Q := ⟨β, δ, bx, ev, g, by rw [← e]; exact o⟩
      exact ei_any_imp (tAll_of hgd σ H Q h)
end Ms
namespace Ms
open PySem PySem.Spec PyProof.Rows L2
open Classical
section
variable {X : Cx} {elt tg iter : Expr} {scope : Scope} {own : List (Str × Nat)} {P : Pm} {E : XK} {c Pt : Addr} {p pos gpos : Pos} {t : TG} {b : Bd} {F0 F : Fn D} {k : Nat}
theorem ed_allGS (hr : Room (k + 2) X.A) (hc : X.calm = true) (hN : X.N.Nodup) (hg : Gl X "all") (hm : X.mg "all" = none) (hb : bootBuiltins "all" = some (.builtin "all")) (TB : LamX.TabB X.base X.mg c Pt) (hcode : X.env.code = .ref c)
    (hmT : (Pt, X.env.qual ++ "<genexpr>") ∈ P.T.tb) (hu : ∀ p ∈ P.T.tb, p.1 = Pt → p.2 = X.env.qual ++ "<genexpr>") (hi : ED X P E iter F0) (ok : BlkOk X.N X.env.scope scope own) (G : GenZ.GnOk X.env.scope scope) (hgd : GD X.K t (own.map (·.2)) b)
    (hpg : ∀ A s H C code fp pn, Room k A → PG (GenZ.gnx X A s H (GenZ.gEnv X scope C code) fp pn) tg t) (hpe : ∀ A s H C code fp pn, Room k A → ED (GenZ.gnx X A s H (GenZ.gEnv X scope C code) fp pn) P E elt F) (hs : ∀ v, genFold iter X.env v = pure v)
    (he : starEach [.GeneratorExp elt [⟨tg, iter, [], 0⟩] scope gpos] X.env = (false, eval (.GeneratorExp elt [⟨tg, iter, [], 0⟩] scope gpos) X.env) :: starEach [] X.env := by rfl) :
    ED X P E (.Call (.Name "all" p) [.GeneratorExp elt [⟨tg, iter, [], 0⟩] scope gpos] [] pos) (fAllGS (own.map (·.2)) b F0 F) :=
  pe_imp (GenZ.pe_allG hr hc hN hg hm hb TB hcode hmT hu (pi_any hi) ok G hpg hpe hs he) (tAllS_of hgd)
end
theorem W_allGS {is : List Nat} {b : Bd} {F0 F : Fn D} {δ : List (Option D)} {bx : Sto} {Q : D → Sto → Prop} {E : Str → D → Sto → Prop} : W (fAllGS is b F0 F δ bx) Q E ↔ W (F0 δ bx) (fun d bx' => W (match d with
  | .ref k => (match bx'[k]? with
    | some (.lst l) => allGoR k l b (unset is δ) F l bx'
    | _ => .bad)
  | d => (match wlk d with
    | some ds => allGo b (unset is δ) F ds bx'
    | none => .bad)) Q E) E := W_bnd
theorem allR_pure {k : Nat} {l0 : List D} {b : Bd} {F : Fn D} {p : D → Bool} {δ : List (Option D)} {bx : Sto} (hk : bx[k]? = some (.lst l0)) : ∀ {ds : List D}, (∀ d ∈ ds, ∃ δ1, b bx δ d = some δ1 ∧ F δ1 bx = .ok (.bl (p d)) bx) → allGoR k l0 b δ F ds bx = .ok (.bl (ds.all p)) bx
  | [], _ => by simp [allGoR, hk]
  | d :: r, h => by
    obtain ⟨δ1, e, h1⟩ := h d List.mem_cons_self
    have ih := allR_pure (p := p) (b := b) (F := F) (δ := δ) hk (ds := r) fun d hd => h d (List.mem_cons_of_mem _ hd)
    simp only [allGoR, if_pos hk, e, h1]
    cases hc : p d with
    | true => simp only []; rw [ih, List.all_cons, hc, Bool.true_and]
    | false => simp only []; rw [List.all_cons, hc, Bool.false_and]
/-! ### a, b, c = x, y, z -/
def sPar3 (i j l : Nat) (A : Fn (List D)) : Sn := sOf A fun ds δ bx => match ds with
  | [d, e, f] => .nx (((δ.set i (some d)).set j (some e)).set l (some f)) bx
  | _ => .bad
theorem RA.three {K : PySem.W.Frag} {β : Mu} {H : Hp} {xs : List V} {d e f : D} (r : RA K β H xs [d, e, f]) : ∃ u v w, xs = [u, v, w] ∧ R K β H u d ∧ R K β H v e ∧ R K β H w f := by
  cases r with
  | cons a b =>
    obtain ⟨v, w, rfl, h1, h2⟩ := b.two
    exact ⟨_, v, w, rfl, a, h1, h2⟩
theorem sd_par3 {X : Cx} {P : Pm} {E : XK} {pos : Pos} {a b c : Expr} {A : Fn (List D)} (i j l : Nat) {x y z : Str} {px py pz pt : Pos} {kt k2 pt2} (hc : X.calm = true) (hN : X.N.Nodup) (hi : X.N[i]? = some x) (hj : X.N[j]? = some y) (hl : X.N[l]? = some z) (hij : i ≠ j) (hil : i ≠ l) (hjl : j ≠ l)
    (hx : X.env.scope.names.lookup x = some .local) (hy : X.env.scope.names.lookup y = some .local) (hz : X.env.scope.names.lookup z = some .local) (ha : EA X P E [a, b, c] A)
    (hw : swappedStores [.Tuple [.Name x px, .Name y py, .Name z pz] kt pt] (.Tuple [a, b, c] k2 pt2) X.env = pure (some [x, y, z]))
    (hs : swapsWithSole [.Tuple [.Name x px, .Name y py, .Name z pz] kt pt] (.Tuple [a, b, c] k2 pt2) pos.line X.env = pure false := by rfl) :
    SD X P E (.Assign [.Tuple [.Name x px, .Name y py, .Name z pz] kt pt] (.Tuple [a, b, c] k2 pt2) pos) (sPar3 i j l A) := by
  refine ps_imp (ps_par3 hc hN hi hj hl hij hil hjl hx hy hz ha hw hs) ?_
  rintro Z σ H ⟨β, δ, bx, ev, g, o⟩
  refine sa_bind ev g o fun β1 bx' x ds H1 l1 g1 r1 o1 => ?_
  split at o1
  · obtain ⟨u, v, w, rfl, h1, h2, h3⟩ := RA.three r1
    exact ⟨u, v, w, rfl, o1 _ _ H1 .refl g1 ((((ev.le l1).set i h1).set j h2).set l h3)⟩
  · exact o1.elim
theorem WS_par3 {i j l : Nat} {A : Fn (List D)} {δ : List (Option D)} {bx : Sto} {N : List (Option D) → Sto → Prop} {Rt : D → Sto → Prop} {E : Str → D → Sto → Prop} : WS (sPar3 i j l A δ bx) N Rt E ↔ W (A δ bx) (fun ds bx' => ∃ d e f, ds = [d, e, f] ∧ N (((δ.set i (some d)).set j (some e)).set l (some f)) bx') E := by
  unfold sPar3
  rw [WS_of]
  refine iff_of_eq (congrArg (fun k => W (A δ bx) k E) (funext fun ds => funext fun bx' => propext ?_))
  match ds with
  | [d, e, f] => exact ⟨fun h => ⟨d, e, f, rfl, h⟩, fun ⟨_, _, _, e, h⟩ => by cases e; exact h⟩
  | [] => exact ⟨fun h => h.elim, fun ⟨_, _, _, e, _⟩ => (nomatch e)⟩
  | [_] => exact ⟨fun h => h.elim, fun ⟨_, _, _, e, _⟩ => (nomatch e)⟩
  | [_, _] => exact ⟨fun h => h.elim, fun ⟨_, _, _, e, _⟩ => (nomatch e)⟩
  | _ :: _ :: _ :: _ :: _ => exact ⟨fun h => h.elim, fun ⟨_, _, _, e, _⟩ => (nomatch e)⟩
end Ms

end
section
set_option linter.all false
set_option maxRecDepth 100000
set_option maxHeartbeats 4000000
/-! pow(i, n, m) of whole numbers, n from 0 on, m above 1. -/
namespace Ms
open PySem PySem.Calls PyProof.Rows
theorem boot_pow : bootBuiltins "pow" = some (.builtin "pow") := by decide +kernel
theorem kind_pow : builtinKind "pow" = none := by decide +kernel
theorem plain_pow : plainId "pow" = true := by decide +kernel
theorem entry_pow : entryFor table "pow" = some Builtin.«pow» := entryFor_of_fast (by kernel_rfl)
theorem args_pow3 (a b c : Value) : argsOk "pow" ⟨[a, b, c], []⟩ := by unfold argsOk; kernel_rfl
theorem args_int_pow3 (a b c : Value) : argsOk "int.__pow__" ⟨[a, b, c], []⟩ := by unfold argsOk; kernel_rfl
theorem bind_pow (a b c : Value) : Builtin.Builtins.bindParams "pow" ["base", "exp", "mod"] 2 ⟨[a, b, c], []⟩ = pure [some a, some b, some c] := rfl
section
variable {prog : Program} {w : World} {A : Around} {E : Value → Shared → Prop} {s : Shared} {a n m : Int} {t u v : Tok} {Q : Value → Shared → Prop}
def powR (a n m : Int) : Int := (Builtin.powMod (a % m).toNat n.natAbs m.natAbs : Nat)
theorem int_pow3 (hn : 0 ≤ n) (hm : 1 < m) (h : ∀ u tk, Q (.int (powR a n m) u) { s with toks := tk }) :
    wpAny (model prog w) A (call (.builtin "int.__pow__") [.int a t, .int n u, .int m v]) (fun v s' => v ≠ .notImplemented ∧ Q v s') E s := by
  refine wpAny_call_entry slot_int_pow (typeIs_int s a t) entry_int_pow ?_ (args_int_pow3 _ _ _)
  have h1 : (m == 0) = false := beq_eq_false_iff_ne.mpr (by omega)
  have h2 : (m.natAbs == 1) = false := beq_eq_false_iff_ne.mpr (by omega)
  have h3 : ¬ n < 0 := by omega
  have h4 : ¬ m < 0 := by omega
  wp_walk
  have e : ((m.natAbs : Nat) : Int) = m := by omega
  refine ⟨_, rfl, (fun z => by cases z), ?_⟩
  rw [decide_eq_false h4, Bool.false_and, if_neg (by decide), e]
  exact h _ _
theorem call_pow3 (hn : 0 ≤ n) (hm : 1 < m) (h : ∀ u tk, Q (.int (powR a n m) u) { s with toks := tk }) :
    wpAny (model prog w) A (call (.builtin "pow") [.int a t, .int n u, .int m v]) Q E s := by
  refine call_function_entry kind_pow plain_pow entry_pow (args_pow3 _ _ _) ?_
  unfold Builtin.«pow»
  refine wpAny_bind (wpAny_of_eq (bind_pow _ _ _) ?_)
  have ty := typeIs_int s a t
  wp_walk
  have sl : Slot "int" (Str.ofString "__pow__") "int.__pow__" := slot_int_pow
  refine wpAny_of_eq sl.lookup ?_
  show wpAny (model prog w) A.in1 (callSpecial? (.int a t) (Str.ofString "__pow__") [.int n u, .int m v] >>= _) _ E s
  refine wpAny_bind (wpAny_callSpecial?_slot (name := Str.ofString "__pow__") ty sl ?_)
  refine wpAny_mono (int_pow3 (Q := Q) hn hm h) (fun r s' ⟨ne, q⟩ => ?_) (fun _ _ z => z)
  have e : (r != Value.notImplemented) = true := bne_iff_ne.mpr ne
  show wpAny (model prog w) A.in1 (if (r != Value.notImplemented) = true then ret r else _) _ E s'
  rw [if_pos e]
  exact wpAny_pure ⟨_, rfl, q⟩
end
end Ms

end
section
/-! Cells modulo 257: a value told by others by weights (the program's way) and by known parts one behind another (the law's way) are the same. For k23, k24, k25. No kit is imported. -/
set_option linter.all false
namespace Poly
/-- whole numbers side by side, multiplied and summed -/
def dot : List Int → List Int → Int
  | a :: r, b :: s => a * b + dot r s
  | _, _ => 0
/-- the power that undoes a multiplication -/
def inv (a : Int) : Int := a ^ 255 % 257
/-! ### the program's way -/
def tb (at_ one : Int) : List Int → Int × Int → Int × Int
  | [], p => p
  | o :: r, p => tb at_ one r (if o = one then p else (p.1 * (at_ - o) % 257, p.2 * (one - o) % 257))
def share (S : List Int) (at_ one : Int) : Int := let p := tb at_ one S (1, 1); p.1 * inv p.2 % 257
def shares (S : List Int) (at_ : Int) : List Int := S.map (share S at_)
def wts (S : List Int) (at_ : Int) : List Int := if at_ ∈ S then S.map fun x => if x = at_ then 1 else 0 else shares S at_
/-! ### the law's way -/
def lp (x : Int) : List Int → List Int → Int × Int → Int × Int
  | k :: ks, y :: ys, p => lp x ks ys (p.1 + k * p.2, p.2 * (x - y) % 257)
  | _, _, p => p
def knowns (xs : List Int) : List (Int × Int) → List Int → List Int
  | [], known => known
  | (x, v) :: r, known => let p := lp x known xs (0, 1); knowns xs r (known ++ [(v - p.1) * inv p.2 % 257])
def newton (pts : List (Int × Int)) (place : Int) : Int :=
  (lp place (knowns (pts.map (·.1)) pts []) (pts.map (·.1)) (0, 1)).1 % 257
/-- what each known part counts at a place -/
def abl (x : Int) : List Int → Int → List Int
  | [], _ => []
  | y :: ys, a => a :: abl x ys (a * (x - y) % 257)
theorem lp_dot (x : Int) : ∀ (ks ys : List Int) (o a : Int), ks.length ≤ ys.length → (lp x ks ys (o, a)).1 = o + dot ks (abl x ys a)
  | [], _, o, a, _ => by simp [lp, dot]
  | k :: ks, [], o, a, h => by simp at h
  | k :: ks, y :: ys, o, a, h => by
    have := lp_dot x ks ys (o + k * a) (a * (x - y) % 257) (by simpa using h)
    simp only [lp, abl, dot, this]
    omega
theorem lp_append (x : Int) : ∀ (ks ls ys zs : List Int) (p : Int × Int), ks.length = ys.length → lp x (ks ++ ls) (ys ++ zs) p = lp x ls zs (lp x ks ys p)
  | [], _, [], _, p, _ => by simp [lp]
  | [], _, _ :: _, _, p, h => by simp at h
  | _ :: _, _, [], _, p, h => by simp at h
  | k :: ks, ls, y :: ys, zs, p, h => by
    simp only [List.cons_append, lp]
    exact lp_append x ks ls ys zs _ (by simpa using h)
/-- lists that are gone through longer than the known parts -/
theorem lp_short (x : Int) : ∀ (ks ys zs : List Int) (p : Int × Int), ks.length ≤ ys.length → lp x ks (ys ++ zs) p = lp x ks ys p
  | [], _, _, p, _ => by simp [lp]
  | _ :: _, [], _, p, h => by simp at h
  | k :: ks, y :: ys, zs, p, h => by
    simp only [List.cons_append, lp]
    exact lp_short x ks ys zs _ (by simpa using h)
/-- behind a nought all parts count nothing -/
theorem lp_zero (x : Int) : ∀ (ks ys : List Int) (o : Int), (lp x ks ys (o, 0)).1 = o
  | [], _, o => by simp [lp]
  | _ :: _, [], o => by simp [lp]
  | k :: ks, y :: ys, o => by
    simp only [lp, Int.mul_zero, Int.add_zero, Int.zero_mul, Int.zero_emod]
    exact lp_zero x ks ys o
theorem knowns_len (xs : List Int) : ∀ (pts : List (Int × Int)) (known : List Int), (knowns xs pts known).length = known.length + pts.length
  | [], known => by simp [knowns]
  | (x, v) :: r, known => by
    simp only [knowns, knowns_len xs r, List.length_append, List.length_cons, List.length_nil]
    omega
theorem knowns_pre (xs : List Int) : ∀ (pts : List (Int × Int)) (known : List Int), ∃ more, knowns xs pts known = known ++ more
  | [], known => ⟨[], by simp [knowns]⟩
  | (x, v) :: r, known => by
    obtain ⟨m, hm⟩ := knowns_pre xs r (known ++ [(v - (lp x known xs (0, 1)).1) * inv (lp x known xs (0, 1)).2 % 257])
    exact ⟨_, by simp only [knowns]; rw [hm, List.append_assoc]⟩
theorem inv_ok : ∀ a : Int, 0 ≤ a → a < 257 → a ≠ 0 → a * inv a % 257 = 1 := by
  have h : ∀ k : Fin 257, k.val ≠ 0 → ((k.val : Int) * inv (k.val : Int)) % 257 = 1 := by decide +kernel
  intro a h0 h1 h2
  have := h ⟨a.toNat, by omega⟩ (by show a.toNat ≠ 0; omega)
  have e : ((a.toNat : Nat) : Int) = a := by omega
  simpa only [e] using this
end Poly

end
section
set_option linter.all false
set_option maxRecDepth 100000
namespace Poly
/-! ### what is looked at case by case: rows of at most eight chips -/
def invF (a : Int) : Int :=
  let a2 := a * a % 257
  let a4 := a2 * a2 % 257
  let a8 := a4 * a4 % 257
  let a16 := a8 * a8 % 257
  let a32 := a16 * a16 % 257
  let a64 := a32 * a32 % 257
  let a128 := a64 * a64 % 257
  a * a2 % 257 * a4 % 257 * a8 % 257 * a16 % 257 * a32 % 257 * a64 % 257 * a128 % 257
theorem invF_eq : ∀ a : Int, 0 ≤ a → a < 257 → invF a = inv a := by
  have h : ∀ k : Fin 257, invF (k.val : Int) = inv (k.val : Int) := by decide +kernel
  intro a h0 h1
  have := h ⟨a.toNat, by omega⟩
  have e : ((a.toNat : Nat) : Int) = a := by omega
  simpa only [e] using this
def subsF : List Int → List (List Int)
  | [] => [[]]
  | x :: r => (subsF r).flatMap fun s => [x :: s, s]
def chips : List Int := [0, 1, 2, 3, 4, 5, 6, 7]
def shareF (S : List Int) (at_ one : Int) : Int := let p := tb at_ one S (1, 1); p.1 * invF p.2 % 257
def wtsF (S : List Int) (at_ : Int) : List Int := if at_ ∈ S then S.map fun x => if x = at_ then 1 else 0 else S.map (shareF S at_)
theorem tb_rng (at_ one : Int) : ∀ (S : List Int) (p : Int × Int), 0 ≤ p.2 → p.2 < 257 → 0 ≤ (tb at_ one S p).2 ∧ (tb at_ one S p).2 < 257
  | [], p, h0, h1 => ⟨h0, h1⟩
  | o :: r, p, h0, h1 => by
    unfold tb
    refine tb_rng at_ one r _ ?_ ?_
    · split
      · exact h0
      · exact Int.emod_nonneg _ (by decide)
    · split
      · exact h1
      · exact Int.emod_lt_of_pos _ (by decide)
theorem shareF_eq (S : List Int) (at_ one : Int) : shareF S at_ one = share S at_ one := by
  obtain ⟨h0, h1⟩ := tb_rng at_ one S (1, 1) (by decide) (by decide)
  simp only [shareF, share, invF_eq _ h0 h1]
theorem wtsF_eq (S : List Int) (at_ : Int) : wtsF S at_ = wts S at_ := by
  unfold wtsF wts shares
  split
  · rfl
  · exact List.map_congr_left fun x _ => shareF_eq S at_ x
/-- by known part: its counts at the chips, weighed, are its count at the place -/
def cols (S : List Int) : List (List Int) := S.map fun x => abl x S 1
def nthD (l : List Int) (i : Nat) : Int := (l[i]?).getD 0
def chkC : Bool := (subsF chips).all fun S => chips.all fun a => let w := wtsF S a; let c := cols S; let t := abl a S 1
  (List.range S.length).all fun i => decide (dot w (c.map fun l => nthD l i) % 257 = nthD t i % 257)
theorem chkC_ok : chkC = true := by decide +kernel
end Poly

end
section
set_option linter.all false
set_option maxRecDepth 100000
namespace Poly
theorem dot_add {α : Type} (w : List Int) (f g : α → Int) : ∀ C : List α, dot w (C.map fun l => f l + g l) = dot w (C.map f) + dot w (C.map g) := by
  induction w with
  | nil => intro C; cases C <;> simp [dot]
  | cons a w ih =>
    intro C
    cases C with
    | nil => simp [dot]
    | cons c C =>
      simp only [List.map_cons, dot, ih C, Int.mul_add]
      omega
theorem dot_mul {α : Type} (w : List Int) (k : Int) (f : α → Int) : ∀ C : List α, dot w (C.map fun l => k * f l) = k * dot w (C.map f) := by
  induction w with
  | nil => intro C; cases C <;> simp [dot]
  | cons a w ih =>
    intro C
    cases C with
    | nil => simp [dot]
    | cons c C =>
      simp only [List.map_cons, dot, ih C, Int.mul_add]
      rw [Int.mul_left_comm]
theorem dot_zero {α : Type} (w : List Int) : ∀ C : List α, dot w (C.map fun _ => 0) = 0 := by
  induction w with
  | nil => intro C; cases C <;> simp [dot]
  | cons a w ih =>
    intro C
    cases C with
    | nil => simp [dot]
    | cons c C => simp only [List.map_cons, dot, ih C, Int.mul_zero, Int.add_zero]
theorem nthD_tail (l : List Int) (i : Nat) : nthD l.tail i = nthD l (i + 1) := by
  cases l <;> simp [nthD]
theorem dot_swap {α : Type} (w : List Int) : ∀ (ks : List Int) (C : List α) (g : α → List Int), (∀ l ∈ C, (g l).length = ks.length) →
    dot w (C.map fun l => dot ks (g l)) = dot ks ((List.range ks.length).map fun i => dot w (C.map fun l => nthD (g l) i))
  | [], C, g, h => by
    have : (C.map fun l => dot [] (g l)) = C.map fun _ => (0 : Int) := List.map_congr_left fun l _ => by simp [dot]
    rw [this, dot_zero]
    simp [dot]
  | k :: ks, C, g, h => by
    have e : (C.map fun l => dot (k :: ks) (g l)) = C.map fun l => k * nthD (g l) 0 + dot ks (g l).tail := List.map_congr_left fun l hl => by
      have := h l hl
      cases q : g l with
      | nil => rw [q] at this; simp at this
      | cons a r => simp [dot, nthD]
    have ih := dot_swap w ks C (fun l => (g l).tail) fun l hl => by
      have := h l hl
      simp only [List.length_tail, this, List.length_cons]
      omega
    rw [e, dot_add w (fun l => k * nthD (g l) 0) (fun l => dot ks (g l).tail), dot_mul w k (fun l => nthD (g l) 0), ih]
    simp only [List.length_cons, List.range_succ_eq_map, List.map_cons, List.map_map, dot]
    congr 2
    refine List.map_congr_left fun i _ => ?_
    simp only [Function.comp, nthD_tail]
theorem dot_mod : ∀ (ks A B : List Int), A.length = B.length → (∀ i, i < A.length → nthD A i % 257 = nthD B i % 257) → dot ks A % 257 = dot ks B % 257
  | [], _, _, _, _ => by simp [dot]
  | _ :: _, [], [], _, _ => rfl
  | _ :: _, [], _ :: _, h, _ => by simp at h
  | _ :: _, _ :: _, [], h, _ => by simp at h
  | k :: ks, a :: A, b :: B, h, e => by
    have ih := dot_mod ks A B (by simpa using h) fun i hi => by
      have := e (i + 1) (by simp; omega)
      simpa [nthD] using this
    have e0 : a % 257 = b % 257 := by
      have := e 0 (by simp)
      simpa [nthD] using this
    simp only [dot]
    rw [Int.add_emod, Int.mul_emod, e0, ih, ← Int.mul_emod, ← Int.add_emod]
theorem dot_mod' (ks : List Int) {α : Type} (C : List α) (f g : α → Int) (h : ∀ c ∈ C, f c % 257 = g c % 257) : dot ks (C.map f) % 257 = dot ks (C.map g) % 257 := by
  refine dot_mod _ _ _ (by simp) fun i hi => ?_
  rw [List.length_map] at hi
  have hg : C[i]? = some C[i] := List.getElem?_eq_getElem hi
  simp only [nthD, List.getElem?_map, hg, Option.map_some, Option.getD_some]
  exact h _ (List.getElem_mem hi)
theorem abl_len (x : Int) : ∀ (ys : List Int) (a : Int), (abl x ys a).length = ys.length
  | [], a => rfl
  | y :: ys, a => by simp only [abl, List.length_cons, abl_len x ys]
theorem range_nth (t : List Int) : (List.range t.length).map (fun i => nthD t i) = t := by
  refine List.ext_getElem (by simp) fun i h1 h2 => ?_
  simp [nthD, h2]
/-! ### the known parts tell the values -/
theorem small_ne : ∀ a d : Int, 0 ≤ a → a < 257 → a ≠ 0 → -7 ≤ d → d ≤ 7 → d ≠ 0 → a * d % 257 ≠ 0 := by
  have h : ∀ k : Fin 257, ∀ j : Fin 15, k.val ≠ 0 → j.val ≠ 7 → ((k.val : Int) * ((j.val : Int) - 7)) % 257 ≠ 0 := by decide +kernel
  intro a d h0 h1 h2 h3 h4 h5
  have := h ⟨a.toNat, by omega⟩ ⟨(d + 7).toNat, by omega⟩ (by show a.toNat ≠ 0; omega) (by show (d + 7).toNat ≠ 7; omega)
  have e : ((a.toNat : Nat) : Int) = a := by omega
  have e' : (((d + 7).toNat : Nat) : Int) - 7 = d := by omega
  simpa only [e, e'] using this
def In8 (x : Int) : Prop := 0 ≤ x ∧ x ≤ 7
theorem lp_above (x : Int) (hx : In8 x) : ∀ (ks ys : List Int) (p : Int × Int), (∀ y ∈ ys, In8 y ∧ y ≠ x) → 0 ≤ p.2 → p.2 < 257 → p.2 ≠ 0 → 0 ≤ (lp x ks ys p).2 ∧ (lp x ks ys p).2 < 257 ∧ (lp x ks ys p).2 ≠ 0
  | [], _, p, _, h0, h1, h2 => by simp only [lp]; exact ⟨h0, h1, h2⟩
  | _ :: _, [], p, _, h0, h1, h2 => by simp only [lp]; exact ⟨h0, h1, h2⟩
  | k :: ks, y :: ys, p, h, h0, h1, h2 => by
    simp only [lp]
    obtain ⟨⟨y0, y7⟩, ne⟩ := h y List.mem_cons_self
    obtain ⟨x0, x7⟩ := hx
    exact lp_above x ⟨x0, x7⟩ ks ys _ (fun z hz => h z (List.mem_cons_of_mem _ hz)) (Int.emod_nonneg _ (by decide)) (Int.emod_lt_of_pos _ (by decide)) (small_ne _ _ h0 h1 h2 (by omega) (by omega) (by omega))
theorem known_val {xs pre post : List Int} {x v : Int} {known more : List Int} (hS : xs = pre ++ x :: post) (hk : known.length = pre.length) (hin : ∀ y ∈ xs, In8 y) (hnd : x ∉ pre) :
    (lp x (known ++ [(v - (lp x known xs (0, 1)).1) * inv (lp x known xs (0, 1)).2 % 257] ++ more) xs (0, 1)).1 % 257 = v % 257 := by
  have e1 : lp x known xs (0, 1) = lp x known pre (0, 1) := by
    rw [hS]
    exact lp_short x known pre _ _ (by omega)
  rw [e1]
  obtain ⟨o, a, hp⟩ : ∃ o a, lp x known pre (0, 1) = (o, a) := ⟨_, _, rfl⟩
  have hx : In8 x := hin x (by rw [hS]; simp)
  have ab := lp_above x hx known pre (0, 1) (fun y hy => ⟨hin y (by rw [hS]; exact List.mem_append_left _ hy), fun q => hnd (by rw [← q]; exact hy)⟩) (by decide) (by decide) (by decide)
  rw [hp] at ab ⊢
  obtain ⟨a0, a1, a2⟩ := ab
  simp only at a0 a1 a2 ⊢
  rw [hS, List.append_assoc, lp_append x known _ pre _ _ hk, hp]
  simp only [List.cons_append, List.nil_append, lp, Int.sub_self, Int.mul_zero, Int.zero_emod]
  rw [lp_zero]
  have iv := inv_ok a a0 a1 a2
  have e2 : ((v - o) * inv a % 257 * a) % 257 = (v - o) % 257 := by
    rw [Int.mul_emod, Int.emod_emod_of_dvd _ (Int.dvd_refl 257), ← Int.mul_emod, Int.mul_assoc, Int.mul_comm (inv a) a, Int.mul_emod, iv, Int.mul_one, Int.emod_emod_of_dvd _ (Int.dvd_refl 257)]
  rw [Int.add_emod, e2, ← Int.add_emod]
  congr 1
  omega
theorem knowns_val (xs : List Int) (hin : ∀ y ∈ xs, In8 y) (hnd : xs.Nodup) : ∀ (post vs pre known : List Int), xs = pre ++ post → known.length = pre.length → post.length = vs.length →
    ∀ i, i < post.length → (lp (nthD post i) (knowns xs (post.zip vs) known) xs (0, 1)).1 % 257 = nthD vs i % 257
  | [], _, _, _, _, _, _, i, hi => by simp at hi
  | _ :: _, [], _, _, _, _, h, _, _ => by simp at h
  | x :: post, v :: vs, pre, known, hS, hk, hl, i, hi => by
    simp only [List.zip_cons_cons, knowns]
    cases i with
    | zero =>
      obtain ⟨more, hm⟩ := knowns_pre xs (post.zip vs) (known ++ [(v - (lp x known xs (0, 1)).1) * inv (lp x known xs (0, 1)).2 % 257])
      rw [hm]
      have nd : x ∉ pre := by
        rw [hS] at hnd
        intro hx
        exact (List.nodup_append.mp hnd).2.2 x hx x List.mem_cons_self rfl
      have := known_val (v := v) (more := more) hS hk hin nd
      simpa [nthD] using this
    | succ i =>
      have := knowns_val xs hin hnd post vs (pre ++ [x]) (known ++ [(v - (lp x known xs (0, 1)).1) * inv (lp x known xs (0, 1)).2 % 257]) (by rw [hS]; simp) (by simp [hk]) (by simpa using hl) i (by simpa using hi)
      simpa [nthD] using this
end Poly

end
section
set_option linter.all false
set_option maxRecDepth 100000
namespace Poly
theorem subs_mem : ∀ {xs S : List Int}, S ∈ subsF xs → (∀ y ∈ S, y ∈ xs) ∧ (xs.Nodup → S.Nodup)
  | [], S, h => by
    simp only [subsF, List.mem_singleton] at h
    subst h
    exact ⟨fun y hy => (nomatch hy), fun _ => List.nodup_nil⟩
  | x :: xs, S, h => by
    simp only [subsF, List.mem_flatMap, List.mem_cons, List.not_mem_nil, or_false] at h
    obtain ⟨T, hT, rfl | rfl⟩ := h
    · have ih := subs_mem hT
      refine ⟨fun y hy => ?_, fun nd => ?_⟩
      · rcases List.mem_cons.mp hy with rfl | hy
        · exact List.mem_cons_self
        · exact List.mem_cons_of_mem _ (ih.1 y hy)
      · obtain ⟨n1, n2⟩ := List.nodup_cons.mp nd
        exact List.nodup_cons.mpr ⟨fun q => n1 (ih.1 _ q), ih.2 n2⟩
    · have ih := subs_mem hT
      exact ⟨fun y hy => List.mem_cons_of_mem _ (ih.1 y hy), fun nd => ih.2 (List.nodup_cons.mp nd).2⟩
/-- every ascending choice of chips is one of those looked at -/
theorem filter_sub (p : Int → Bool) : ∀ xs : List Int, xs.filter p ∈ subsF xs
  | [] => by simp [subsF]
  | x :: xs => by
    have ih := filter_sub p xs
    simp only [subsF, List.mem_flatMap, List.mem_cons, List.not_mem_nil, or_false, List.filter_cons]
    refine ⟨_, ih, ?_⟩
    split
    · exact .inl rfl
    · exact .inr rfl
/-- also its first few -/
theorem take_sub : ∀ {xs S : List Int} (n : Nat), S ∈ subsF xs → S.take n ∈ subsF xs
  | [], S, n, h => by
    simp only [subsF, List.mem_singleton] at h ⊢
    subst h
    simp
  | x :: xs, S, n, h => by
    simp only [subsF, List.mem_flatMap, List.mem_cons, List.not_mem_nil, or_false] at h ⊢
    obtain ⟨T, hT, rfl | rfl⟩ := h
    · cases n with
      | zero => exact ⟨T.take 0, take_sub 0 hT, .inr rfl⟩
      | succ n => exact ⟨T.take n, take_sub n hT, .inl rfl⟩
    · exact ⟨_, take_sub n hT, .inr rfl⟩
theorem chips_in : ∀ y ∈ chips, In8 y := by
  intro y hy
  simp only [chips, List.mem_cons, List.not_mem_nil, or_false] at hy
  unfold In8
  omega
theorem newton_eq {S v : List Int} {a : Int} (hS : S ∈ subsF chips) (hl : S.length = v.length) (ha : a ∈ chips) : newton (S.zip v) a = dot (wts S a) v % 257 := by
  obtain ⟨m1, m2⟩ := subs_mem hS
  have hin : ∀ y ∈ S, In8 y := fun y hy => chips_in y (m1 y hy)
  have hnd : S.Nodup := m2 (by decide)
  have hz : (S.zip v).map (·.1) = S := List.map_fst_zip (by omega)
  unfold newton
  rw [hz]
  obtain ⟨ks, hks⟩ : ∃ ks, ks = knowns S (S.zip v) [] := ⟨_, rfl⟩
  have kl : ks.length = S.length := by rw [hks, knowns_len]; simp; omega
  rw [← hks, lp_dot a ks S 0 1 (by omega), Int.zero_add]
  have hv := knowns_val S hin hnd S v [] [] rfl rfl hl
  rw [← hks] at hv
  -- the values, by the known parts
  have hvA : dot (wts S a) v % 257 = dot (wts S a) (S.map fun x => dot ks (abl x S 1)) % 257 := by
    refine dot_mod _ _ _ (by simp [hl]) fun i hi => ?_
    have hi' : i < S.length := by omega
    have q := hv i hi'
    rw [lp_dot _ ks S 0 1 (by omega), Int.zero_add] at q
    have g : nthD (S.map fun x => dot ks (abl x S 1)) i = dot ks (abl (nthD S i) S 1) := by
      simp [nthD, hi']
    rw [g, q]
  rw [hvA, dot_swap (wts S a) ks S (fun x => abl x S 1) (fun l _ => by rw [abl_len, kl])]
  have ht : abl a S 1 = (List.range ks.length).map fun i => nthD (abl a S 1) i := by
    have := range_nth (abl a S 1)
    rw [abl_len, ← kl] at this
    exact this.symm
  rw [ht]
  refine (dot_mod' ks _ _ _ fun i hi => ?_).symm
  have hi' : i < S.length := by have := List.mem_range.mp hi; omega
  have ck := chkC_ok
  unfold chkC at ck
  have c1 := List.all_eq_true.mp (List.all_eq_true.mp ck S hS) a ha
  have c2 := of_decide_eq_true (List.all_eq_true.mp c1 i (List.mem_range.mpr hi'))
  rw [wtsF_eq] at c2
  rw [show nthD (abl a S 1) i = nthD (abl a S 1) i from rfl] at c2
  have e : ((cols S).map fun l => nthD l i) = S.map fun l => nthD (abl l S 1) i := by
    unfold cols
    rw [List.map_map]
    rfl
  rw [e] at c2
  exact c2
/-! ### any that are enough tell all -/
def firsts (n : Nat) : List Int := (List.range n).map fun (k : Nat) => (k : Int)
def chkD : Bool := (subsF chips).all fun S => let R := firsts S.length; let W := R.map fun j => wtsF S j
  (List.range S.length).all fun c => let w := wtsF R (nthD S c)
    (List.range S.length).all fun k => decide (dot w (W.map fun l => nthD l k) % 257 = if k = c then 1 else 0)
theorem chkD_ok : chkD = true := by decide +kernel
theorem wts_len (S : List Int) (a : Int) : (wts S a).length = S.length := by
  unfold wts shares
  split <;> simp
theorem dot_comm : ∀ a b : List Int, dot a b = dot b a
  | [], [] => rfl
  | [], _ :: _ => rfl
  | _ :: _, [] => rfl
  | x :: a, y :: b => by simp only [dot, dot_comm a b, Int.mul_comm]
theorem dot_one : ∀ (v : List Int) (c n : Nat), c < v.length → v.length = n → dot v ((List.range n).map fun k => if k = c then 1 else 0) = nthD v c
  | [], c, n, h, _ => by simp at h
  | x :: v, 0, n, _, hn => by
    subst hn
    simp only [List.length_cons, List.range_succ_eq_map, List.map_cons, List.map_map, dot]
    have : ((List.range v.length).map ((fun k => if k = 0 then (1 : Int) else 0) ∘ Nat.succ)) = (List.range v.length).map fun _ => 0 := List.map_congr_left fun i _ => by simp [Function.comp]
    rw [this, dot_zero]
    simp [nthD]
  | x :: v, c + 1, n, h, hn => by
    subst hn
    simp only [List.length_cons, List.range_succ_eq_map, List.map_cons, List.map_map, dot]
    have : ((List.range v.length).map ((fun k => if k = c + 1 then (1 : Int) else 0) ∘ Nat.succ)) = (List.range v.length).map fun k => if k = c then 1 else 0 := List.map_congr_left fun i _ => by simp [Function.comp]
    rw [this, dot_one v c v.length (by simpa using h) rfl]
    simp [nthD]
/-- the data that cells at so many chips tell have these cells -/
theorem any_tell {S v : List Int} {c : Nat} (hS : S ∈ subsF chips) (hl : S.length = v.length) (hc : c < S.length) :
    dot (wts (firsts S.length) (nthD S c)) ((firsts S.length).map fun j => dot (wts S j) v % 257) % 257 = nthD v c % 257 := by
  rw [dot_mod' _ (firsts S.length) (fun j => dot (wts S j) v % 257) (fun j => dot v (wts S j)) (fun j _ => by rw [Int.emod_emod_of_dvd _ (Int.dvd_refl 257), dot_comm])]
  rw [dot_swap (wts (firsts S.length) (nthD S c)) v (firsts S.length) (fun j => wts S j) (fun j _ => by rw [wts_len, hl])]
  rw [← hl]
  rw [dot_mod' v (List.range S.length) _ (fun k => if k = c then 1 else 0) (fun k hk => ?_), dot_one v c S.length (by omega) hl.symm]
  have ck := chkD_ok
  unfold chkD at ck
  have c1 := List.all_eq_true.mp (List.all_eq_true.mp ck S hS) c (List.mem_range.mpr hc)
  have c2 := of_decide_eq_true (List.all_eq_true.mp c1 k hk)
  rw [wtsF_eq, List.map_map] at c2
  have e : (firsts S.length).map ((fun l => nthD l k) ∘ fun j => wtsF S j) = (firsts S.length).map fun j => nthD (wts S j) k := List.map_congr_left fun j _ => by simp only [Function.comp, wtsF_eq]
  rw [e] at c2
  rw [c2]
  split <;> rfl
end Poly

end
section
set_option linter.all false
set_option maxRecDepth 100000
set_option maxHeartbeats 4000000
namespace Ms
open PySem PySem.Spec PyProof.Rows L2
/-! ### pow(i, n, m) -/
theorem b_pow : bootBuiltins ("pow" : Str) = some (.builtin "pow") := by decide +kernel
section
variable {X : Cx} {P : Pm}
def rPow3 : List V → Hp → VK → Prop := fun xs H Q => ∃ a n m : Int, xs = [.int a, .int n, .int m] ∧ 0 ≤ n ∧ 1 < m ∧ Q (.int (powR a n m)) H
theorem cr_pow3 : CallR X (.builtin "pow") rPow3 := by
  intro pins s σ H xs us Q I r h
  obtain ⟨a, n, m, rfl, hn, hm, q⟩ := h
  cases r with
  | cons r1 r =>
    cases r with
    | cons r2 r =>
      cases r with
      | cons r3 r =>
        cases r
        obtain ⟨t1, rfl⟩ := r1
        obtain ⟨t2, rfl⟩ := r2
        obtain ⟨t3, rfl⟩ := r3
        exact call_pow3 hn hm fun u tk => ⟨.int (powR a n m), H, I.tok _, ⟨_, rfl⟩, q⟩
def cPow3 : Sto → List D → Option D
  | _, [.int a, .int n, .int m] => if 0 ≤ n ∧ 1 < m then some (.int (powR a n m)) else none
  | _, _ => none
theorem cd_pow3 : CallD X P rPow3 cPow3 := by
  intro β bx H xs ds z Q g r h k
  unfold cPow3 at h
  split at h
  · split at h
    · rename_i hc
      cases h
      cases r with
      | cons r1 r =>
        cases r with
        | cons r2 r =>
          cases r with
          | cons r3 r =>
            cases r
            exact ⟨_, _, _, by rw [r1.int_inv, r2.int_inv, r3.int_inv], hc.1, hc.2, k _ H .refl g (.int _)⟩
    · cases h
  · cases h
end
theorem pow_inv {b : Int} : powR b 255 257 = Poly.inv (b % 257) := by
  have h : ∀ k : Fin 257, powR (k.val : Int) 255 257 = Poly.inv (k.val : Int) := by decide +kernel
  have h0 := Int.emod_nonneg b (show (257 : Int) ≠ 0 by decide)
  have h1 := Int.emod_lt_of_pos b (show (0 : Int) < 257 by decide)
  have := h ⟨(b % 257).toNat, by omega⟩
  have e : (((b % 257).toNat : Nat) : Int) = b % 257 := by omega
  have this : powR (((b % 257).toNat : Nat) : Int) 255 257 = Poly.inv (((b % 257).toNat : Nat) : Int) := this
  rw [e] at this
  rw [← this]
  unfold powR
  rw [Int.emod_emod_of_dvd _ (Int.dvd_refl 257)]
theorem ev_pow3 {b : Int} {bx : Sto} : cPow3 bx [.int b, .int 255, .int 257] = some (.int (Poly.inv (b % 257))) := by
  show (if (0 : Int) ≤ 255 ∧ (1 : Int) < 257 then some (D.int (powR b 255 257)) else none) = _
  rw [if_pos (by decide), pow_inv]
end Ms

end
section
set_option Elab.async false
set_option linter.all false
set_option maxRecDepth 100000
set_option maxHeartbeats 4000000
/-! list.pop(i) of a list that changes; list(range(n)) that will change -/
namespace Ms
open PySem PySem.Spec PyProof.Rows L2
theorem RA.erase {K : PySem.W.Frag} {β : Mu} {H : Hp} : ∀ {vs : List V} {ds : List D} (n : Nat), RA K β H vs ds → RA K β H (vs.eraseIdx n) (ds.eraseIdx n)
  | _, _, _, .nil => by simpa using RA.nil
  | _, _, 0, .cons _ r => by simpa using r
  | _, _, n + 1, .cons a r => by simpa using RA.cons a (RA.erase n r)
def popK (k : Nat) (i : D) : Fn D := fun _ bx2 => match i with
  | .int n => (match bx2[k]? with
    | some (.lst l) => if 0 ≤ n ∧ n < 2 ^ 62 then (match l[n.toNat]? with
      | some e => .ok e (bx2.set k (.lst (l.eraseIdx n.toNat)))
      | none => .bad) else .bad
    | _ => .bad)
  | _ => .bad
def fPopAt (F J : Fn D) : Fn D := bnd F fun d => fun δ bx => match d with
  | .ref k => (match bx[k]? with
    | some (.lst _) => bnd J (popK k) δ bx
    | _ => .bad)
  | _ => .bad
section
variable {X : Cx} {P : Pm} {E : XK} {F J : Fn D} {a b : Expr}
theorem ed_popAt {apos cpos : Pos} (ha : ED X P E a F) (hb : ED X P E b J)
    (hbase : attributeBase a "pop" X.env (eval a X.env) = eval a X.env := by rfl)
    (hfew : ((backTo cpos (starEach [b] X.env)).all (fun x => !x.1) && (backToKw cpos (keywordEach [] X.env)).all (fun x => x.1.isSome)
      && decide ([b].length + ([] : List Keyword).length + (if ([] : List Keyword).isEmpty then 0 else 1) < 30)) = true := by rfl)
    (hline : (apos.endLine == cpos.line) = true := by rfl) (hs : starEach [b] X.env = (false, eval b X.env) :: starEach [] X.env := by rfl) (hplain : (backTo cpos (starEach [] X.env)).any (·.1) = false := by rfl) :
    ED X P E (.Call (.Attribute a "pop" apos) [b] [] cpos) (fPopAt F J) := by
  refine pe_imp (pe_bm PySem.F.plainAttrs_list PySem.F.slot_list_pop PySem.F.type_list_pop mt_popAt ha (ea_cons hb ea_nil hs) hbase hfew hline hs hplain) ?_
  rintro σ H Q ⟨β, δ, bx, ev, g, o⟩
  refine d_bind ev g o.x fun β1 bx1 x d H1 l1 g1 r1 o1 => ?_
  cases d with
  | ref k =>
    dsimp only at o1
    split at o1
    · rename_i l0 hl0
      obtain ⟨a, xs, rfl, _, h4, _⟩ := r1.live g1 hl0
      refine ⟨.inl ⟨rfl, xs, SqL.of h4⟩, ?_⟩
      have o2 : OutX P X.K β1 H1 (bnd (fCons J (pur [])) (fun ds => match ds with | [i] => popK k i | _ => fun _ _ => .bad) δ bx1) E fun d β' _ H' => ∀ v, R X.K β' H' v d → Q v H' := by
        cases hF : J δ bx1 with
        | ok d bx2 => rw [bnd_ok hF] at o1; rw [bnd_ok (show fCons J (pur []) δ bx1 = .ok [d] bx2 from bnd_ok hF)]; exact o1
        | err c d bx2 => rw [bnd_err hF] at o1; rw [bnd_err (show fCons J (pur []) δ bx1 = .err c d bx2 from bnd_err hF)]; exact o1
        | bad => rw [bnd_bad hF] at o1; exact o1.elim
      refine a_bind (ev.le l1) g1 o2 fun β2 bx2 ys ds H2 l2 g2 r2 o3 => ?_
      split at o3
      · rename_i i
        obtain ⟨y, rfl, ry⟩ := r2.one
        unfold popK at o3
        cases i with
        | int n =>
          dsimp only at o3
          split at o3
          · rename_i l hl
            split at o3
            · rename_i hn
              split at o3
              · rename_i e he
                obtain ⟨a', xs', e1, h5, h6, h7⟩ := (r1.le l2).live g2 hl
                cases e1
                have ey := ry.int_inv
                subst ey
                obtain ⟨w, hw, rw_⟩ := h7.get he
                have hlt : n.toNat < xs'.length := (List.getElem?_eq_some_iff.mp hw).1
                have nok : ¬ β2.ok a := fun z => z.1 (List.mem_of_getElem? h5)
                refine ⟨a, xs', n, n.toNat, w, rfl, rfl, h6, by omega, by omega, ?_, hw, ?_⟩
                · have hn0 := hn.1
                  have nl : ¬ n < 0 := by omega
                  have nl2 : n < (xs'.length : Int) := by omega
                  simp [seqIndex?, nl, hn0, nl2]
                · exact o3 β2 _ (.put h5 h6) (g2.put h5 h6 (h7.erase n.toNat)) _ (rw_.upd nok)
              · exact o3.elim
            · exact o3.elim
          · exact o3.elim
        | _ => exact (show False from o3).elim
      · exact o3.elim
    · exact o1.elim
  | _ => exact (show False from o1).elim
/-- list(range(n)), to change -/
def fRgM (F : Fn D) : Fn D := bnd F fun d => fun _ bx => match d with
  | .int j => if rgOk 0 j = true then .ok (.ref bx.length) (bx ++ [.lst (rgl 0 j.toNat)]) else .bad
  | _ => .bad
theorem ed_rgM {p p2 pos pos2 : Pos} (hc : X.calm = true) (g1 : Gl X "list") (m1 : X.mg "list" = none) (g2 : Gl X "range") (m2 : X.mg "range" = none) (ha : ED X P E a F)
    (na : starEach [a] X.env = (false, eval a X.env) :: starEach [] X.env := by rfl)
    (nc : starEach [.Call (.Name "range" p2) [a] [] pos2] X.env = (false, eval (.Call (.Name "range" p2) [a] [] pos2) X.env) :: starEach [] X.env := by rfl) :
    ED X P E (.Call (.Name "list" p) [.Call (.Name "range" p2) [a] [] pos2] [] pos) (fRgM F) := by
  refine pe_imp (pe_listRg hc g1 m1 (prg_1 g2 m2 ha na) nc) ?_
  rintro σ H Q ⟨β, δ, bx, ev, g, o⟩
  refine d_bind ev g o.x fun β1 bx1 x d H1 l1 g1 r1 o1 => ?_
  split at o1
  · rename_i j
    split at o1
    · rename_i hr
      refine ⟨j, r1.int_inv, rg_fits hr, fun q hq => o1 _ _ (.cell hq) (g1.cell hq ?_) _ (.cell g1.ln)⟩
      have := rgl_RA (K := X.K) (β := β1) (H := H1) (i := 0) (n := j.toNat)
      unfold rgV
      rw [Int.sub_zero]
      exact this
    · exact o1.elim
  · exact o1.elim
end
theorem W_rgM {F : Fn D} {δ : List (Option D)} {bx : Sto} {Q : D → Sto → Prop} {E : Str → D → Sto → Prop} : W (fRgM F δ bx) Q E ↔ W (F δ bx) (fun d bx' => ∃ j, d = .int j ∧ rgOk 0 j = true ∧ Q (.ref bx'.length) (bx' ++ [.lst (rgl 0 j.toNat)])) E := by
  unfold fRgM
  rw [W_bnd]
  refine iff_of_eq (congrArg (fun k => W (F δ bx) k E) (funext fun d => funext fun bx' => propext ?_))
  constructor
  · intro h
    split at h
    · split at h
      · exact ⟨_, rfl, by assumption, h⟩
      · exact h.elim
    · exact h.elim
  · rintro ⟨j, rfl, h1, h2⟩
    simp only [h1, if_true]
    exact h2
theorem W_popAt {F J : Fn D} {δ : List (Option D)} {bx : Sto} {Q : D → Sto → Prop} {E : Str → D → Sto → Prop} : W (fPopAt F J δ bx) Q E ↔ W (F δ bx) (fun d bx1 => ∃ k l0, d = .ref k ∧ bx1[k]? = some (.lst l0) ∧ W (J δ bx1) (fun i bx2 => ∃ n l e, i = .int n ∧ bx2[k]? = some (.lst l) ∧ (0 ≤ n ∧ n < 2 ^ 62) ∧ l[n.toNat]? = some e ∧ Q e (bx2.set k (.lst (l.eraseIdx n.toNat)))) E) E := by
  unfold fPopAt
  rw [W_bnd]
  refine iff_of_eq (congrArg (fun k => W (F δ bx) k E) (funext fun d => funext fun bx1 => propext ?_))
  have key : ∀ k, W (bnd J (popK k) δ bx1) Q E ↔ W (J δ bx1) (fun i bx2 => ∃ n l e, i = .int n ∧ bx2[k]? = some (.lst l) ∧ (0 ≤ n ∧ n < 2 ^ 62) ∧ l[n.toNat]? = some e ∧ Q e (bx2.set k (.lst (l.eraseIdx n.toNat)))) E := fun k => by
    rw [W_bnd]
    refine iff_of_eq (congrArg (fun k => W (J δ bx1) k E) (funext fun i => funext fun bx2 => propext ?_))
    unfold popK
    constructor
    · intro h
      split at h
      · split at h
        · split at h
          · split at h
            · exact ⟨_, _, _, rfl, by assumption, by assumption, by assumption, h⟩
            · exact h.elim
          · exact h.elim
        · exact h.elim
      · exact h.elim
    · rintro ⟨n, l, e, rfl, h1, h2, h3, h4⟩
      simp only [h1, h3]
      rw [if_pos h2]
      exact h4
  constructor
  · intro h
    split at h
    · split at h
      · exact ⟨_, _, rfl, by assumption, (key _).mp h⟩
      · exact h.elim
    · exact h.elim
  · rintro ⟨k, l0, rfl, h1, h2⟩
    simp only [h1]
    exact (key _).mpr h2
end Ms

end
section
set_option Elab.async false
set_option linter.all false
set_option maxRecDepth 100000
set_option maxHeartbeats 4000000
/-! Lambdas that take args and keep nothing of the frame, called by a name that holds them. -/
namespace Ms
open PySem PySem.Spec PyProof.Rows L2
theorem run_lamA {CX : CXT} {P : Program} {w : World} {K : PySem.W.Frag} {mg : Str → Option Value} {base : Heap} {k : Nat} {q : Str} {params : Arguments} {body : Expr} {scope : Scope} {pm ctv : Value} {f c' : Addr} {ps : List Str} {A : Around} {outer : List Env} {s : Shared} {H : Hp} {us : List Value} {vs : List V} {Q : VK} {E : XK}
    (of1 : s.heap.get? f = some (PySem.W.kla_obj "<lambda>" q params body scope [] pm c' ctv)) (hcr : s.heap.CodeRec (.ref c') q) (S : FnScope ps ps scope) (hr : Room (k + 1) A) (e0 : Env0 P w K mg base A outer s H)
    (hb : bindArgs (PySem.W.kla_fn "<lambda>" q params body scope [] pm (.ref c') ctv) ⟨us, []⟩ = pure (ps.zip us)) (r : Vals vs us) (hl : vs.length = ps.length)
    (hbody : Room k (A.deeper (envOfC q scope s.heap.objs.size f (.ref c'))) → ∃ te, PE (cxOf CX P w K mg base ps q scope f (.ref c') A outer s H E) body te ∧ te (L2.start ps vs) H Q) :
    codeAny (model P w) A (.call (.ref f) ⟨us, []⟩) (CR CX outer P w H s Q E) s := by
  have lim : s.heap.NoLimit := e0.mod.nolimit.keeps fun b o e => (e0.bs b o e).1
  have hkind : ∀ y ∈ ps.zip us, scope.names.lookup y.1 = some .local ∨ (scope.names.lookup y.1 = some .cell ∧ ((cellsFrom (s.heap.objs.size + 1) scope.names []).lookup y.1).isSome = true) := fun ⟨n, v⟩ hy => by
    rcases S.par n (List.of_mem_zip hy).1 with z | z
    · exact .inl z
    · exact .inr ⟨z, PySem.W.cellsFrom_some _ _ _ (.inl z)⟩
  refine PySem.W.kla_callFunE hr.depth of1 rfl S.co S.gen rfl hcr ?_
  rw [hb]
  refine wpAny_pure ?_
  refine wpAny_newFunctionEnv_cells S.kind hkind fun env he s1 x => ?_
  subst he
  refine ⟨lim.keeps x.toInCall.keep, ?_⟩
  obtain ⟨te, ht, hq⟩ := hbody (hr.deeper _)
  have I : Inv (cxOf CX P w K mg base ps q scope f (.ref c') A outer s H E) [] (L2.start ps vs) H s1 := inv_start S hr.hd e0 hl r x
  refine PySem.W.kla_codeExpr (wpAny_mono (ht.run [] s1 (L2.start ps vs) H Q I hq) (fun v s' hs => ?_) fun e s' hs => hs)
  obtain ⟨v', H', J, rv, z⟩ := hs
  exact ⟨v', H', J.os, J.bare, J.base, J.hok, rv, z⟩
/-- a lambda of the text that takes args, and what it comes to -/
structure LamA (Pg : Program) (w : World) (K : PySem.W.Frag) (mg : Str → Option Value) (base : Heap) (P : Pm) (q : Str) (k : Nat) (i : LamI) (ps : List Str) (F : Fn D) : Prop where
  S : FnScope ps ps i.scope
  bd : ∀ (cl : List (Str × Addr)) (pm cv ctv : Value) (us : List Value), us.length = ps.length → bindArgs (PySem.W.kla_fn "<lambda>" q i.params i.body i.scope cl pm cv ctv) ⟨us, []⟩ = pure (ps.zip us)
  body : ∀ (A : Around) (outer : List Env) (s : Shared) (H : Hp) (E : XK) (f c' : Addr), Room k (A.deeper (envOfC q i.scope s.heap.objs.size f (.ref c'))) → ED (cxOf (L2.CX Pg w) Pg w K mg base ps q i.scope f (.ref c') A outer s H E) P E i.body F
theorem clo_none {cells : List (Str × Addr)} : ∀ {names : List (Str × NameKind)} {acc : List (Str × Addr)}, (∀ y ∈ names, y.2 ≠ .free) → cloFrom cells names acc = acc := by
  intro names
  induction names with
  | nil => intro acc _; rfl
  | cons y r ih =>
    intro acc h
    obtain ⟨n, k⟩ := y
    have hk : k ≠ .free := h _ List.mem_cons_self
    have hr := ih (acc := acc) fun z hz => h z (List.mem_cons_of_mem _ hz)
    cases k <;> first | exact absurd rfl hk | exact hr
def lamR (n : Nat) (F : Fn D) : List D → Sto → Res D := fun ds bx => if ds.length = n then F (ds.map some) bx else .bad
def fCallL (B : Nat → List D → Sto → Res D) (F : Fn D) (A : Fn (List D)) : Fn D := bnd F fun d => fun δ bx => match d with
  | .ref k => (match bx[k]? with
    | some (.lam n) => bnd A (fun ds => fun _ bx => B n ds bx) δ bx
    | _ => .bad)
  | _ => .bad
section
variable {X : Cx} {P : Pm} {E : XK} {pos : Pos} {es : List Expr} {A : Fn (List D)} {F : Fn D} {e : Expr} {k : Nat} {y : Str} {py : Pos} {cells : List (Str × Addr)} {q : Str} {ls : List LamI} {B : Nat → List D → Sto → Res D}
theorem ed_callL (hlm : P.T.lm = lmOf cells q ls) (all : ∀ n i, ls[n]? = some i → ∃ (ps : List Str) (G : Fn D), LamA X.prog X.w X.K X.mg X.base P q k i ps G ∧ B n = lamR ps.length G) (hr : Room (k + 1) X.A) (hx : Passes (L2.CX X.prog X.w) X E)
    (hF : ED X P E (.Name y py) F) (ha : EA X P E (e :: es) A) (he : starEach (e :: es) X.env = (false, eval e X.env) :: starEach es X.env := by rfl) (hpl : (backTo pos (starEach es X.env)).any (·.1) = false := by rfl) :
    ED X P E (.Call (.Name y py) (e :: es) [] pos) (fCallL B F A) := by
  refine ⟨fun pins s σ H Q I h => ?_⟩
  obtain ⟨β, δ, bx, ev, gd, o⟩ := h
  have h1 : tD X.K P E F σ H fun v H1 => ∃ (f : Addr) (n : Nat) (i : LamI) (c' : Addr), v = .ref f ∧ ls[n]? = some i ∧ H1 f = some (LamH cells q i.params i.body i.scope f c') ∧ H1 c' = some (LamX.CodeO c' q) ∧
      (tDA X.K P E A) σ H1 fun zs H2 => H2 f = some (LamH cells q i.params i.body i.scope f c') ∧ H2 c' = some (LamX.CodeO c' q) ∧ ∃ β2 ds bx2, RA X.K β2 H2 zs ds ∧ Good X.K P.T β2 bx2 H2 ∧ Out X.K P β2 H2 (B n ds bx2) Q E := by
    refine d_bind ev gd o.x fun β1 bx1 v d H1 l1 g1 r1 o1 => ?_
    cases r1 with
    | ref hk =>
      have ⟨c, h1, h2⟩ := g1.cs _ _ _ hk
      dsimp only at o1
      rw [h1] at o1
      cases c with
      | lam n =>
        have h3 := h2.2
        rw [hlm] at h3
        obtain ⟨i, c', hi, hf, hc⟩ := h3
        refine ⟨_, n, i, c', rfl, hi, hf, hc, a_bind (ev.le l1) g1 o1 fun β2 bx2 zs ds H2 l2 g2 r2 o2 => ⟨g1.xk l2 _ _ hf, g1.xk l2 _ _ hc, β2, ds, bx2, r2, g2, out_ofX o2⟩⟩
      | lst _ => exact o1.elim
      | dead => exact o1.elim
    | non => exact o1.elim
    | bl _ => exact o1.elim
    | int _ => exact o1.elim
    | str _ => exact o1.elim
    | lst _ _ => exact o1.elim
    | tup _ _ => exact o1.elim
    | fn _ _ => exact o1.elim
    | scr _ => exact o1.elim
  refine wpAny_Call_Name_kw (thn (hF.run pins s σ H _ I h1) fun u s1 hu => ?_)
  obtain ⟨v, H1, I1, rv, f, n, i, c', rfl, hi, hf, hc, ht⟩ := hu
  have eu : u = Value.ref f := rv
  subst eu
  obtain ⟨⟨pm1, ctv1, of1⟩, _, _⟩ := I1.hok f _ hf
  refine PySem.W.callWith_F ⟨_, _, _, _, of1⟩ (thn (ha.run pos pins s1 σ H1 _ I1 ht) fun us s2 hs => ?_) he hpl
  obtain ⟨vs, H2, I2, r, hf2, hc2, β2, ds, bx2, ra, g2, o2⟩ := hs
  obtain ⟨⟨pm, ctv, of2⟩, _, _⟩ := I2.hok f _ hf2
  obtain ⟨⟨oc, fv, t, hoc, hdc, hvc⟩, _, _⟩ := I2.hok c' _ hc2
  refine ⟨⟨_, _, _, _, of2⟩, ?_⟩
  obtain ⟨ps, G, LA, hB⟩ := all n i hi
  rw [clo_none LA.S.nofree] at of2
  rw [hB] at o2
  unfold lamR at o2
  split at o2
  · rename_i hlen
    have lv : vs.length = ps.length := by rw [ra.length, hlen]
    show wpAny _ _ (call (.ref f) us) _ _ _
    refine wpAny_call (codeAny_mono (run_lamA (CX := L2.CX X.prog X.w) (E := E) (Q := Q) (K := X.K) (mg := X.mg) (base := X.base) of2 ⟨c', oc, fv, t, rfl, hoc, hdc, hvc⟩ LA.S hr I2.env0 (LA.bd _ _ _ _ us (by rw [← r.length]; exact lv)) r lv fun hr' => ⟨_, LA.body _ _ _ _ E _ _ hr', ?_⟩) fun rr s' hq => ?_)
    · have es := ev_start (K := X.K) (β := β2) (H := H2) (N := ps) ra
      rw [hlen, Nat.sub_self, List.replicate_zero, List.append_nil] at es
      exact ⟨β2, ds.map some, bx2, es, g2, o2⟩
    · match rr, hq with
      | .error er, hq => exact hx pins σ H2 s2 er s' I2 hq
      | .ok (.ret u), hq => exact I2.after hq
      | .ok .next, hq => exact False.elim hq
      | .ok .brk, hq => exact False.elim hq
      | .ok .cont, hq => exact False.elim hq
  · exact o2.elim
end
/-- lambda x, ..: body, as a value -/
theorem ed_lamA {X : Cx} {P : Pm} {E : XK} {n : Nat} {params : Arguments} {body : Expr} {scope : Scope} {cd Pt : Addr} {pos : Pos} (B : LamX.TabB X.base X.mg cd Pt) (hcd : X.env.code = .ref cd) (hm : (Pt, X.env.qual ++ "<lambda>") ∈ P.T.tb)
    (hu : ∀ q ∈ P.T.tb, q.1 = Pt → q.2 = X.env.qual ++ "<lambda>") (hn : ∀ y ∈ scope.names, y.2 ≠ .free) (hd : defaultsOf params X.env = ([], []))
    (hl : ∀ f c' H, H f = some (LamH X.env.cells (X.env.qual ++ "<lambda>") params body scope f c') → H c' = some (LamX.CodeO c' (X.env.qual ++ "<lambda>")) → P.T.lm n f H) : ED X P E (.Lambda params body scope pos) (fLam n) := by
  refine ⟨fun pins s σ H Q I h => ?_⟩
  obtain ⟨β, δ, bx, ev, g, o⟩ := h
  refine lam_new I B hcd hm hu g.tb hd (fun y hy e => absurd e (hn y hy)) fun f c' H1 s' I1 nf x t co => ?_
  have ne : c' ≠ f := ne_of_none co nf
  have no : ∀ ps, LamH X.env.cells (X.env.qual ++ "<lambda>") params body scope f c' ≠ .tbl ps := fun ps z => by
    unfold LamH at z
    cases z
  refine ⟨.ref f, _, I1, rfl, ?_⟩
  refine o (β.lam f) _ _ (.lam x nf) (g.lam x nf no t (hl f c' _ upd_same ((upd_ne ne).trans co))) (.ref (b := false) ?_)
  show (β.cs ++ [(f, false)])[bx.length]? = _
  rw [← g.ln, List.getElem?_append_right (Nat.le_refl _), Nat.sub_self]
  rfl
end Ms

end
section
set_option Elab.async false
set_option linter.all false
set_option maxRecDepth 100000
set_option maxHeartbeats 4000000
/-! text * n -/
namespace Ms
open PySem PySem.Spec PyProof.Rows L2
section
variable {X : Cx} {P : Pm} {E : XK} {F G : Fn D} {a b : Expr} {pos : Pos}
def rMulS : V → V → Hp → VK → Prop := fun x y H Q => ∃ a n, x = V.str a ∧ y = V.int n ∧ MulOk a n ∧ Q (.str (Txt.mul a n)) H
theorem op_mulS : OpR X (binaryOp .Mult) rMulS := by
  intro pins s σ H x y v u Q I rx ry h
  obtain ⟨a, n, rfl, rfl, hok, q⟩ := h
  obtain ⟨t, rfl⟩ := rx
  obtain ⟨t2, rfl⟩ := ry
  exact SB.mul hok fun t' k => ⟨.str _, H, I.tok _, ⟨t', rfl⟩, q⟩
def cMulS (_ : Sto) : D → D → Option D
  | .str x, .int n => if 0 ≤ n ∧ n ≤ 1000 ∧ x.length ≤ 10 then some (.str (Txt.mul x n)) else none
  | _, _ => none
theorem mulOk {x : Str} {n : Int} (h : 0 ≤ n ∧ n ≤ 1000 ∧ x.length ≤ 10) : MulOk x n := by
  obtain ⟨h1, h2, h3⟩ := h
  refine ⟨by simp; omega, fun a b c => ?_, fun a b => ?_⟩
  · have : (2 ^ 63 - 1) / 1000 ≤ (2 ^ 63 - 1) / n := by
      refine Int.le_ediv_of_mul_le (by omega) ?_
      calc (2 ^ 63 - 1) / 1000 * n ≤ (2 ^ 63 - 1) / 1000 * 1000 := Int.mul_le_mul_of_nonneg_left h2 (by decide)
        _ ≤ 2 ^ 63 - 1 := by decide
    have e : (2 ^ 63 - 1) / 1000 = (9223372036854775 : Int) := by decide
    omega
  · have : x.length * n.toNat ≤ 10 * 1000 := Nat.mul_le_mul h3 (by omega)
    show decide (x.length * n.toNat > sizeLine) = false
    rw [sizeLine_eq]
    simp
    omega
theorem opd_mulS : OpD X P rMulS cMulS := by
  intro β bx H x y d e z Q g rx ry h k
  unfold cMulS at h
  split at h
  · split at h
    · rename_i hc
      cases h
      cases rx
      exact ⟨_, _, rfl, ry.int_inv, mulOk hc, k _ H .refl g (.str _)⟩
    · cases h
  · cases h
theorem ed_mulS (ha : ED X P E a F) (hb : ED X P E b G) : ED X P E (.BinOp a .Mult b pos) (f2 cMulS F G) := ed_bin op_mulS opd_mulS ha hb
end
theorem ev_mulS {bx : Sto} {x : Str} {n : Int} (h : 0 ≤ n ∧ n ≤ 1000 ∧ x.length ≤ 10) : cMulS bx (.str x) (.int n) = some (.str (Txt.mul x n)) := if_pos h
end Ms

end
section
set_option Elab.async false
set_option linter.all false
set_option maxRecDepth 100000
set_option maxHeartbeats 4000000
/-! zip of two sequences of either kind -/
namespace Ms
open PySem PySem.Spec PyProof.Rows L2
/-- a list, or a tuple -/
def SqB (p : Bool) (h : Heap) (l : Addr) (xs : Array Value) : Prop := if p then h.IsList l xs else h.IsTuple l xs
def ItB (p : Bool) (h : Heap) (a l : Addr) (i : Nat) : Prop := if p then h.IsListIter a l i else h.IsTupleIter a l i
theorem SqB.extBut {p : Bool} {h h' : Heap} {a b : Addr} {xs : Array Value} (x : SqB p h a xs) (hs : Heap.ExtBut b h h') (hab : a ≠ b) : SqB p h' a xs := by
  cases p
  · exact Heap.IsTuple.extBut (h := h) x hs hab
  · exact Heap.IsList.extBut (h := h) x hs hab
theorem ItB.at {p : Bool} {h h' : Heap} {a l : Addr} {i : Nat} (x : ItB p h a l i) (k : ∀ o, h.get? a = some o → h'.get? a = some o) : ItB p h' a l i := by
  cases p
  · exact Heap.IsTupleIter.at (h := h) x k
  · exact Heap.IsListIter.at (h := h) x k
theorem ItB.extBut {p : Bool} {h h' : Heap} {a b l : Addr} {i : Nat} (x : ItB p h a l i) (hs : Heap.ExtBut b h h') (hab : a ≠ b) : ItB p h' a l i := x.at fun o e => hs a o hab e
theorem ItB.obj {p : Bool} {h : Heap} {a l : Addr} {i : Nat} (x : ItB p h a l i) : ∃ o, h.get? a = some o ∧ o.data = .fields #[.ref l, .int i 0] := by
  cases p
  · obtain ⟨o, e, _, d⟩ := (show h.IsTupleIter a l i from x); exact ⟨o, e, d⟩
  · obtain ⟨o, e, _, d⟩ := (show h.IsListIter a l i from x); exact ⟨o, e, d⟩
theorem ItB.lt {p : Bool} {h : Heap} {a l : Addr} {i : Nat} (x : ItB p h a l i) : a < h.objs.size := by
  obtain ⟨o, e, _⟩ := x.obj
  exact Heap.lt_size e
section
variable {prog : Program} {w : World} {A : Around} {E : Value → Shared → Prop} {s : Shared}
theorem nextB_item {p : Bool} {it l : Addr} {i : Nat} {items : Array Value} {x : Value} {Q : Value → Shared → Prop} (hit : ItB p s.heap it l i) (hl : SqB p s.heap l items) (hx : items[i]? = some x)
    (hQ : ∀ h', ItB p h' it l (i + 1) → Heap.SameBut it s.heap h' → Q x { s with heap := h' }) : wpAny (model prog w) A (Builtin.SmallTypes.nextOf (.ref it)) Q E s := by
  cases p
  · exact RZ.nextOf_tuple_item hit hl hx hQ
  · exact wpAny_nextOf_list_item hit hl hx hQ
theorem nextB_end {p : Bool} {it l : Addr} {i : Nat} {items : Array Value} {Q : Value → Shared → Prop} (hh : A.handled = none) (hit : ItB p s.heap it l i) (hl : SqB p s.heap l items) (hx : items[i]? = none)
    (hE : ∀ h' e, Heap.ExtBut it s.heap h' → (∃ o, h'.get? e = some o ∧ o.cls = .type "StopIteration") → E (.ref e) { s with heap := h' }) : wpAny (model prog w) A (Builtin.SmallTypes.nextOf (.ref it)) Q E s := by
  cases p
  · exact RZ.nextOf_tuple_end hh hit hl hx hE
  · exact wpAny_nextOf_list_end hh hit hl hx hE
theorem zipB_next_item {p q : Bool} {z TI TO i1 i2 l1 l2 : Addr} {k1 k2 : Nat} {xs ys : Array Value} {x y a b : Value} {Q : Value → Shared → Prop} (D : ZipApart z TI TO i1 i2 l1 l2)
    (hz : IsZip s.heap z TI TO .none) (hTI : IsPair s.heap TI (.ref i1) (.ref i2)) (hTO : IsPair s.heap TO a b)
    (h1 : ItB p s.heap i1 l1 k1) (h2 : ItB q s.heap i2 l2 k2) (hl1 : SqB p s.heap l1 xs) (hl2 : SqB q s.heap l2 ys) (hx : xs[k1]? = some x) (hy : ys[k2]? = some y)
    (hQ : ∀ h', IsZip h' z TI TO (rawInt s.heap.objs.size) → IsPair h' TO x y → ItB p h' i1 l1 (k1 + 1) → ItB q h' i2 l2 (k2 + 1) → IsPair h' s.heap.objs.size x y → h'.objs.size = s.heap.objs.size + 1 →
      (∀ c o, c ≠ z → c ≠ TO → c ≠ i1 → c ≠ i2 → s.heap.get? c = some o → h'.get? c = some o) → Q (.ref s.heap.objs.size) { s with heap := h' }) :
    wpAny (model prog w) A (Builtin.«zip.__next__» ⟨[.ref z], []⟩) (fun fin s' => ∃ v, fin = .done (.ret v) ∧ Q v s') E s := by
  show wpAny _ _ (field (.ref z) 2 >>= _) _ _ _
  refine wpAny_bind (wpAny_field hz rfl (x := .bool false) rfl ?_)
  show wpAny _ _ (field (.ref z) 3 >>= _) _ _ _
  refine wpAny_bind (wpAny_field hz rfl (x := .ref TI) rfl ?_)
  refine wpAny_bind (wpAny_seqItems hTI rfl ?_)
  show wpAny _ _ (Builtin.SmallTypes.ownedTupleIsFree (.ref z) >>= _) _ _ _
  refine wpAny_bind ?_
  unfold Builtin.SmallTypes.ownedTupleIsFree
  refine wpAny_bind (wpAny_field hz rfl (x := .none) rfl (wpAny_pure ?_))
  simp only [if_true]
  refine wpAny_bind (wpAny_rule ?_)
  refine wpAny_bind (wpAny_field hz rfl (x := .ref TO) rfl ?_)
  refine wpAny_bind (wpAny_setField_rec hz (by simp) fun h₁ hz₁ hs₁ => ?_)
  replace hz₁ : IsZip h₁ z TI TO .ellipsis := hz₁
  refine wpAny_bind ?_
  simp only [List.zipIdx_cons, List.zipIdx_nil, List.forIn_cons, List.forIn_nil]

  refine wpAny_bind (wpAny_bind (wpAny_onRaise ?_))
  show wpAny _ _ (Builtin.SmallTypes.nextOf (.ref i1) >>= _) _ _ _
  refine wpAny_bind (nextB_item (h1.extBut hs₁.extBut D.i1z) (hl1.extBut hs₁.extBut D.l1z) hx fun h₂ h1₂ hs₂ => wpAny_pure ?_)
  have hTO₂ : IsPair h₂ TO a b := hs₂.extBut _ _ D.TOi1 (hs₁.extBut _ _ D.TOz hTO)
  refine wpAny_bind (wpAny_seqItems hTO₂ rfl ?_)
  refine wpAny_bind (wpAny_updateSeq_pair hTO₂ fun h₃ hTO₃ hs₃ => ?_)
  replace hTO₃ : IsPair h₃ TO x b := hTO₃
  refine wpAny_bind (wpAny_letGo (wpAny_pure ?_))

  refine wpAny_bind (wpAny_bind (wpAny_onRaise ?_))
  show wpAny _ _ (Builtin.SmallTypes.nextOf (.ref i2) >>= _) _ _ _
  refine wpAny_bind (nextB_item (((h2.extBut hs₁.extBut D.i2z).extBut hs₂.extBut D.i12.symm).extBut hs₃.extBut D.TOi2.symm)
    (((hl2.extBut hs₁.extBut D.l2z).extBut hs₂.extBut D.l2i1).extBut hs₃.extBut D.l2TO) hy fun h₄ h2₄ hs₄ => wpAny_pure ?_)
  have hTO₄ : IsPair h₄ TO x b := hs₄.extBut _ _ D.TOi2 hTO₃
  refine wpAny_bind (wpAny_seqItems hTO₄ rfl ?_)
  refine wpAny_bind (wpAny_updateSeq_pair hTO₄ fun h₅ hTO₅ hs₅ => ?_)
  replace hTO₅ : IsPair h₅ TO x y := hTO₅
  refine wpAny_bind (wpAny_letGo (wpAny_pure (wpAny_pure ?_)))

  refine wpAny_bind (wpAny_seqItems hTO₅ rfl ?_)
  refine wpAny_bind (wpAny_newTuple ?_)
  have hsz : h₅.objs.size = s.heap.objs.size := by rw [hs₅.1, hs₄.1, hs₃.1, hs₂.1, hs₁.1]
  have hz₅ : IsZip h₅ z TI TO .ellipsis := hs₅.extBut _ _ D.TOz.symm (hs₄.extBut _ _ D.i2z.symm (hs₃.extBut _ _ D.TOz.symm (hs₂.extBut _ _ D.i1z.symm hz₁)))
  have hk₅ : ∀ c o, c ≠ z → c ≠ TO → c ≠ i1 → c ≠ i2 → s.heap.get? c = some o → h₅.get? c = some o := fun c o c1 c2 c3 c4 e =>
    hs₅.extBut _ _ c2 (hs₄.extBut _ _ c4 (hs₃.extBut _ _ c2 (hs₂.extBut _ _ c3 (hs₁.extBut _ _ c1 e))))
  have h1₅ : ItB p h₅ i1 l1 (k1 + 1) := ((h1₂.extBut hs₃.extBut D.TOi1.symm).extBut hs₄.extBut D.i12).extBut hs₅.extBut D.TOi1.symm
  have h2₅ : ItB q h₅ i2 l2 (k2 + 1) := h2₄.extBut hs₅.extBut D.TOi2.symm
  have hzlt : z < h₅.objs.size := Heap.lt_size hz₅
  have hTOlt : TO < h₅.objs.size := Heap.lt_size hTO₅
  have hi1lt : i1 < h₅.objs.size := by exact h1₅.lt
  have hi2lt : i2 < h₅.objs.size := by exact h2₅.lt
  show wpAny _ _ (Builtin.SmallTypes.ownedTupleHandOut (.ref z) (.ref h₅.objs.size) >>= _) _ _ _
  refine wpAny_bind ?_
  unfold Builtin.SmallTypes.ownedTupleHandOut
  have hz₆ : IsZip (h₅.push { cls := .type "tuple", data := .seq #[x, y] }) z TI TO .ellipsis := Heap.get?_push_of_some _ hz₅
  refine wpAny_bind (wpAny_setField_rec hz₆ (by simp) fun h₇ hz₇ hs₇ => ?_)
  replace hz₇ : IsZip h₇ z TI TO (rawInt h₅.objs.size) := hz₇
  refine wpAny_setField_rec hz₇ (by simp) fun h₈ hz₈ hs₈ => ?_
  replace hz₈ : IsZip h₈ z TI TO (rawInt h₅.objs.size) := hz₈
  have up : ∀ c o, c ≠ z → h₅.get? c = some o → h₈.get? c = some o := fun c o c1 e => hs₈.extBut _ _ c1 (hs₇.extBut _ _ c1 (Heap.get?_push_of_some _ e))
  have hT₈ : IsPair h₈ h₅.objs.size x y := hs₈.extBut _ _ (Nat.ne_of_gt hzlt) (hs₇.extBut _ _ (Nat.ne_of_gt hzlt) (Heap.get?_push_size _ rfl))
  have hz8 : h₈.objs.size = h₅.objs.size + 1 := by rw [hs₈.1, hs₇.1, Heap.size_push]
  rw [hsz] at hz₈ hT₈ hz8
  refine wpAny_pure ⟨_, rfl, ?_⟩
  show Q (.ref h₅.objs.size) _
  rw [hsz]
  exact hQ h₈ hz₈ (up _ _ D.TOz hTO₅) (h1₅.at fun o e => up _ o D.i1z e) (h2₅.at fun o e => up _ o D.i2z e) hT₈ hz8 fun c o c1 c2 c3 c4 e => up c o c1 (hk₅ c o c1 c2 c3 c4 e)

theorem zipB_next_end {p q : Bool} {z TI TO i1 i2 l1 l2 : Addr} {k1 k2 : Nat} {xs ys : Array Value} {a b : Value} {Q : Fin → Shared → Prop} (hh : A.handled = none) (D : ZipApart z TI TO i1 i2 l1 l2)
    (hz : IsZip s.heap z TI TO .none) (hTI : IsPair s.heap TI (.ref i1) (.ref i2)) (hTO : IsPair s.heap TO a b)
    (h1 : ItB p s.heap i1 l1 k1) (h2 : ItB q s.heap i2 l2 k2) (hl1 : SqB p s.heap l1 xs) (hl2 : SqB q s.heap l2 ys) (hend : xs[k1]? = none ∨ ys[k2]? = none)
    (hE : ∀ h' e, (∀ c o, c ≠ z → c ≠ TO → c ≠ i1 → c ≠ i2 → s.heap.get? c = some o → h'.get? c = some o) → (∃ o, h'.get? e = some o ∧ o.cls = .type "StopIteration") → E (.ref e) { s with heap := h' }) :
    wpAny (model prog w) A (Builtin.«zip.__next__» ⟨[.ref z], []⟩) Q E s := by
  show wpAny _ _ (field (.ref z) 2 >>= _) _ _ _
  refine wpAny_bind (wpAny_field hz rfl (x := .bool false) rfl ?_)
  show wpAny _ _ (field (.ref z) 3 >>= _) _ _ _
  refine wpAny_bind (wpAny_field hz rfl (x := .ref TI) rfl ?_)
  refine wpAny_bind (wpAny_seqItems hTI rfl ?_)
  show wpAny _ _ (Builtin.SmallTypes.ownedTupleIsFree (.ref z) >>= _) _ _ _
  refine wpAny_bind ?_
  unfold Builtin.SmallTypes.ownedTupleIsFree
  refine wpAny_bind (wpAny_field hz rfl (x := .none) rfl (wpAny_pure ?_))
  simp only [if_true]
  refine wpAny_bind (wpAny_rule ?_)
  refine wpAny_bind (wpAny_field hz rfl (x := .ref TO) rfl ?_)
  refine wpAny_bind (wpAny_setField_rec hz (by simp) fun h₁ hz₁ hs₁ => ?_)
  replace hz₁ : IsZip h₁ z TI TO .ellipsis := hz₁
  refine wpAny_bind ?_
  simp only [List.zipIdx_cons, List.zipIdx_nil, List.forIn_cons, List.forIn_nil]
  refine wpAny_bind (wpAny_bind (wpAny_onRaise ?_))
  show wpAny _ _ (Builtin.SmallTypes.nextOf (.ref i1) >>= _) _ _ _
  cases hx : xs[k1]? with
  | none =>
    refine wpAny_bind (nextB_end hh (h1.extBut hs₁.extBut D.i1z) (hl1.extBut hs₁.extBut D.l1z) hx fun h₂ e hs₂ he => ?_)
    obtain ⟨oe, hoe, hce⟩ := he
    have hz₂ : IsZip h₂ z TI TO .ellipsis := hs₂ _ _ D.i1z.symm hz₁
    have hez : e ≠ z := fun x => by subst x; rw [hz₂] at hoe; cases hoe; simp at hce
    refine wpAny_setField_rec hz₂ (by simp) fun h₃ _ hs₃ => hE h₃ e (fun c o c1 _ c3 _ x => hs₃.extBut _ _ c1 (hs₂ _ _ c3 (hs₁.extBut _ _ c1 x))) ⟨oe, hs₃.extBut _ _ hez hoe, hce⟩
  | some x =>
    have hy : ys[k2]? = none := by rcases hend with h | h; rw [hx] at h; cases h; exact h
    refine wpAny_bind (nextB_item (h1.extBut hs₁.extBut D.i1z) (hl1.extBut hs₁.extBut D.l1z) hx fun h₂ h1₂ hs₂ => wpAny_pure ?_)
    have hTO₂ : IsPair h₂ TO a b := hs₂.extBut _ _ D.TOi1 (hs₁.extBut _ _ D.TOz hTO)
    refine wpAny_bind (wpAny_seqItems hTO₂ rfl ?_)
    refine wpAny_bind (wpAny_updateSeq_pair hTO₂ fun h₃ hTO₃ hs₃ => ?_)
    refine wpAny_bind (wpAny_letGo (wpAny_pure ?_))
    refine wpAny_bind (wpAny_bind (wpAny_onRaise ?_))
    show wpAny _ _ (Builtin.SmallTypes.nextOf (.ref i2) >>= _) _ _ _
    refine wpAny_bind (nextB_end hh (((h2.extBut hs₁.extBut D.i2z).extBut hs₂.extBut D.i12.symm).extBut hs₃.extBut D.TOi2.symm)
      (((hl2.extBut hs₁.extBut D.l2z).extBut hs₂.extBut D.l2i1).extBut hs₃.extBut D.l2TO) hy fun h₄ e hs₄ he => ?_)
    obtain ⟨oe, hoe, hce⟩ := he
    have hz₄ : IsZip h₄ z TI TO .ellipsis := hs₄ _ _ D.i2z.symm (hs₃.extBut _ _ D.TOz.symm (hs₂.extBut _ _ D.i1z.symm hz₁))
    have hez : e ≠ z := fun x => by subst x; rw [hz₄] at hoe; cases hoe; simp at hce
    refine wpAny_setField_rec hz₄ (by simp) fun h₅ _ hs₅ => hE h₅ e (fun c o c1 c2 c3 c4 x => hs₅.extBut _ _ c1 (hs₄ _ _ c4 (hs₃.extBut _ _ c2 (hs₂.extBut _ _ c3 (hs₁.extBut _ _ c1 x))))) ⟨oe, hs₅.extBut _ _ hez hoe, hce⟩

theorem pyNext_zipB_item {p q : Bool} {z TI TO i1 i2 l1 l2 : Addr} {k1 k2 : Nat} {xs ys : Array Value} {x y a b : Value} {Q : Option Value → Shared → Prop} (D : ZipApart z TI TO i1 i2 l1 l2)
    (hz : IsZip s.heap z TI TO .none) (hTI : IsPair s.heap TI (.ref i1) (.ref i2)) (hTO : IsPair s.heap TO a b)
    (h1 : ItB p s.heap i1 l1 k1) (h2 : ItB q s.heap i2 l2 k2) (hl1 : SqB p s.heap l1 xs) (hl2 : SqB q s.heap l2 ys) (hx : xs[k1]? = some x) (hy : ys[k2]? = some y)
    (hQ : ∀ h', IsZip h' z TI TO (rawInt s.heap.objs.size) → IsPair h' TO x y → ItB p h' i1 l1 (k1 + 1) → ItB q h' i2 l2 (k2 + 1) → IsPair h' s.heap.objs.size x y → h'.objs.size = s.heap.objs.size + 1 →
      (∀ c o, c ≠ z → c ≠ TO → c ≠ i1 → c ≠ i2 → s.heap.get? c = some o → h'.get? c = some o) → Q (some (.ref s.heap.objs.size)) { s with heap := h' }) :
    wpAny (model prog w) A (pyNext (.ref z)) Q E s := by
  have hT : s.TypeIs (.ref z) "zip" := ⟨_, hz, rfl⟩
  unfold pyNext
  exact wpAny_bind (wpAny_attempt (wpAny_callSpecial?_slot (name := Str.ofString "__next__") hT F.slot_zip_next
    (wpAny_call_entry F.slot_zip_next hT F.entry_zip_next
      (zipB_next_item D hz hTI hTO h1 h2 hl1 hl2 hx hy fun h' a1 a2 a3 a4 a5 a6 a7 => wpAny_pure (hQ h' a1 a2 a3 a4 a5 a6 a7)) (F.args_zip_next_1 _))))

theorem pyNext_zipB_end {p q : Bool} {z TI TO i1 i2 l1 l2 : Addr} {k1 k2 : Nat} {xs ys : Array Value} {a b : Value} {Q : Option Value → Shared → Prop} (hh : A.handled = none) (D : ZipApart z TI TO i1 i2 l1 l2)
    (hz : IsZip s.heap z TI TO .none) (hTI : IsPair s.heap TI (.ref i1) (.ref i2)) (hTO : IsPair s.heap TO a b)
    (h1 : ItB p s.heap i1 l1 k1) (h2 : ItB q s.heap i2 l2 k2) (hl1 : SqB p s.heap l1 xs) (hl2 : SqB q s.heap l2 ys) (hend : xs[k1]? = none ∨ ys[k2]? = none)
    (hQ : ∀ h', (∀ c o, c ≠ z → c ≠ TO → c ≠ i1 → c ≠ i2 → s.heap.get? c = some o → h'.get? c = some o) → Q none { s with heap := h' }) : wpAny (model prog w) A (pyNext (.ref z)) Q E s := by
  have hT : s.TypeIs (.ref z) "zip" := ⟨_, hz, rfl⟩
  unfold pyNext
  refine wpAny_bind (wpAny_attempt (wpAny_callSpecial?_slot (name := Str.ofString "__next__") hT F.slot_zip_next
    (wpAny_call_entry F.slot_zip_next hT F.entry_zip_next (zipB_next_end hh D hz hTI hTO h1 h2 hl1 hl2 hend fun h' e hk he => ?_) (F.args_zip_next_1 _))))
  obtain ⟨o, ho, hc⟩ := he
  refine wpAny_bind (wpAny_isInstance (T := "StopIteration") (b := true) ⟨o, ho, hc⟩ isSubtype_stop ?_)
  exact wpAny_pure (hQ _ hk)
end

abbrev zipMH1 (h : Heap) (l1 : Addr) : Heap := h.push { cls := .type "list_iterator", data := .fields #[.ref l1, .int 0 0] }
abbrev zipMH2 (h : Heap) (l1 l2 : Addr) : Heap := (zipMH1 h l1).push { cls := .type "tuple_iterator", data := .fields #[.ref l2, .int 0 0] }
abbrev zipMH3 (h : Heap) (l1 l2 : Addr) : Heap := (zipMH2 h l1 l2).push { cls := .type "tuple", data := .seq #[.ref h.objs.size, .ref (zipMH1 h l1).objs.size] }
abbrev zipMH4 (h : Heap) (l1 l2 : Addr) : Heap := (zipMH3 h l1 l2).push { cls := .type "tuple", data := .seq #[.none, .none] }
abbrev zipMH5 (h : Heap) (l1 l2 : Addr) : Heap := (zipMH4 h l1 l2).push { cls := .type "zip", data := .fields #[.none, .bool false, .bool false, .ref (zipMH2 h l1 l2).objs.size, .ref (zipMH3 h l1 l2).objs.size] }

theorem meets_zipM_new (l1 l2 : Addr) (xs ys : Array Value) :
    Meets (Builtin.«zip.__new__» ⟨[.type "zip", .ref l1, .ref l2], []⟩) (fun _ R s => s.heap.IsList l1 xs ∧ s.heap.IsTuple l2 ys ∧
      R (.ok (.ret (.ref (zipMH4 s.heap l1 l2).objs.size))) { s with heap := zipMH5 s.heap l1 l2 }) :=
  .of_wp fun prog w A R s h => by
    obtain ⟨hp, g, d, tk, os⟩ := s; obtain ⟨hl1, hl2, h⟩ := h
    have hsub := sub_zip
    have hL1 : Heap.IsList (Shared.heap ⟨hp, g, d, tk, os⟩) l1 xs := hl1
    have hL2 : Heap.IsTuple (Shared.heap ⟨hp.push { cls := .type "list_iterator", data := .fields #[.ref l1, .int 0 0] }, g, d, tk, os⟩) l2 ys := Heap.IsTuple.push hl2 _
    wp_walk using wpAny_pyIter_list hL1, wpAny_pyIter_tuple hL2
    exact ⟨_, rfl, h⟩

section
variable {prog : Program} {w : World} {A : Around} {E : Value → Shared → Prop} {s : Shared}

theorem call_zipM {l1 l2 : Addr} {xs ys : Array Value} {Q : Value → Shared → Prop} (hl1 : s.heap.IsList l1 xs) (hl2 : s.heap.IsTuple l2 ys)
    (h : ∀ h', IsZip h' (s.heap.objs.size + 4) (s.heap.objs.size + 2) (s.heap.objs.size + 3) .none → IsPair h' (s.heap.objs.size + 2) (.ref s.heap.objs.size) (.ref (s.heap.objs.size + 1)) →
      IsPair h' (s.heap.objs.size + 3) .none .none → h'.IsListIter s.heap.objs.size l1 0 → h'.IsTupleIter (s.heap.objs.size + 1) l2 0 → h'.objs.size = s.heap.objs.size + 5 →
      (∀ c o, s.heap.get? c = some o → h'.get? c = some o) → Q (.ref (s.heap.objs.size + 4)) { s with heap := h' }) :
    wpAny (model prog w) A (call (.type "zip") [.ref l1, .ref l2]) Q E s := by
  refine callType_new F.called_zip (by decide) (F.typeCall_zip_2 _ _) (F.newCall_zip_2 _ _) (fun obj => F.args_object_init_3 obj _ _) F.entry_zip_new
    (meets_zipM_new l1 l2 xs ys) ⟨hl1, hl2, ?_⟩
  have z1 : (zipMH1 s.heap l1).objs.size = s.heap.objs.size + 1 := Heap.size_push ..
  have z2 : (zipMH2 s.heap l1 l2).objs.size = s.heap.objs.size + 2 := by rw [Heap.size_push, z1]
  have z3 : (zipMH3 s.heap l1 l2).objs.size = s.heap.objs.size + 3 := by rw [Heap.size_push, z2]
  have z4 : (zipMH4 s.heap l1 l2).objs.size = s.heap.objs.size + 4 := by rw [Heap.size_push, z3]
  have z5 : (zipMH5 s.heap l1 l2).objs.size = s.heap.objs.size + 5 := by rw [Heap.size_push, z4]
  have g5 : (zipMH5 s.heap l1 l2).get? (zipMH4 s.heap l1 l2).objs.size = some _ := Heap.get?_push_size _ rfl
  have g4 : (zipMH5 s.heap l1 l2).get? (zipMH3 s.heap l1 l2).objs.size = some _ := Heap.get?_push_of_some _ (Heap.get?_push_size _ rfl)
  have g3 : (zipMH5 s.heap l1 l2).get? (zipMH2 s.heap l1 l2).objs.size = some _ := Heap.get?_push_of_some _ (Heap.get?_push_of_some _ (Heap.get?_push_size _ rfl))
  have g2 : (zipMH5 s.heap l1 l2).get? (zipMH1 s.heap l1).objs.size = some _ := Heap.get?_push_of_some _ (Heap.get?_push_of_some _ (Heap.get?_push_of_some _ (Heap.get?_push_size _ rfl)))
  have g1 : (zipMH5 s.heap l1 l2).get? s.heap.objs.size = some _ := Heap.get?_push_of_some _ (Heap.get?_push_of_some _ (Heap.get?_push_of_some _ (Heap.get?_push_of_some _ (Heap.get?_push_size _ rfl))))
  show _ ∧ _
  rw [z2, z3, z4] at g5
  rw [z1, z2] at g3
  rw [z3] at g4
  rw [z1] at g2
  rw [z4]
  exact ⟨⟨_, g5, rfl⟩, h _ g5 g3 g4 ⟨_, g1, rfl, rfl⟩ ⟨_, g2, rfl, rfl⟩ z5 fun c o x =>
    Heap.get?_push_of_some _ (Heap.get?_push_of_some _ (Heap.get?_push_of_some _ (Heap.get?_push_of_some _ (Heap.get?_push_of_some _ x))))⟩
end
def ItzM (K : PySem.W.Frag) (a b : Addr) : It :=
  ⟨fun i H => ∃ (xs ys : List V) (x y : V), SqL K H a xs ∧ SqT K H b ys ∧ xs[i]? = some x ∧ ys[i]? = some y,
    fun i H v H' => ∃ T x y, v = .ref T ∧ H T = none ∧ H' = upd H T (.tup [x, y]) ∧ (∀ xs, SqL K H a xs → xs[i]? = some x) ∧ ∀ ys, SqT K H b ys → ys[i]? = some y,
    fun i H => ∃ xs ys : List V, SqL K H a xs ∧ SqT K H b ys ∧ (xs.length ≤ i ∨ ys.length ≤ i)⟩
theorem turn_zipM {P : Program} {w : World} {K : PySem.W.Frag} {elts : List Expr} {kk : Nat} {tpos : Pos} {a b z TI TO i1 i2 : Addr} (D : ZipApart z TI TO i1 i2 a b) :
    Turn P w K (.Tuple elts kk tpos) (ItzM K a b) [z, TI, TO, i1, i2] z (fun i h => IsZip h z TI TO .none ∧ IsPair h TI (.ref i1) (.ref i2) ∧ (∃ x y, IsPair h TO x y) ∧ h.IsListIter i1 a i ∧ h.IsTupleIter i2 b i) where
  mem := by simp
  obj := fun i h st c hc => by
    obtain ⟨hz, hTI, ⟨x, y, hTO⟩, ⟨o1, e1, _, d1⟩, ⟨o2, e2, _, d2⟩⟩ := st
    have e' : c = z ∨ c = TI ∨ c = TO ∨ c = i1 ∨ c = i2 := by simpa using hc
    rcases e' with q | q | q | q | q
    · rw [q]; exact ⟨_, hz, fun v q => nomatch q⟩
    · rw [q]; exact ⟨_, hTI, fun v q => nomatch q⟩
    · rw [q]; exact ⟨_, hTO, fun v q => nomatch q⟩
    · rw [q]; exact ⟨o1, e1, fun v q => by rw [d1] at q; cases q⟩
    · rw [q]; exact ⟨o2, e2, fun v q => by rw [d2] at q; cases q⟩
  keep := fun i h h' st k => by
    obtain ⟨hz, hTI, ⟨x, y, hTO⟩, h1, h2⟩ := st
    exact ⟨k z (by simp) _ hz, k TI (by simp) _ hTI, ⟨x, y, k TO (by simp) _ hTO⟩, h1.at fun o q => k i1 (by simp) o q, h2.at fun o q => k i2 (by simp) o q⟩
  item := by
    intro X hP hw hK hc i pins s σ H E I hf st hg
    subst hP hw hK
    obtain ⟨hz, hTI, ⟨x0, y0, hTO⟩, h1, h2⟩ := st
    obtain ⟨xs, ys, x, y, hqx, hqy, hx, hy⟩ := hg
    obtain ⟨its, rv, p, _⟩ := I.list hqx
    obtain ⟨its2, rv2, p2, _⟩ := I.tuple hqy
    obtain ⟨u, hu, ru⟩ := rv.get hx
    obtain ⟨u2, hu2, ru2⟩ := rv2.get hy
    have hzl : z < s.heap.objs.size := Heap.lt_size hz
    refine pyNext_zipB_item (p := true) (q := false) D hz hTI hTO h1 h2 p.isList p2 (x := u) (y := u2) (by simpa using hu) (by simpa using hu2) fun h' z' TO' h1' h2' hT hsz hk => ?_
    refine ⟨_, rfl, wpAny_letOwnedTupleGo_zip (s := { s with heap := h' }) z' fun h'' z'' sb => ?_⟩
    have hT2 : h''.get? s.heap.objs.size = some { cls := .type "tuple", data := .seq #[u, u2] } := (sb.2 _ (Nat.ne_of_gt hzl)).trans hT
    have new : ObjOk X.prog X.w (upd H s.heap.objs.size (.tup [x, y])) h'' s.heap.objs.size (.tup [x, y]) :=
      ⟨by show 2 ≤ sizeLine; decide, [u, u2], .cons ru (.cons ru2 .nil), ⟨_, hT2, rfl, _, rfl⟩⟩
    have I1 : Inv X pins σ (upd H s.heap.objs.size (.tup [x, y])) { s with heap := h'' } :=
      I.turnedNew (t' := s.toks) (ch := [z, TI, TO, i1, i2]) (fun c o hb q => (sb.2 c (fun q' => hb (by simp [q']))).trans (hk c o (fun q' => hb (by simp [q'])) (fun q' => hb (by simp [q'])) (fun q' => hb (by simp [q'])) (fun q' => hb (by simp [q'])) q)) hf (Nat.le_refl _) new
    refine ⟨.ref s.heap.objs.size, _, I1, rfl, ⟨_, x, y, rfl, I.hok.fresh (Nat.le_refl _), rfl, fun l hl => by rw [I.list_inj hl hqx]; exact hx, fun l hl => by rw [I.tuple_inj hl hqy]; exact hy⟩, ⟨z'', ?_, ⟨u, u2, ?_⟩, ?_, ?_⟩, fun c hcm => ?_⟩
    · exact (sb.2 _ D.TIz).trans (hk _ _ D.TIz D.TITO D.TIi1 D.TIi2 hTI)
    · exact (sb.2 _ D.TOz).trans TO'
    · exact Heap.IsListIter.at (h := h') h1' fun o q => (sb.2 _ D.i1z).trans q
    · exact Heap.IsTupleIter.at (h := h') h2' fun o q => (sb.2 _ D.i2z).trans q
    · have hlt : c < s.heap.objs.size := by
        have e' : c = z ∨ c = TI ∨ c = TO ∨ c = i1 ∨ c = i2 := by simpa using hcm
        rcases e' with q | q | q | q | q
        · rw [q]; exact hzl
        · rw [q]; exact Heap.lt_size hTI
        · rw [q]; exact Heap.lt_size hTO
        · rw [q]; obtain ⟨_, e1, _⟩ := h1; exact Heap.lt_size e1
        · rw [q]; obtain ⟨_, e2, _⟩ := h2; exact Heap.lt_size e2
      rw [upd_ne (Nat.ne_of_lt hlt)]
      exact (hf c hcm).1
  done := by
    intro X hP hw hK hc i pins s σ H E I hf st hg
    subst hP hw hK
    obtain ⟨hz, hTI, ⟨x0, y0, hTO⟩, h1, h2⟩ := st
    obtain ⟨xs, ys, hqx, hqy, hend⟩ := hg
    obtain ⟨its, rv, p, _⟩ := I.list hqx
    obtain ⟨its2, rv2, p2, _⟩ := I.tuple hqy
    have l1 := rv.length
    have l2 := rv2.length
    have he : its.toArray[i]? = none ∨ its2.toArray[i]? = none := by
      rcases hend with q | q
      · exact .inl (by simp; omega)
      · exact .inr (by simp; omega)
    exact pyNext_zipB_end (p := true) (q := false) (I.ok.hd hc) D hz hTI hTO h1 h2 p.isList p2 he fun h' hk => ⟨rfl, I.turnedL (t' := s.toks) (ch := [z, TI, TO, i1, i2]) (fun c o hb q =>
      hk c o (fun q' => hb (by simp [q'])) (fun q' => hb (by simp [q'])) (fun q' => hb (by simp [q'])) (fun q' => hb (by simp [q'])) q) hf⟩
  self := fun A i s Q E st h => wpAny_pyIter_zip st.1 h

def iZipX (K : PySem.W.Frag) (ta : TA) : TI := fun σ H R => ta σ H fun vs H1 => ∃ a b xs ys, vs = [.ref a, .ref b] ∧ ((SqL K H1 a xs ∧ SqL K H1 b ys ∧ R (Itz K a b) H1) ∨ (SqT K H1 a xs ∧ SqT K H1 b ys ∧ R (RZ.ItzT K a b) H1) ∨ (SqL K H1 a xs ∧ SqT K H1 b ys ∧ R (ItzM K a b) H1))
theorem pi_zipX {X : Cx} {e e2 : Expr} {ta : TA} {p pos tpos : Pos} {elts : List Expr} {kk : Nat} (hg : Gl X "zip") (hm : X.mg "zip" = none) (ha : PA X [e, e2] ta)
    (hs : starEach [e, e2] X.env = (false, eval e X.env) :: starEach [e2] X.env := by rfl) (hpl : (backTo pos (starEach [e2] X.env)).any (·.1) = false := by rfl) :
    PI X (.Tuple elts kk tpos) (.Call (.Name "zip" p) [e, e2] [] pos) (iZipX X.K ta) := by
  refine ⟨fun pins s σ H R I h => ?_⟩
  refine Call_ (ld_blt I hg hm PyProof.Rows.boot_zip (PyProof.Rows.callWith_type1 (thn (ha.run pos pins s σ H _ I h) fun us s1 ⟨vs, H1, I1, r1, q1⟩ => ?_) hs hpl))
  obtain ⟨a, b, xs, ys, ex, q1⟩ := q1
  subst ex
  cases r1 with
  | cons r rr =>
    cases rr with
    | cons r' rr =>
      cases rr
      cases r
      cases r'
      have fresh5 : ∀ c, c ∈ [s1.heap.objs.size + 4, s1.heap.objs.size + 2, s1.heap.objs.size + 3, s1.heap.objs.size, s1.heap.objs.size + 1] → FpOk X pins H1 c := fun c hcm => by
        have e' : c = s1.heap.objs.size + 4 ∨ c = s1.heap.objs.size + 2 ∨ c = s1.heap.objs.size + 3 ∨ c = s1.heap.objs.size ∨ c = s1.heap.objs.size + 1 := by simpa using hcm
        have hle : s1.heap.objs.size ≤ c := by
          rcases e' with z | z | z | z | z
          · rw [z]; exact Nat.le_add_right _ _
          · rw [z]; exact Nat.le_add_right _ _
          · rw [z]; exact Nat.le_add_right _ _
          · rw [z]; exact Nat.le_refl _
          · rw [z]; exact Nat.le_add_right _ _
        exact I1.fpOk hle (I1.hok.fresh hle)
      rcases q1 with ⟨hqx, hqy, q⟩ | ⟨hqx, hqy, q⟩ | ⟨hqx, hqy, q⟩
      · obtain ⟨its, rv, p1, _⟩ := I1.list hqx
        obtain ⟨its2, rv2, p2, _⟩ := I1.list hqy
        refine call_zip_2 p1.isList p2.isList fun h' hz hTI hTO h1 h2 hsz hk => wpAny_pyIter_zip hz ?_
        have I2 : Inv X pins σ H1 { s1 with heap := h' } := I1.kept (t' := s1.toks) hk
        exact ⟨s1.heap.objs.size + 4, [s1.heap.objs.size + 4, s1.heap.objs.size + 2, s1.heap.objs.size + 3, s1.heap.objs.size, s1.heap.objs.size + 1], _, _, H1, rfl, I2, turn_zip (PySem.W.ktu_apart s1.heap.objs.size a b p1.lt p2.lt), ⟨hz, hTI, ⟨_, _, hTO⟩, h1, h2⟩, fresh5, q⟩
      · obtain ⟨its, rv, p1, _⟩ := I1.tuple hqx
        obtain ⟨its2, rv2, p2, _⟩ := I1.tuple hqy
        obtain ⟨o1, ho1, _⟩ := id p1
        obtain ⟨o2, ho2, _⟩ := id p2
        refine RZ.call_zipT (show s1.heap.IsTuple a its.toArray from p1) (show s1.heap.IsTuple b its2.toArray from p2) fun h' hz hTI hTO h1 h2 hsz hk => wpAny_pyIter_zip hz ?_
        have I2 : Inv X pins σ H1 { s1 with heap := h' } := I1.kept (t' := s1.toks) hk
        exact ⟨s1.heap.objs.size + 4, [s1.heap.objs.size + 4, s1.heap.objs.size + 2, s1.heap.objs.size + 3, s1.heap.objs.size, s1.heap.objs.size + 1], _, _, H1, rfl, I2, RZ.turn_zipT (PySem.W.ktu_apart s1.heap.objs.size a b (Heap.lt_size ho1) (Heap.lt_size ho2)), ⟨hz, hTI, ⟨_, _, hTO⟩, h1, h2⟩, fresh5, q⟩
      · obtain ⟨its, rv, p1, _⟩ := I1.list hqx
        obtain ⟨its2, rv2, p2, _⟩ := I1.tuple hqy
        obtain ⟨o2, ho2, _⟩ := id p2
        refine call_zipM p1.isList (show s1.heap.IsTuple b its2.toArray from p2) fun h' hz hTI hTO h1 h2 hsz hk => wpAny_pyIter_zip hz ?_
        have I2 : Inv X pins σ H1 { s1 with heap := h' } := I1.kept (t' := s1.toks) hk
        exact ⟨s1.heap.objs.size + 4, [s1.heap.objs.size + 4, s1.heap.objs.size + 2, s1.heap.objs.size + 3, s1.heap.objs.size, s1.heap.objs.size + 1], _, _, H1, rfl, I2, turn_zipM (PySem.W.ktu_apart s1.heap.objs.size a b p1.lt (Heap.lt_size ho2)), ⟨hz, hTI, ⟨_, _, hTO⟩, h1, h2⟩, fresh5, q⟩

def fZipX (A : Fn (List D)) : Fn (List D) := bnd A fun ds => fun _ bx => match ds with
  | [.lst l, .lst m] => .ok (zipD l m) bx
  | [.tup l, .tup m] => .ok (zipD l m) bx
  | [.lst l, .tup m] => .ok (zipD l m) bx
  | _ => .bad
section
variable {K : PySem.W.Frag} {T : Tb} {β : Mu} {H : Hp}
theorem wk_zipM {a b : Addr} {xs ys : List V} {ds es : List D} (s : SL β H a xs) (s2 : ST β H b ys) (ra : RA K β H xs ds) (rb : RA K β H ys es) : Wk K T β H (ItzM K a b) (zipD ds es) := ⟨fun i β' st H' hi l _ => by
    rw [zip_len] at hi
    exact ⟨xs, ys, xs[i]'(by rw [ra.length]; omega), ys[i]'(by rw [rb.length]; omega), (s.le l).sq, (s2.le l).sq, by simp, by simp⟩, fun i d β' st H' v H2 hd l g y => by
    obtain ⟨Tt, x, y, rfl, hT, rfl, h1, h2⟩ := y
    obtain ⟨p, q, rfl, h3, h4⟩ := zip_get hd
    obtain ⟨x', e1, r1⟩ := ra.get h3
    obtain ⟨y', e2, r2⟩ := rb.get h4
    have z1 := h1 xs (s.le l).sq
    have z2 := h2 ys (s2.le l).sq
    rw [e1] at z1
    rw [e2] at z2
    cases z1
    cases z2
    exact ⟨keep_new hT, .tup ⟨.inl upd_same, g.ne hT⟩ (.cons ((r1.le l).le (.new hT)) (.cons ((r2.le l).le (.new hT)) .nil))⟩, fun β' st H' l _ => by
    refine ⟨xs, ys, (s.le l).sq, (s2.le l).sq, ?_⟩
    rw [zip_len, ra.length, rb.length]
    omega⟩
end
section
variable {X : Cx} {P : Pm} {E : XK} {A : Fn (List D)} {a b : Expr} {pos : Pos}
theorem ei_zipX {p tpos : Pos} {elts : List Expr} {kk : Nat} (hg : Gl X "zip") (hm : X.mg "zip" = none) (ha : EA X P E [a, b] A)
    (hs : starEach [a, b] X.env = (false, eval a X.env) :: starEach [b] X.env := by rfl) (hpl : (backTo pos (starEach [b] X.env)).any (·.1) = false := by rfl) : EI X P E (.Tuple elts kk tpos) (.Call (.Name "zip" p) [a, b] [] pos) (fZipX A) := by
  refine pi_imp (pi_zipX hg hm ha hs hpl) ?_
  rintro σ H Q ⟨β, δ, bx, ev, g, o⟩
  refine a_bind ev g o fun β1 bx1 xs ds H1 l1 g1 r1 o1 => ?_
  split at o1
  · obtain ⟨v, w, rfl, r, r'⟩ := r1.two
    have q := o1 β1 H1 .refl g1 g1
    cases r with
    | lst s ra => cases r' with
      | lst s2 rb => exact ⟨_, _, _, _, rfl, .inl ⟨s.sq, s2.sq, q _ (wk_zipL s s2 ra rb)⟩⟩
  · obtain ⟨v, w, rfl, r, r'⟩ := r1.two
    have q := o1 β1 H1 .refl g1 g1
    cases r with
    | tup s ra => cases r' with
      | tup s2 rb => exact ⟨_, _, _, _, rfl, .inr (.inl ⟨s.sq, s2.sq, q _ (wk_zipT s s2 ra rb)⟩)⟩
  · obtain ⟨v, w, rfl, r, r'⟩ := r1.two
    have q := o1 β1 H1 .refl g1 g1
    cases r with
    | lst s ra => cases r' with
      | tup s2 rb => exact ⟨_, _, _, _, rfl, .inr (.inr ⟨s.sq, s2.sq, q _ (wk_zipM s s2 ra rb)⟩)⟩
  · exact o1.elim
end
theorem W_zipX {A : Fn (List D)} {δ : List (Option D)} {bx : Sto} {Q : List D → Sto → Prop} {E : Str → D → Sto → Prop} : W (fZipX A δ bx) Q E ↔ W (A δ bx) (fun ds bx' => ∃ l m, (ds = [.lst l, .lst m] ∨ ds = [.tup l, .tup m] ∨ ds = [.lst l, .tup m]) ∧ Q (zipD l m) bx') E := by
  unfold fZipX
  rw [W_bnd]
  refine iff_of_eq (congrArg (fun k => W (A δ bx) k E) (funext fun ds => funext fun bx' => propext ?_))
  constructor
  · intro h
    split at h
    · exact ⟨_, _, .inl rfl, h⟩
    · exact ⟨_, _, .inr (.inl rfl), h⟩
    · exact ⟨_, _, .inr (.inr rfl), h⟩
    · exact h.elim
  · rintro ⟨l, m, rfl | rfl | rfl, h⟩
    · exact h
    · exact h
    · exact h
end Ms

end
section
set_option Elab.async false
set_option linter.all false
set_option maxRecDepth 100000
set_option maxHeartbeats 4000000
/-! try with several clauses 'except C as n' -/
namespace Ms
open PySem PySem.Spec PyProof.Rows L2
abbrev TSX := Addr → Value → Option Addr → TS
/-- what the clauses wish of an exception of the body, one after the other; slot i is n's -/
def wManyAs (K : PySem.W.Frag) (i : Nat) (Wout : WX) (D : Ends) : List (Value × TSX) → WX
  | [] => Wout
  | (c, ts) :: r => fun cls d σ H => ∃ b, PySem.W.exmOne K cls c = some b ∧ (b = true → ∀ a, H a = none → ts a cls d { nx := fun σ' H' => D.nx (σ'.set i none) H', rt := D.rt, bk := fun σ' H' => D.bk (σ'.set i none) H', ct := fun σ' H' => D.ct (σ'.set i none) H' } (σ.set i (some (.ref a))) H) ∧ (b = false → wManyAs K i Wout D r cls d σ H)
inductive HdsAs (X : Cx) (n : Str) : List ExceptHandler → List (Value × TSX) → Prop
  | nil : HdsAs X n [] []
  | cons {x : Str} {c : Value} {ts : TSX} {b₀ : Stmt} {suite : List Stmt} {np pos' : Pos} {hds : List ExceptHandler} {l : List (Value × TSX)} (hc : Names X x c)
      (hsu : ∀ (a : Addr) (oe : Obj) (cls : Value) (d : Option Addr) (pn : List (Addr × Obj)), Zc cls d oe → (∃ vs, oe.data = .fields vs) → PSs (X.suite a ((a, oe) :: pn)) (b₀ :: suite) (ts a cls d)) (r : HdsAs X n hds l) :
      HdsAs X n (.ExceptHandler (some (.Name x np)) (some n) (b₀ :: suite) pos' :: hds) ((c, ts) :: l)
section
variable {X : Cx} {n : Str} {i : Nat} {body : List Stmt} {h₀ : ExceptHandler} {hds : List ExceptHandler} {l : List (Value × TSX)} {pos : Pos} {tb : WX → TS} {Wout : WX}
theorem ps_try_manyAs (hs : X.stack = X.env :: X.outer) (hf : X.env.frame = some X.env.locals) (hN : X.N.Nodup) (hi : X.N[i]? = some n) (hln : X.env.kindOf n = some .local) (tk : Takes X Wout)
    (hb : ∀ (W : WX) (pn : List (Addr × Obj)) (xe : Value → Shared → Prop), Takes (X.tr pn xe) W → PassesOwn (model X.prog X.w) X.A X.env xe → PSs (X.tr pn xe) body (tb W))
    (hh : HdsAs X n (h₀ :: hds) l) : PS X (.Try body (h₀ :: hds) [] [] pos) (fun D σ H => tb (wManyAs X.K i Wout D l) D σ H) := by
  refine ⟨fun pins s σ H D I h => ?_⟩
  have ok := I.ok
  have hfr : X.A.frames = some (X.env :: X.outer) := by rw [ok.frames, hs]
  have hloc : Loc X.env.scope n := .inl hln
  refine wpAny_Try_except ?_
  refine wpAny_mono ((hb (wManyAs X.K i Wout D l) (X.pn ++ pins) (fun e s₁ => wpAny (model X.prog X.w) X.A (noteFrame e X.env) (fun _ s₂ => wpAny (model X.prog X.w) X.A (setFlight e none) (fun _ s₃ =>
    wpAny (model X.prog X.w) X.A (handleBy e X.env (h₀ :: hds)) (SP X pins D) X.xe s₃) X.xe s₂) X.xe s₁) (fun u s' xx => ?_) PassesOwn.looking).run [] s σ H D (I.toTry _) h) (fun f s1 hsp => ?_) (fun e s1 he => he)
  · -- the catch
    obtain ⟨a, B, sI, pins', σ', H', cls, d, rfl, J', nb, up, sky, na, os, ag, w⟩ := xx
    have J : Inv X pins σ' H' sI := J'.ofTry ok
    have sky' : Sky B (X.env :: X.outer) a (Zc cls d) X.env.locals s'.heap := by rw [← hs]; exact sky
    show wpAny (model X.prog X.w) X.A (noteFrame (.ref a) X.env) _ _ _
    refine Sky.land Zc.steady hfr hf sky' fun h3 fl3 up3 => ?_
    have J3 : Inv X pins σ' H' { s' with heap := h3 } := J.landed nb fl3.1 (up.trans up3) os ag
    obtain ⟨oe3, vs3, he3, hz3, hd3⟩ := fl3.there
    have notFr : ∀ {h : Heap} {o : Obj} {vs : Array Value}, h.FunFrames B (X.env :: X.outer) → h.get? a = some o → o.data = .fields vs → a ∉ frs (X.env :: X.outer) := fun {h o vs} ff e dd hm => by
      obtain ⟨_, o', e', hnf⟩ := ff.mem hm
      rw [e] at e'; cases e'
      exact hnf _ dd
    have nfr := notFr fl3.2.2.1 he3 hd3
    have nL : a ≠ X.env.locals := fun z => nfr (List.mem_filterMap.mpr ⟨X.env, List.mem_cons_self, by rw [hf, z]⟩)
    have nF : a ∉ X.fs := fun hm => by
      obtain ⟨e, he, q⟩ := List.mem_filterMap.mp hm
      exact nfr (List.mem_filterMap.mpr ⟨e, List.mem_cons_of_mem _ he, q⟩)
    have S3 := J3.suite he3 hd3 na nL nF
    have go : ∀ {hds' : List ExceptHandler} {l' : List (Value × TSX)}, HdsAs X n hds' l' → wManyAs X.K i Wout D l' cls d σ' H' →
        wpAny (model X.prog X.w) X.A (handleBy (.ref a) X.env hds') (SP X pins D) X.xe { s' with heap := h3 } := by
      intro hds' l' hk
      induction hk with
      | nil =>
        intro w
        refine wpAny_handleBy_nil ?_
        obtain ⟨k1, k2, k3, oe, vs, T, oT, ts', he, hz, hd, h1, hr⟩ := id fl3
        unfold PySem.passOn
        refine wpAny_bind (wpAny_field he hd h1 ?_)
        rw [if_neg (show ¬ ((Value.ref T == Value.none) = true) from by simp)]
        have fin : wpAny (model X.prog X.w) X.A (setFlight (.ref a) X.env.frame) (fun _ s4 => wpAny (model X.prog X.w) X.A (throw (.ref a) : Sem Flow) (SP X pins D) X.xe s4) X.xe { s' with heap := h3 } := by
          rw [hf]
          refine HandSPX.setFlight_upZ fl3 fun h4 hh4 up4 => wpAny_throw (tk _ _ ?_)
          exact ⟨a, B, sI, pins, σ', H', cls, d, rfl, J, nb, (up.trans up3).trans up4, .inr (.inr (by rw [hs]; exact hh4)), na, os, ag, w⟩
        first
          | exact wpAny_bind (wpAny_pure (wpAny_bind fin))
          | exact wpAny_bind fin
      | @cons x c ts b₀ suite np pos' hds2 l2 hc hsu r ih =>
        intro w
        obtain ⟨b, hb1, hyes, hno⟩ := w
        refine wpAny_handleBy_cons (codeAny_handlers_test ?_) (by intro q; cases q)
        have LT : PySem.W.Looks (model X.prog X.w) h3 (typeOf (.ref a)) cls := fun A Q E s k q => wpAny_typeOf_ref (k _ _ he3) (by rw [hz3.1]; exact q)
        have LM := PySem.W.exm_one (M := model X.prog X.w) (J3.kIn) LT hb1
        have test : ∀ {Q : Value → Shared → Prop} {E : Value → Shared → Prop}, Q c { s' with heap := h3 } → wpAny (model X.prog X.w) (X.A.mark (some (.ref a))) (eval (.Name x np) X.env) Q E { s' with heap := h3 } := fun {Q E} q => by
          obtain ⟨hg, hdbg, hm | ⟨hm, hv, hnn⟩⟩ := hc
          · exact ld_glob (X := X.suite a ((a, oe3) :: (X.pn ++ pins))) S3 hg hm q hdbg
          · exact ld_blt (X := X.suite a ((a, oe3) :: (X.pn ++ pins))) S3 hg hm hv q hnn hdbg
        refine test (LM.here ?_)
        cases b with
        | true =>
          refine codeAny_handlers_suite_as ?_
          refine HandSPX.lands_againZ fl3 fun h4 fl4 up4 => ?_
          have J4 : Inv X pins σ' H' { s' with heap := h4 } := J.landed nb fl4.1 ((up.trans up3).trans up4) os ag
          obtain ⟨oe4, vs4, he4, hz4, hd4⟩ := fl4.there
          have S4 := J4.suite he4 hd4 na nL nF
          refine store_ok (X := X.suite a ((a, oe4) :: (X.pn ++ pins))) (v := .ref a) S4 hN hi hloc rfl (fun s5 S5 => ?_) (.inr hln)
          refine wpAny_mono ((hsu a oe4 cls d (X.pn ++ pins) hz4 ⟨_, hd4⟩).run [] s5 _ H' _ S5 (hyes rfl a na)) (fun f s6 hsp => ?_) (fun _ _ z => False.elim z)
          have end_ : ∀ {σ6 : L2.St} {H6 : Hp} {Q : Shared → Prop}, Inv (X.suite a ((a, oe4) :: (X.pn ++ pins))) [] σ6 H6 s6 → (∀ s7, Inv X pins (σ6.set i none) H6 s7 → Q s7) →
              wpAny (model X.prog X.w) X.A (do bindName X.env n .none; unbindBehindTheSuite X.env n pos') (fun _ s7 => Q s7) X.xe s6 := fun {σ6 H6 Q} S6 hq => gone_ok (S6.unsuite ok) hN hi hln hq
          cases f with
          | next =>
            obtain ⟨σ6, H6, S6, q6⟩ := hsp
            exact end_ S6 fun s7 J7 => ⟨_, _, J7, q6⟩
          | brk =>
            obtain ⟨σ6, H6, S6, q6⟩ := hsp
            exact end_ S6 fun s7 J7 => ⟨_, _, J7, q6⟩
          | cont =>
            obtain ⟨σ6, H6, S6, q6⟩ := hsp
            exact end_ S6 fun s7 J7 => ⟨_, _, J7, q6⟩
          | ret u =>
            obtain ⟨v6, σ6, H6, S6, r6, q6⟩ := hsp
            exact end_ S6 fun s7 J7 => ⟨_, _, _, J7, r6, q6⟩
        | false =>
          show wpAny _ X.A (handleBy (.ref a) X.env hds2) _ _ _
          exact ih (hno rfl)
    exact go hh w
  · cases f with
    | next =>
      obtain ⟨σ', H', J', q⟩ := hsp
      exact wpAny_execs_nil ⟨σ', H', J'.ofTry ok, q⟩
    | brk =>
      obtain ⟨σ', H', J', q⟩ := hsp
      exact ⟨σ', H', J'.ofTry ok, q⟩
    | cont =>
      obtain ⟨σ', H', J', q⟩ := hsp
      exact ⟨σ', H', J'.ofTry ok, q⟩
    | ret u =>
      obtain ⟨v, σ', H', J', r, q⟩ := hsp
      exact ⟨v, σ', H', J'.ofTry ok, r, q⟩
end
/-! ### a def that hears: what its clauses tell -/
structure Cl where
  cn : Str
  w : Str
  rp : Bool
  wi : Bool
def Cl.tl (k : Cl) : List V := if k.wi then [.bl true] else []
def Cl.tlD (k : Cl) : List D := if k.wi then [.bl true] else []
def tsCl (K : PySem.W.Frag) (CR : Str → Addr) (i : Nat) (k : Cl) : TSX := fun a cls d D σ H => σ[i]? = some (some (.ref a)) ∧ cls = .ref (CR k.cn) ∧ ∃ dd v, d = some dd ∧ H dd = some (.xd [(("at" : Str), v)]) ∧
  (k.rp = true → ∃ pd, Dp K H v pd ∧ pd.showable = true ∧ pd.hasDict = false ∧ pd.depth ≤ 60 ∧ pd.shown.length ≤ sizeLine ∧ ∀ p, H p = none → D.rt (.ref p) (upd H p (.tup (.str k.w :: .str pd.shown :: k.tl)))) ∧
  (k.rp = false → ∀ p, H p = none → D.rt (.ref p) (upd H p (.tup (.str k.w :: v :: k.tl))))
section
variable {Y : Cx} {CR : Str → Addr} {k : Cl} {i : Nat} {n qn : Str} {B fI : Addr} {m j2 k2 : Nat} {p6 p7 p8 p9 q1 q2 q3 q4 q5 q6 q7 : Pos}
theorem cl_tt (hk : k.rp = true) (hw : k.wi = true) (hga : Y.A.guards = some []) (hr : Room m Y.A) (hN : Y.N[i]? = some n) (sn : Y.env.kindOf n = some .local) (hnd : (n == ("__debug__" : Str)) = false) (hnc : (n == ("__classdict__" : Str)) = false) (T : PySem.RefX.LowTxt k.cn qn Y.K Y.mg (CR k.cn) fI) (gr : Y.mg "repr" = none) (s2 : Gl Y "repr")
    (hne : CR k.cn ≠ B) (hkt : PySem.W.kitOne Y.K (.ref (CR k.cn)) (.ref B) = some true) (gB : Y.mg "WreckError" = some (.ref B)) (gi : Y.mg "isinstance" = none) (s3 : Gl Y "isinstance") (s4 : Gl Y "WreckError") :
    ∀ (a : Addr) (oe : Obj) (cls : Value) (d : Option Addr) (pn : List (Addr × Obj)), Zc cls d oe → (∃ vs, oe.data = .fields vs) →
      PSs (Y.suite a ((a, oe) :: pn)) [.Return (some (.Tuple [.Constant (.str k.w) j2 p6, .Call (.Name "repr" p7) [.Attribute (.Name n p8) "at" p9] [] q1, .Call (.Name "isinstance" q2) [.Name n q3, .Name "WreckError" q4] [] q5] k2 q6)) q7] (tsCl Y.K CR i k a cls d) := by
  intro a oe cls d pn hz hf
  refine pss_imp (pss_one (ps_ret (pe_tup (pa_cons pe_str (pa_cons
        (pe_callB (show CallR (Y.suite a ((a, oe) :: pn)) (.builtin "repr") (rRepr Y.K) from call_repr (X := Y.suite a ((a, oe) :: pn)) hga hr.units) (by exact s2) (by exact gr) b_repr (pa_cons (pe_byLow (X := Y) T hz hf (pv (X := Y.suite a ((a, oe) :: pn)) i hN (.inl sn) hnd hnc)) pa_nil))
        (pa_cons (pe_callB (call_isX (X := Y) hz hf hne hkt) (by exact s3) (by exact gi) b_isinstance (pa_cons (pv (X := Y.suite a ((a, oe) :: pn)) i hN (.inl sn) hnd hnc) (pa_cons (pe_glob (v := .ref B) (by exact s4) (by exact gB) rfl) pa_nil))) pa_nil)))))) ?_
  rintro D σ H ⟨h1, e1, dd, v, e2, e3, h4, _⟩
  obtain ⟨pd, e4, e5, e6, e7, e8, e9⟩ := h4 hk
  unfold Cl.tl at e9
  rw [hw] at e9
  exact ⟨.ref a, h1, rfl, e1, dd, v, e2, e3, v, pd, rfl, e4, e5, e6, e7, e8, .ref a, h1, rfl, e1, ⟨dd, _, e2, e3⟩, le1000 (by show 3 ≤ 1000; omega), e9⟩
theorem cl_ft (hk : k.rp = false) (hw : k.wi = true) (hga : Y.A.guards = some []) (hr : Room m Y.A) (hN : Y.N[i]? = some n) (sn : Y.env.kindOf n = some .local) (hnd : (n == ("__debug__" : Str)) = false) (hnc : (n == ("__classdict__" : Str)) = false) (T : PySem.RefX.LowTxt k.cn qn Y.K Y.mg (CR k.cn) fI)
    (hne : CR k.cn ≠ B) (hkt : PySem.W.kitOne Y.K (.ref (CR k.cn)) (.ref B) = some true) (gB : Y.mg "WreckError" = some (.ref B)) (gi : Y.mg "isinstance" = none) (s3 : Gl Y "isinstance") (s4 : Gl Y "WreckError") :
    ∀ (a : Addr) (oe : Obj) (cls : Value) (d : Option Addr) (pn : List (Addr × Obj)), Zc cls d oe → (∃ vs, oe.data = .fields vs) →
      PSs (Y.suite a ((a, oe) :: pn)) [.Return (some (.Tuple [.Constant (.str k.w) j2 p6, .Attribute (.Name n p8) "at" p9, .Call (.Name "isinstance" q2) [.Name n q3, .Name "WreckError" q4] [] q5] k2 q6)) q7] (tsCl Y.K CR i k a cls d) := by
  intro a oe cls d pn hz hf
  refine pss_imp (pss_one (ps_ret (pe_tup (pa_cons pe_str (pa_cons
        (pe_byLow (X := Y) T hz hf (pv (X := Y.suite a ((a, oe) :: pn)) i hN (.inl sn) hnd hnc))
        (pa_cons (pe_callB (call_isX (X := Y) hz hf hne hkt) (by exact s3) (by exact gi) b_isinstance (pa_cons (pv (X := Y.suite a ((a, oe) :: pn)) i hN (.inl sn) hnd hnc) (pa_cons (pe_glob (v := .ref B) (by exact s4) (by exact gB) rfl) pa_nil))) pa_nil)))))) ?_
  rintro D σ H ⟨h1, e1, dd, v, e2, e3, _, h4⟩
  have e9 := h4 hk
  unfold Cl.tl at e9
  rw [hw] at e9
  exact ⟨.ref a, h1, rfl, e1, dd, v, e2, e3, .ref a, h1, rfl, e1, ⟨dd, _, e2, e3⟩, le1000 (by show 3 ≤ 1000; omega), e9⟩
theorem cl_tf (hk : k.rp = true) (hw : k.wi = false) (hga : Y.A.guards = some []) (hr : Room m Y.A) (hN : Y.N[i]? = some n) (sn : Y.env.kindOf n = some .local) (hnd : (n == ("__debug__" : Str)) = false) (hnc : (n == ("__classdict__" : Str)) = false) (T : PySem.RefX.LowTxt k.cn qn Y.K Y.mg (CR k.cn) fI) (gr : Y.mg "repr" = none) (s2 : Gl Y "repr") :
    ∀ (a : Addr) (oe : Obj) (cls : Value) (d : Option Addr) (pn : List (Addr × Obj)), Zc cls d oe → (∃ vs, oe.data = .fields vs) →
      PSs (Y.suite a ((a, oe) :: pn)) [.Return (some (.Tuple [.Constant (.str k.w) j2 p6, .Call (.Name "repr" p7) [.Attribute (.Name n p8) "at" p9] [] q1] k2 q6)) q7] (tsCl Y.K CR i k a cls d) := by
  intro a oe cls d pn hz hf
  refine pss_imp (pss_one (ps_ret (pe_tup (pa_cons pe_str (pa_cons
        (pe_callB (show CallR (Y.suite a ((a, oe) :: pn)) (.builtin "repr") (rRepr Y.K) from call_repr (X := Y.suite a ((a, oe) :: pn)) hga hr.units) (by exact s2) (by exact gr) b_repr (pa_cons (pe_byLow (X := Y) T hz hf (pv (X := Y.suite a ((a, oe) :: pn)) i hN (.inl sn) hnd hnc)) pa_nil))
        pa_nil))))) ?_
  rintro D σ H ⟨h1, e1, dd, v, e2, e3, h4, _⟩
  obtain ⟨pd, e4, e5, e6, e7, e8, e9⟩ := h4 hk
  unfold Cl.tl at e9
  rw [hw] at e9
  exact ⟨.ref a, h1, rfl, e1, dd, v, e2, e3, v, pd, rfl, e4, e5, e6, e7, e8, le1000 (by show 2 ≤ 1000; omega), e9⟩
theorem cl_ff (hk : k.rp = false) (hw : k.wi = false) (hga : Y.A.guards = some []) (hr : Room m Y.A) (hN : Y.N[i]? = some n) (sn : Y.env.kindOf n = some .local) (hnd : (n == ("__debug__" : Str)) = false) (hnc : (n == ("__classdict__" : Str)) = false) (T : PySem.RefX.LowTxt k.cn qn Y.K Y.mg (CR k.cn) fI) :
    ∀ (a : Addr) (oe : Obj) (cls : Value) (d : Option Addr) (pn : List (Addr × Obj)), Zc cls d oe → (∃ vs, oe.data = .fields vs) →
      PSs (Y.suite a ((a, oe) :: pn)) [.Return (some (.Tuple [.Constant (.str k.w) j2 p6, .Attribute (.Name n p8) "at" p9] k2 q6)) q7] (tsCl Y.K CR i k a cls d) := by
  intro a oe cls d pn hz hf
  refine pss_imp (pss_one (ps_ret (pe_tup (pa_cons pe_str (pa_cons
        (pe_byLow (X := Y) T hz hf (pv (X := Y.suite a ((a, oe) :: pn)) i hN (.inl sn) hnd hnc))
        pa_nil))))) ?_
  rintro D σ H ⟨h1, e1, dd, v, e2, e3, _, h4⟩
  have e9 := h4 hk
  unfold Cl.tl at e9
  rw [hw] at e9
  exact ⟨.ref a, h1, rfl, e1, dd, v, e2, e3, le1000 (by show 2 ≤ 1000; omega), e9⟩
end
/-- clauses of a text, and what they tell -/
inductive ClsOk (Y : Cx) (CR : Str → Addr) (i : Nat) (n : Str) : List ExceptHandler → List Cl → Prop
  | nil : ClsOk Y CR i n [] []
  | cons {k : Cl} {b₀ : Stmt} {suite : List Stmt} {np pos' : Pos} {hds : List ExceptHandler} {l : List Cl} (hc : Names Y k.cn (.ref (CR k.cn)))
      (hsu : ∀ (a : Addr) (oe : Obj) (cls : Value) (d : Option Addr) (pn : List (Addr × Obj)), Zc cls d oe → (∃ vs, oe.data = .fields vs) → PSs (Y.suite a ((a, oe) :: pn)) (b₀ :: suite) (tsCl Y.K CR i k a cls d)) (r : ClsOk Y CR i n hds l) :
      ClsOk Y CR i n (.ExceptHandler (some (.Name k.cn np)) (some n) (b₀ :: suite) pos' :: hds) (k :: l)
def wCl (K : PySem.W.Frag) (CR : Str → Addr) (i : Nat) (l : List Cl) : List (Value × TSX) := l.map fun k => (.ref (CR k.cn), tsCl K CR i k)
theorem ClsOk.hds {Y : Cx} {CR : Str → Addr} {i : Nat} {n : Str} {hds : List ExceptHandler} {l : List Cl} (h : ClsOk Y CR i n hds l) : HdsAs Y n hds (wCl Y.K CR i l) := by
  induction h with
  | nil => exact .nil
  | cons hc hsu _ ih => exact .cons hc hsu ih
/-- the error's part -/
def ECl (K : PySem.W.Frag) (CR : Str → Addr) (cs : List Cl) (Q : VK) : XK := fun cls d H' => ∃ (c : Str) (k : Cl), cls = .ref (CR c) ∧ cs.find? (fun k => k.cn == c) = some k ∧ ∃ dd v, d = some dd ∧ H' dd = some (.xd [(("at" : Str), v)]) ∧
  (k.rp = true → ∃ pd, Dp K H' v pd ∧ pd.showable = true ∧ pd.hasDict = false ∧ pd.depth ≤ 60 ∧ pd.shown.length ≤ sizeLine ∧ ∀ p, H' p = none → Q (.ref p) (upd H' p (.tup (.str k.w :: .str pd.shown :: k.tl)))) ∧
  (k.rp = false → ∀ p, H' p = none → Q (.ref p) (upd H' p (.tup (.str k.w :: v :: k.tl))))
/-- classes apart: an exception of one is met by its own clause alone -/
def Apart (K : PySem.W.Frag) (CR : Str → Addr) (cs : List Cl) : Prop := ∀ j ∈ cs, ∀ k ∈ cs, PySem.W.exmOne K (.ref (CR k.cn)) (.ref (CR j.cn)) = some (j.cn == k.cn)
theorem wMany_cl {K : PySem.W.Frag} {CR : Str → Addr} {Wout : WX} {nx bk ct : L2.St → Hp → Prop} {Q : VK} {σ : List (Option V)} {H : Hp} {d : Option Addr} (hl : 1 < σ.length) {c : Str} {k : Cl} : ∀ {l : List Cl}, (∀ j ∈ l, PySem.W.exmOne K (.ref (CR c)) (.ref (CR j.cn)) = some (j.cn == c)) → l.find? (fun k => k.cn == c) = some k →
    (∃ dd v, d = some dd ∧ H dd = some (.xd [(("at" : Str), v)]) ∧
      (k.rp = true → ∃ pd, Dp K H v pd ∧ pd.showable = true ∧ pd.hasDict = false ∧ pd.depth ≤ 60 ∧ pd.shown.length ≤ sizeLine ∧ ∀ p, H p = none → Q (.ref p) (upd H p (.tup (.str k.w :: .str pd.shown :: k.tl)))) ∧
      (k.rp = false → ∀ p, H p = none → Q (.ref p) (upd H p (.tup (.str k.w :: v :: k.tl))))) →
    wManyAs K 1 Wout { nx := nx, rt := Q, bk := bk, ct := ct } (wCl K CR 1 l) (.ref (CR c)) d σ H := by
  intro l
  induction l with
  | nil => intro _ h; cases h
  | cons j r ih =>
    intro ap hf hh
    show ∃ b, _
    refine ⟨j.cn == c, ap j List.mem_cons_self, fun e a ha => ?_, fun e => ?_⟩
    · rw [List.find?_cons, e] at hf
      cases hf
      have e' : k.cn = c := by simpa using e
      exact ⟨List.getElem?_set_self hl, by rw [e'], hh⟩
    · rw [List.find?_cons, e] at hf
      exact ih (fun j' hj => ap j' (List.mem_cons_of_mem _ hj)) hf hh
inductive TM | raw | rep | non
def VCl (m : TM) (K : PySem.W.Frag) (Q : VK) : VK := match m with
  | .raw => fun v H' => [V.str "told", v].length ≤ sizeLine ∧ ∀ p, H' p = none → Q (.ref p) (upd H' p (.tup [.str "told", v]))
  | .rep => fun v H' => rRepr K [v] H' fun w H2 => [V.str "told", w].length ≤ sizeLine ∧ ∀ p, H2 p = none → Q (.ref p) (upd H2 p (.tup [.str "told", w]))
  | .non => fun _ H' => Q .non H'
def TTL (m : TM) (K : PySem.W.Frag) (CR : Str → Addr) (cs : List Cl) : (XK → Hp → VK → Prop) → Hp → VK → Prop := fun tl H Q => tl (ECl K CR cs Q) H (VCl m K Q)
def clD (k : Cl) (x : D) : D := .tup (.str k.w :: x :: k.tlD)
def hResL (m : TM) (cs : List Cl) : Res D → Res D
  | .ok d bx => (match m with
    | .raw => .ok (.tup [.str "told", d]) bx
    | .rep => if showOk d = true then .ok (.tup [.str "told", .str d.py.shown]) bx else .bad
    | .non => .ok .non bx)
  | .err c d bx => (match cs.find? (fun k => k.cn == c) with
    | some k => (match k.rp with
      | true => if showOk d = true then .ok (clD k (.str d.py.shown)) bx else .bad
      | false => .ok (clD k d) bx)
    | none => .bad)
  | .bad => .bad
section
variable {X : Cx} {x q a n : Str} {sg : Scope} {g : Addr} {CR : Str → Addr} {cs : List Cl} {h₀ : ExceptHandler} {hds : List ExceptHandler} {cdg : Value} {k : Nat} {j1 j2 k1 k2 : Nat} {p0 p1 p2 p3 p4 p6 q9 r1 r2 : Pos}
theorem givesL_raw (nd : ([a, n] : List Str).Nodup) (s5 : sg.names.lookup n = some .local)
    (hap : Apart X.K CR cs) (hcl : ∀ (s : Shared) (H : Hp), ClsOk ((cxOf C8.CX0 X.prog X.w X.K X.mg X.base [a, n] x sg g cdg X.A X.stack s H C8.E0).nox) CR 1 n (h₀ :: hds) cs) :
    LamX.GivesTo X [a, n] x sg g cdg [.Try [.Return (some (.Tuple [.Constant (.str "told") j1 p0, .Call (.Name a p1) [] [] p2] k1 p3)) p4] (h₀ :: hds) [] [] q9] a q (TTL .raw X.K CR cs) := by
  intro f c' s H Q tl act hc h
  refine ⟨_, pss_one (ps_try_manyAs (X := (cxOf C8.CX0 X.prog X.w X.K X.mg X.base [a, n] x sg g cdg X.A X.stack s H C8.E0).nox) (i := 1) (Wout := fun _ _ _ _ => False)
      (tb := fun W D σ H => ∃ Ech : XK, (∀ cls d σ' H', Ech cls d H' → σ'.length = 2 → W cls d σ' H') ∧ σ[0]? = some (some (.ref f)) ∧ H c' = some (LamX.CodeO c' q) ∧ tl Ech H fun v H' => [V.str "told", v].length ≤ sizeLine ∧ ∀ p, H' p = none → D.rt (.ref p) (upd H' p (.tup [.str "told", v])))
      rfl rfl nd rfl s5 LamX.takes0 (fun W pn xe tk _ => ?_) (hcl s H).hds), ?_⟩
  · refine ⟨fun pins s' σ H' D I h' => ?_⟩
    obtain ⟨Ech, hW, h1, h2, h3⟩ := h'
    have hp := act _ pn xe Ech p1 p2 (takes_len tk) fun cls d σ' H' he hl => hW cls d σ' H' he hl
    have hq := pss_one (ps_ret (pos := p4) (pe_tup (x1 := k1) (pos := p3) (pa_cons (pe_str (x := "told") (j := j1) (pos := p0)) (pa_cons hp pa_nil))))
    exact hq.run pins s' σ H' D I ⟨h1, h2, h3⟩
  · refine ⟨ECl X.K CR cs Q, fun cls d σ' H' ⟨c, k, e1, e2, e3⟩ hl => ?_, rfl, hc, h⟩
    subst e1
    have hk := List.mem_of_find?_eq_some e2
    have hkc : k.cn = c := by simpa using List.find?_some e2
    exact wMany_cl (by omega) (fun j hj => by rw [← hkc]; exact hap j hj k hk) e2 e3
theorem givesL_rep (hga : X.A.guards = some []) (hr : Room (k + 2) X.A) (nd : ([a, n] : List Str).Nodup) (s5 : sg.names.lookup n = some .local) (s2 : sg.names.lookup ("repr" : Str) = some .globalImplicit) (gr : X.mg "repr" = none)
    (hap : Apart X.K CR cs) (hcl : ∀ (s : Shared) (H : Hp), ClsOk ((cxOf C8.CX0 X.prog X.w X.K X.mg X.base [a, n] x sg g cdg X.A X.stack s H C8.E0).nox) CR 1 n (h₀ :: hds) cs) :
    LamX.GivesTo X [a, n] x sg g cdg [.Try [.Return (some (.Tuple [.Constant (.str "told") j1 p0, .Call (.Name "repr" r1) [.Call (.Name a p1) [] [] p2] [] r2] k1 p3)) p4] (h₀ :: hds) [] [] q9] a q (TTL .rep X.K CR cs) := by
  intro f c' s H Q tl act hc h
  have hga' : (X.A.deeper (envOfC x sg s.heap.objs.size g cdg)).guards = some [] := hga
  have hr' : Room (k + 1) (X.A.deeper (envOfC x sg s.heap.objs.size g cdg)) := hr.deeper _
  refine ⟨_, pss_one (ps_try_manyAs (X := (cxOf C8.CX0 X.prog X.w X.K X.mg X.base [a, n] x sg g cdg X.A X.stack s H C8.E0).nox) (i := 1) (Wout := fun _ _ _ _ => False)
      (tb := fun W D σ H => ∃ Ech : XK, (∀ cls d σ' H', Ech cls d H' → σ'.length = 2 → W cls d σ' H') ∧ σ[0]? = some (some (.ref f)) ∧ H c' = some (LamX.CodeO c' q) ∧ tl Ech H fun v H' => rRepr X.K [v] H' fun w H2 => [V.str "told", w].length ≤ sizeLine ∧ ∀ p, H2 p = none → D.rt (.ref p) (upd H2 p (.tup [.str "told", w])))
      rfl rfl nd rfl s5 LamX.takes0 (fun W pn xe tk _ => ?_) (hcl s H).hds), ?_⟩
  · refine ⟨fun pins s' σ H' D I h' => ?_⟩
    obtain ⟨Ech, hW, h1, h2, h3⟩ := h'
    have hp := act _ pn xe Ech p1 p2 (takes_len tk) fun cls d σ' H' he hl => hW cls d σ' H' he hl
    have hrp := pe_callB (show CallR (((cxOf C8.CX0 X.prog X.w X.K X.mg X.base [a, n] x sg g cdg X.A X.stack s H C8.E0).nox).tr pn xe) (.builtin "repr") (rRepr X.K) from call_repr (X := ((cxOf C8.CX0 X.prog X.w X.K X.mg X.base [a, n] x sg g cdg X.A X.stack s H C8.E0).nox).tr pn xe) hga' hr'.units) (p := r1) (pos := r2) (by exact s2) (by exact gr) b_repr (pa_cons hp pa_nil)
    have hq := pss_one (ps_ret (pos := p4) (pe_tup (x1 := k1) (pos := p3) (pa_cons (pe_str (x := "told") (j := j1) (pos := p0)) (pa_cons hrp pa_nil))))
    exact hq.run pins s' σ H' D I ⟨h1, h2, h3⟩
  · refine ⟨ECl X.K CR cs Q, fun cls d σ' H' ⟨c, k, e1, e2, e3⟩ hl => ?_, rfl, hc, h⟩
    subst e1
    have hk := List.mem_of_find?_eq_some e2
    have hkc : k.cn = c := by simpa using List.find?_some e2
    exact wMany_cl (by omega) (fun j hj => by rw [← hkc]; exact hap j hj k hk) e2 e3
theorem givesL_non (nd : ([a, n] : List Str).Nodup) (s5 : sg.names.lookup n = some .local)
    (hap : Apart X.K CR cs) (hcl : ∀ (s : Shared) (H : Hp), ClsOk ((cxOf C8.CX0 X.prog X.w X.K X.mg X.base [a, n] x sg g cdg X.A X.stack s H C8.E0).nox) CR 1 n (h₀ :: hds) cs) :
    LamX.GivesTo X [a, n] x sg g cdg [.Try [.Expr (.Call (.Name a p1) [] [] p2) p4] (h₀ :: hds) [] [] q9, .Return (some (.Constant .none j1 p3)) p6] a q (TTL .non X.K CR cs) := by
  intro f c' s H Q tl act hc h
  refine ⟨_, pss_cons (ps_try_manyAs (X := (cxOf C8.CX0 X.prog X.w X.K X.mg X.base [a, n] x sg g cdg X.A X.stack s H C8.E0).nox) (i := 1) (Wout := fun _ _ _ _ => False)
      (tb := fun W D σ H => ∃ Ech : XK, (∀ cls d σ' H', Ech cls d H' → σ'.length = 2 → W cls d σ' H') ∧ σ[0]? = some (some (.ref f)) ∧ H c' = some (LamX.CodeO c' q) ∧ tl Ech H fun v H' => D.nx σ H')
      rfl rfl nd rfl s5 LamX.takes0 (fun W pn xe tk _ => ?_) (hcl s H).hds) (pss_one (ps_ret pe_non)), ?_⟩
  · refine ⟨fun pins s' σ H' D I h' => ?_⟩
    obtain ⟨Ech, hW, h1, h2, h3⟩ := h'
    have hp := act _ pn xe Ech p1 p2 (takes_len tk) fun cls d σ' H' he hl => hW cls d σ' H' he hl
    exact (pss_one (ps_expr (pos := p4) hp)).run pins s' σ H' D I ⟨h1, h2, h3⟩
  · refine ⟨ECl X.K CR cs Q, fun cls d σ' H' ⟨c, k, e1, e2, e3⟩ hl => ?_, rfl, hc, h⟩
    subst e1
    have hk := List.mem_of_find?_eq_some e2
    have hkc : k.cn = c := by simpa using List.find?_some e2
    exact wMany_cl (by omega) (fun j hj => by rw [← hkc]; exact hap j hj k hk) e2 e3
end
theorem tl_ra {K : PySem.W.Frag} {β : Mu} {H : Hp} {k : Cl} : RA K β H k.tl k.tlD := by
  unfold Cl.tl Cl.tlD
  cases k.wi
  · exact .nil
  · exact .cons (.bl _) .nil
theorem hresL_of {K : PySem.W.Frag} {P : Pm} {E : XK} {m : TM} {cs : List Cl} {β : Mu} {H : Hp} {r : Res D} {Q : VK} (h : Out K P β H (hResL m cs r) Q E) : Out K P β H r (VCl m K Q) (ECl K P.CR cs Q) := by
  cases r with
  | ok d bx' =>
    cases m with
    | raw => exact fun β' v H' l' g' r => ⟨le1000 (by show 2 ≤ 1000; omega), fun p hp => h _ _ _ (l'.trans (.new hp)) (g'.new hp) (.tup ⟨.inl upd_same, g'.ne hp⟩ (.cons (.str _) (.cons (r.le (.new hp)) .nil)))⟩
    | rep =>
      have o' : Out K P β H (if showOk d = true then .ok (.tup [.str "told", .str d.py.shown]) bx' else .bad) Q E := h
      split at o'
      · rename_i hs
        unfold showOk at hs
        simp only [Bool.and_eq_true, decide_eq_true_eq] at hs
        exact fun β' v H' l' g' r => ⟨v, d.py, rfl, r.dp hs.1.1.1, hs.1.1.2, d.noDict, hs.1.2, hs.2, le1000 (by show 2 ≤ 1000; omega), fun p hp => o' _ _ _ (l'.trans (.new hp)) (g'.new hp) (.tup ⟨.inl upd_same, g'.ne hp⟩ (.cons (.str _) (.cons (.str _) .nil)))⟩
      · exact o'.elim
    | non => exact fun β' v H' l' g' r => h β' .non H' l' g' .non
  | err c d bx' =>
    have o' : Out K P β H (match cs.find? (fun k => k.cn == c) with
      | some k => (match k.rp with
        | true => if showOk d = true then .ok (clD k (.str d.py.shown)) bx' else .bad
        | false => .ok (clD k d) bx')
      | none => .bad) Q E := h
    cases hf : cs.find? (fun k => k.cn == c) with
    | none => rw [hf] at o'; exact o'.elim
    | some k =>
      rw [hf] at o'
      have hkc : k.cn = c := by simpa using List.find?_some hf
      cases hk : k.rp with
      | true =>
        dsimp only at o'
        rw [hk] at o'
        dsimp only at o'
        split at o'
        · rename_i hs
          unfold showOk at hs
          simp only [Bool.and_eq_true, decide_eq_true_eq] at hs
          exact fun β' a v H' l' g' hx r => ⟨c, k, rfl, hf, a, v, rfl, hx, fun _ => ⟨d.py, r.dp hs.1.1.1, hs.1.1.2, d.noDict, hs.1.2, hs.2, fun p hp => o' _ _ _ (l'.trans (.new hp)) (g'.new hp) (.tup ⟨.inl upd_same, g'.ne hp⟩ (.cons (.str _) (.cons (.str _) tl_ra)))⟩, (fun z => by rw [hk] at z; cases z)⟩
        · exact o'.elim
      | false =>
        dsimp only at o'
        rw [hk] at o'
        dsimp only at o'
        exact fun β' a v H' l' g' hx r => ⟨c, k, rfl, hf, a, v, rfl, hx, (fun z => by rw [hk] at z; cases z), fun _ p hp => o' _ _ _ (l'.trans (.new hp)) (g'.new hp) (.tup ⟨.inl upd_same, g'.ne hp⟩ (.cons (.str _) (.cons (r.le (.new hp)) tl_ra)))⟩
  | bad => exact h.elim
end Ms

end
section
set_option Elab.async false
set_option linter.all false
set_option maxRecDepth 100000
set_option maxHeartbeats 4000000
namespace K23
open PySem PySem.Spec PyProof.Rows L2 Ms
def CLS : List Cl := [⟨"Refused", "refused", true, true⟩]
abbrev N__law_box : List Str := ["_law_script", "_law_k", "_law_cell", "_law_great"]
def S__law_box : Sn := (sSeq (sSet 2 (f2 cPlus (f2 cMul (pur (.int 5197)) (fVar 1)) (pur (.int 509)))) (sSeq (sIf (fB (f2 (iB fun i j => decide (i < j)) (fVar 1) (fA cLen (fCons (fVar 0) (pur []))))) (sSeq (sSet 2 (fA cAbs (fCons (fA cInt (fCons (f2 cIx (fVar 0) (fVar 1)) (pur []))) (pur [])))) sNext) (sSeq (sIf (fB (f2 (iB fun i j => decide (j < i)) (fA cLen (fCons (fVar 0) (pur []))) (pur (.int 0)))) (sSeq (sSet 2 (f2 cPlus (fVar 2) (f2 cMul (f2 cMod (fA cInt (fCons (fA cAbs (fCons (fA cInt (fCons (f2 cIx (fVar 0) (f2 cMod (fA cInt (fCons (fVar 1) (pur []))) (fA cLen (fCons (fVar 0) (pur []))))) (pur []))) (pur []))) (pur []))) (pur (.int 2147483563))) (pur (.int 50131))))) sNext) sNext) sNext)) (sSeq (sSet 3 (fIfT (fB (f2 (iB fun i j => decide (j ≤ i)) (fVar 2) (f2 cPow (pur (.int 10)) (pur (.int 18))))) (fVar 2) (pur (.int 0)))) (sSeq (sRet (fNew (fCons (fVar 3) (fCons (f2 cPlus (f2 cMod (fA cInt (fCons (f2 cPlus (f2 cMul (f2 cMod (fA cInt (fCons (fVar 2) (pur []))) (pur (.int 2147483563))) (pur (.int 58231))) (f2 cMul (pur (.int 811)) (fVar 1))) (pur []))) (pur (.int 2147483563))) (pur (.int 1))) (pur []))))) sNext))))
def m__law_box : List D → Sto → Res D := fun ds bx => noErr (fnD N__law_box S__law_box ds bx)

abbrev N__law_turned : List Str := ["_law_number", "_law_found", "_law_here", "_law_turn"]
def S__law_turned : Sn := (sSeq (sPar 1 2 (fCons (pur (.int 1)) (fCons (f2 cMod (fA cInt (fCons (fVar 0) (pur []))) (pur (.int 257))) (pur [])))) (sSeq (sFor (bOne 3) (fRg1 (fCons (pur (.int 8)) (pur []))) (sSeq (sSet 1 (f2 cMod (fA cInt (fCons (f2 cMul (fVar 1) (fVar 2)) (pur []))) (pur (.int 257)))) (sSeq (sSet 2 (f2 cMod (fA cInt (fCons (f2 cMul (fVar 2) (fVar 2)) (pur []))) (pur (.int 257)))) sNext))) (sSeq (sRet (fVar 1)) sNext)))
def m__law_turned : List D → Sto → Res D := fun ds bx => noErr (fnD N__law_turned S__law_turned ds bx)

abbrev N__law_at : List Str := ["_law_points", "_law_place", "_law_found", "_law_factor", "_law_known", "_law_here", "_law_value", "_law_due", "_law_above", "_law_other", "_law_at_here"]
def S__law_at : Sn := (sSeq (sPar3 2 3 4 (fCons (pur (.int 0)) (fCons (pur (.int 1)) (fCons (fNew (pur [])) (pur []))))) (sSeq (sFor (bTup [5, 6]) (fWk (fVar 0)) (sSeq (sPar3 7 8 9 (fCons (fVar 6) (fCons (pur (.int 1)) (fCons (pur (.int 0)) (pur []))))) (sSeq (sFor (bOne 10) (fRg1 (fCons (fA cLen (fCons (fVar 4) (pur []))) (pur []))) (sSeq (sSet 9 (f2 cPlus (fVar 9) (f2 cMul (f2 cIx (fVar 4) (fVar 10)) (fVar 8)))) (sSeq (sSet 8 (f2 cMod (f2 cMul (fVar 8) (f2 cSub (fVar 5) (f2 cIx (f2 cIx (fVar 0) (fVar 10)) (pur (.int 0))))) (pur (.int 257)))) sNext))) (sSeq (sApp (fVar 4) (f2 cMod (f2 cMul (f2 cSub (fVar 7) (fVar 9)) (fCall m__law_turned (fCons (fVar 8) (pur [])))) (pur (.int 257)))) sNext)))) (sSeq (sFrz 4) (sSeq (sFor (bOne 10) (fRg1 (fCons (fA cLen (fCons (fVar 4) (pur []))) (pur []))) (sSeq (sSet 2 (f2 cPlus (fVar 2) (f2 cMul (f2 cIx (fVar 4) (fVar 10)) (fVar 3)))) (sSeq (sSet 3 (f2 cMod (f2 cMul (fVar 3) (f2 cSub (fVar 1) (f2 cIx (f2 cIx (fVar 0) (fVar 10)) (pur (.int 0))))) (pur (.int 257)))) sNext))) (sSeq (sRet (f2 cMod (fA cInt (fCons (fVar 2) (pur []))) (pur (.int 257)))) sNext)))))
def m__law_at : List D → Sto → Res D := fun ds bx => noErr (fnD N__law_at S__law_at ds bx)

abbrev N__law_line : List Str := ["_law_need", "_law_count", "_law_data", "_law_points", "_law_at_here", "_law_chip"]
def S__law_line : Sn := (sSeq (sSet 3 (fLc [4] (bOne 4) (fRg1 (fCons (fVar 0) (pur []))) (pur true) (fA cTup (fCons (fVar 4) (fCons (f2 cIx (fVar 2) (fVar 4)) (pur [])))))) (sSeq (sRet (fLc [5] (bOne 5) (fRg1 (fCons (fVar 1) (pur []))) (pur true) (fCall m__law_at (fCons (fVar 3) (fCons (fVar 5) (pur [])))))) sNext))
def m__law_line : List D → Sto → Res D := fun ds bx => noErr (fnD N__law_line S__law_line ds bx)

abbrev N__law_take : List Str := ["_law_box_here", "_law_many", "_law_digit", "_law_raw"]
def S__law_take : Sn := (sSeq (sIf (fB (f2 (iB fun i j => decide (j < i)) (f2 cIx (fVar 0) (pur (.int 0))) (pur (.int 0)))) (sSeq (sSet 2 (f2 cMod (fA cInt (fCons (f2 cIx (fVar 0) (pur (.int 0))) (pur []))) (fVar 1))) (sSeq (sPut (f2 cDiv (f2 cIx (fVar 0) (pur (.int 0))) (fVar 1)) (fVar 0) (pur (.int 0))) (sSeq (sRet (fVar 2)) sNext))) sNext) (sSeq (sSet 3 (f2 cMod (fA cInt (fCons (f2 cPlus (f2 cMul (f2 cIx (fVar 0) (pur (.int 1))) (pur (.int 39373))) (pur (.int 71))) (pur []))) (pur (.int 2147483647)))) (sSeq (sPut (f2 cPlus (f2 cMod (fA cInt (fCons (f2 cPlus (f2 cMul (fVar 3) (pur (.int 40692))) (pur (.int 37))) (pur []))) (pur (.int 2147483563))) (pur (.int 1))) (fVar 0) (pur (.int 1))) (sSeq (sRet (f2 cMod (fA cInt (fCons (f2 cDiv (f2 cPlus (f2 cMul (fVar 3) (pur (.int 2147483629))) (f2 cIx (fVar 0) (pur (.int 1)))) (pur (.int 8233))) (pur []))) (fVar 1))) sNext))))
def m__law_take : List D → Sto → Res D := fun ds bx => noErr (fnD N__law_take S__law_take ds bx)

abbrev N__law_pick : List Str := ["_law_box_here", "_law_some"]
def S__law_pick : Sn := (sSeq (sRet (f2 cIx (fVar 1) (fCall m__law_take (fCons (fVar 0) (fCons (fA cLen (fCons (fVar 1) (pur []))) (pur [])))))) sNext)
def m__law_pick : List D → Sto → Res D := fun ds bx => noErr (fnD N__law_pick S__law_pick ds bx)

abbrev N_is_integer : List Str := ["value"]
def S_is_integer : Sn := (sSeq (sRet (fIfB (f1 (cIsi "int") (fVar 0)) (f1 cNot (f1 (cIsi "bool") (fVar 0))) (pur (.bl false)))) sNext)
def m_is_integer : List D → Sto → Res D := fun ds bx => noErr (fnD N_is_integer S_is_integer ds bx)

abbrev N_is_within : List Str := ["value", "least", "most"]
def S_is_within : Sn := (sSeq (sRet (fIfB (fCall m_is_integer (fCons (fVar 0) (pur []))) (fChain (fun i j => decide (i ≤ j)) (fun i j => decide (i ≤ j)) (fVar 1) (fVar 0) (fVar 2)) (pur (.bl false)))) sNext)
def m_is_within : List D → Sto → Res D := fun ds bx => noErr (fnD N_is_within S_is_within ds bx)

abbrev N_need_within : List Str := ["value", "least", "most"]
def S_need_within : Sn := (sSeq (sIf (fNot (fB (fCall m_is_within (fCons (fVar 0) (fCons (fVar 1) (fCons (fVar 2) (pur []))))))) (sSeq (sRaise "Refused" (fVar 0)) sNext) sNext) sNext)
def m_need_within : List D → Sto → Res D := fnD N_need_within S_need_within

abbrev N_need_code : List Str := ["count", "need"]
def S_need_code : Sn := (sSeq (sDrop (fCall m_need_within (fCons (fVar 0) (fCons (pur (.int 2)) (fCons (pur (.int 8)) (pur [])))))) (sSeq (sDrop (fCall m_need_within (fCons (fVar 1) (fCons (pur (.int 1)) (fCons (fVar 0) (pur [])))))) sNext))
def m_need_code : List D → Sto → Res D := fnD N_need_code S_need_code

abbrev N__cells_of : List Str := ["lines", "line"]
def S__cells_of : Sn := (sSeq (sRet (fA cTupOf (fCons (fLc [1] (bOne 1) (fWk (fVar 0)) (pur true) (f2 cIx (fVar 1) (pur (.int 0)))) (pur [])))) sNext)
def m__cells_of : List D → Sto → Res D := fun ds bx => noErr (fnD N__cells_of S__cells_of ds bx)

abbrev N_is_sequence : List Str := ["value"]
def S_is_sequence : Sn := (sSeq (sRet (f1 (cIsi2 "list" "tuple") (fVar 0))) sNext)
def m_is_sequence : List D → Sto → Res D := fun ds bx => noErr (fnD N_is_sequence S_is_sequence ds bx)

abbrev N_has_parts : List Str := ["value", "many"]
def S_has_parts : Sn := (sSeq (sRet (fIfB (fCall m_is_sequence (fCons (fVar 0) (pur []))) (f2 cEqD (fA cLen (fCons (fVar 0) (pur []))) (fVar 1)) (pur (.bl false)))) sNext)
def m_has_parts : List D → Sto → Res D := fun ds bx => noErr (fnD N_has_parts S_has_parts ds bx)

abbrev N_are_cells : List Str := ["value", "many", "cell"]
def S_are_cells : Sn := (sSeq (sIf (fNot (fB (fCall m_has_parts (fCons (fVar 0) (fCons (fVar 1) (pur [])))))) (sSeq (sRet (pur (.bl false))) sNext) sNext) (sSeq (sFor (bOne 2) (fWk (fVar 0)) (sSeq (sIf (fIfT (fNot (fB (f1 (cIsi "int") (fVar 2)))) (pur true) (fIfT (fB (f1 (cIsi "bool") (fVar 2))) (pur true) (fIfT (fB (f2 (iB fun i j => decide (i < j)) (fVar 2) (pur (.int 0)))) (pur true) (fB (f2 (iB fun i j => decide (j ≤ i)) (fVar 2) (pur (.int 257))))))) (sSeq (sRet (pur (.bl false))) sNext) sNext) sNext)) (sSeq (sRet (pur (.bl true))) sNext)))
def m_are_cells : List D → Sto → Res D := fun ds bx => noErr (fnD N_are_cells S_are_cells ds bx)

abbrev N__shares : List Str := ["chips", "at", "shares", "one", "top", "bottom", "other"]
def S__shares : Sn := (sSeq (sSet 2 (fNew (pur []))) (sSeq (sFor (bOne 3) (fWk (fVar 0)) (sSeq (sSet 4 (pur (.int 1))) (sSeq (sSet 5 (pur (.int 1))) (sSeq (sFor (bOne 6) (fWk (fVar 0)) (sSeq (sIf (fB (f2 cNeD (fVar 6) (fVar 3))) (sSeq (sSet 4 (f2 cMod (f2 cMul (fVar 4) (f2 cSub (fVar 1) (fVar 6))) (pur (.int 257)))) (sSeq (sSet 5 (f2 cMod (f2 cMul (fVar 5) (f2 cSub (fVar 3) (fVar 6))) (pur (.int 257)))) sNext)) sNext) sNext)) (sSeq (sApp (fVar 2) (f2 cMod (f2 cMul (fVar 4) (fA cPow3 (fCons (fA cInt (fCons (fVar 5) (pur []))) (fCons (pur (.int 255)) (fCons (pur (.int 257)) (pur [])))))) (pur (.int 257)))) sNext))))) (sSeq (sFrz 2) (sSeq (sRet (fVar 2)) sNext))))
def m__shares : List D → Sto → Res D := fun ds bx => noErr (fnD N__shares S__shares ds bx)

abbrev N__line_at : List Str := ["lines", "chips", "at", "total", "share", "chip", "was", "cell"]
def S__line_at : Sn := (sSeq (sIf (fB (f2 (cIn false) (fVar 2) (fVar 1))) (sSeq (sRet (f2 cIx (fVar 0) (fVar 2))) sNext) sNext) (sSeq (sSet 3 (f2 cRep (fNew (fCons (pur (.int 0)) (pur []))) (fA cLen (fCons (f2 cIx (fVar 0) (f2 cIx (fVar 1) (pur (.int 0)))) (pur []))))) (sSeq (sFor (bTup [4, 5]) (fZipX (fCons (fCall m__shares (fCons (fVar 1) (fCons (fVar 2) (pur [])))) (fCons (fVar 1) (pur [])))) (sSeq (sSet 3 (fLc [6, 7] (bTup [6, 7]) (fZipX (fCons (fVar 3) (fCons (f2 cIx (fVar 0) (fVar 5)) (pur [])))) (pur true) (f2 cPlus (fVar 6) (f2 cMul (fVar 4) (fVar 7))))) sNext)) (sSeq (sRet (fA cTupOf (fCons (fLc [7] (bOne 7) (fWk (fVar 3)) (pur true) (f2 cMod (fVar 7) (pur (.int 257)))) (pur [])))) sNext))))
def m__line_at : List D → Sto → Res D := fun ds bx => noErr (fnD N__line_at S__line_at ds bx)

abbrev N_coded_lines : List Str := ["count", "data", "chip"]
def S_coded_lines : Sn := (sSeq (sRet (fA cTupOf (fCons (fLc [2] (bOne 2) (fRg1 (fCons (fVar 0) (pur []))) (pur true) (fCall m__line_at (fCons (fVar 1) (fCons (f1 cLstRg1 (fA cLen (fCons (fVar 1) (pur [])))) (fCons (fVar 2) (pur [])))))) (pur [])))) sNext)
def m_coded_lines : List D → Sto → Res D := fun ds bx => noErr (fnD N_coded_lines S_coded_lines ds bx)

abbrev N_coded : List Str := ["count", "need", "data", "cell"]
def S_coded : Sn := (sSeq (sDrop (fCall m_need_code (fCons (fVar 0) (fCons (fVar 1) (pur []))))) (sSeq (sIf (fNot (fB (fCall m_are_cells (fCons (fVar 2) (fCons (fVar 1) (pur [])))))) (sSeq (sRaise "Refused" (fVar 2)) sNext) sNext) (sSeq (sRet (fCall m__cells_of (fCons (fCall m_coded_lines (fCons (fVar 0) (fCons (fLc [3] (bOne 3) (fWk (fVar 2)) (pur true) (fA cTup (fCons (fVar 3) (pur [])))) (pur [])))) (pur [])))) sNext)))
def m_coded : List D → Sto → Res D := fnD N_coded S_coded

abbrev N__agree : List Str := ["need", "lines", "chips", "chip"]
def S__agree : Sn := (sSeq (sFor (bOne 3) (fWk (fSl (fVar 2) (fPo (fVar 0)) fPoN)) (sSeq (sIf (fB (f2 cNeD (fCall m__line_at (fCons (fVar 1) (fCons (fSl (fVar 2) fPoN (fPo (fVar 0))) (fCons (fVar 3) (pur []))))) (f2 cIx (fVar 1) (fVar 3)))) (sSeq (sRet (pur (.bl false))) sNext) sNext) sNext)) (sSeq (sRet (pur (.bl true))) sNext))
def m__agree : List D → Sto → Res D := fun ds bx => noErr (fnD N__agree S__agree ds bx)

abbrev N__chips_with : List Str := ["lines", "chip", "line"]
def S__chips_with : Sn := (sSeq (sRet (fLc [1, 2] (bTup [1, 2]) (fEnum (fCons (fVar 0) (pur []))) (fB (f1 cNotN (fVar 2))) (fVar 1))) sNext)
def m__chips_with : List D → Sto → Res D := fun ds bx => noErr (fnD N__chips_with S__chips_with ds bx)

abbrev N_lines_fit : List Str := ["need", "lines"]
def S_lines_fit : Sn := (sSeq (sRet (fCall m__agree (fCons (fVar 0) (fCons (fVar 1) (fCons (fCall m__chips_with (fCons (fVar 1) (pur []))) (pur [])))))) sNext)
def m_lines_fit : List D → Sto → Res D := fun ds bx => noErr (fnD N_lines_fit S_lines_fit ds bx)

abbrev N_is_below : List Str := ["value", "bound"]
def S_is_below : Sn := (sSeq (sRet (fIfB (fCall m_is_integer (fCons (fVar 0) (pur []))) (fChain (fun i j => decide (i ≤ j)) (fun i j => decide (i < j)) (pur (.int 0)) (fVar 0) (fVar 1)) (pur (.bl false)))) sNext)
def m_is_below : List D → Sto → Res D := fun ds bx => noErr (fnD N_is_below S_is_below ds bx)

abbrev N__row_lines : List Str := ["count", "need", "row", "cell"]
def S__row_lines : Sn := (sSeq (sDrop (fCall m_need_code (fCons (fVar 0) (fCons (fVar 1) (pur []))))) (sSeq (sIf (fNot (fB (fCall m_has_parts (fCons (fVar 2) (fCons (fVar 0) (pur [])))))) (sSeq (sRaise "Refused" (fVar 2)) sNext) sNext) (sSeq (sFor (bOne 3) (fWk (fVar 2)) (sSeq (sIf (fIfT (fB (f1 cNotN (fVar 3))) (fNot (fB (fCall m_is_below (fCons (fVar 3) (fCons (pur (.int 257)) (pur [])))))) (pur false)) (sSeq (sRaise "Refused" (fVar 2)) sNext) sNext) sNext)) (sSeq (sRet (fLc [3] (bOne 3) (fWk (fVar 2)) (pur true) (fIfT (fB (f1 cIsN (fVar 3))) (pur .non) (fA cTup (fCons (fVar 3) (pur [])))))) sNext))))
def m__row_lines : List D → Sto → Res D := fnD N__row_lines S__row_lines

abbrev N_fits : List Str := ["count", "need", "row"]
def S_fits : Sn := (sSeq (sRet (fCall m_lines_fit (fCons (fVar 1) (fCons (fCall m__row_lines (fCons (fVar 0) (fCons (fVar 1) (fCons (fVar 2) (pur []))))) (pur []))))) sNext)
def m_fits : List D → Sto → Res D := fnD N_fits S_fits

abbrev N_told_lines : List Str := ["need", "lines", "chips", "at"]
def S_told_lines : Sn := (sSeq (sSet 2 (fCall m__chips_with (fCons (fVar 1) (pur [])))) (sSeq (sIf (fIfT (fB (f2 (iB fun i j => decide (i < j)) (fA cLen (fCons (fVar 2) (pur []))) (fVar 0))) (pur true) (fNot (fB (fCall m__agree (fCons (fVar 0) (fCons (fVar 1) (fCons (fVar 2) (pur [])))))))) (sSeq (sRet (pur .non)) sNext) sNext) (sSeq (sRet (fA cTupOf (fCons (fLc [3] (bOne 3) (fRg1 (fCons (fVar 0) (pur []))) (pur true) (fCall m__line_at (fCons (fVar 1) (fCons (fSl (fVar 2) fPoN (fPo (fVar 0))) (fCons (fVar 3) (pur [])))))) (pur [])))) sNext)))
def m_told_lines : List D → Sto → Res D := fun ds bx => noErr (fnD N_told_lines S_told_lines ds bx)

abbrev N_told_data : List Str := ["count", "need", "row", "data"]
def S_told_data : Sn := (sSeq (sSet 3 (fCall m_told_lines (fCons (fVar 1) (fCons (fCall m__row_lines (fCons (fVar 0) (fCons (fVar 1) (fCons (fVar 2) (pur []))))) (pur []))))) (sSeq (sRet (fIfT (fB (f1 cIsN (fVar 3))) (pur .non) (fCall m__cells_of (fCons (fVar 3) (pur []))))) sNext))
def m_told_data : List D → Sto → Res D := fnD N_told_data S_told_data

abbrev N__law_none_right : List Str := ["_law_box_here", "_law_count", "_law_need", "_law_bad", "_law_none", "_law_asks", "_law_ask", "_law_data", "_law_row"]
def BL__law_none_right : Nat → List D → Sto → Res D
  | 0 => lamR 2 (fCall m_coded (fCons (fVar 0) (fCons (fVar 1) (fCons (pur .non) (pur [])))))
  | 1 => lamR 2 (fCall m_fits (fCons (fVar 0) (fCons (fVar 1) (fCons (pur .non) (pur [])))))
  | 2 => lamR 2 (fCall m_told_data (fCons (fVar 0) (fCons (fVar 1) (fCons (pur .non) (pur [])))))
  | _ => fun _ _ => .bad
def S__law_none_right : Sn := (sSeq (sUnp [3, 4] (fA cTup (fCons (fCall m__law_pick (fCons (fVar 0) (fCons (fA cLst (fCons (pur .non) (fCons (pur (.int 1)) (fCons (pur (.int 9)) (fCons (pur (.bl true)) (fCons (f2 cSub (pur (.int 0)) (pur (.int 2))) (fCons (pur (.str "3")) (pur [])))))))) (pur [])))) (fCons (fCall m__law_pick (fCons (fVar 0) (fCons (fA cLst (fCons (pur .non) (fCons (pur (.int 0)) (fCons (f2 cPlus (fVar 1) (pur (.int 1))) (fCons (pur (.bl true)) (fCons (pur (.str "1")) (pur []))))))) (pur [])))) (pur []))))) (sSeq (sSet 5 (fNew (fCons (fLam 0) (pur [])))) (sSeq (sApp (fVar 5) (fLam 1)) (sSeq (sApp (fVar 5) (fLam 2)) (sSeq (sFrz 5) (sSeq (sFor (bOne 6) (fWk (fVar 5)) (sSeq (sIf (fB (f2 cNeD (fHeardG (hResL .rep CLS) (fCallL BL__law_none_right (fVar 6) (fCons (fVar 3) (fCons (fVar 4) (pur []))))) (fA cTup (fCons (pur (.str "refused")) (fCons (fA cRepr (fCons (fVar 3) (pur []))) (fCons (pur (.bl true)) (pur []))))))) (sSeq (sRet (pur (.bl false))) sNext) sNext) (sSeq (sIf (fB (f2 cNeD (fHeardG (hResL .rep CLS) (fCallL BL__law_none_right (fVar 6) (fCons (fVar 1) (fCons (fVar 4) (pur []))))) (fA cTup (fCons (pur (.str "refused")) (fCons (fA cRepr (fCons (fVar 4) (pur []))) (fCons (pur (.bl true)) (pur []))))))) (sSeq (sRet (pur (.bl false))) sNext) sNext) sNext))) (sSeq (sSet 7 (fCall m__law_pick (fCons (fVar 0) (fCons (fA cLst (fCons (pur .non) (fCons (pur (.int 5)) (fCons (f2 cMulS (pur (.str "0")) (fVar 2)) (fCons (f2 cRep (fNew (fCons (pur (.int 0)) (pur []))) (f2 cSub (fVar 2) (pur (.int 1)))) (fCons (f2 cRep (fNew (fCons (pur (.int 0)) (pur []))) (f2 cPlus (fVar 2) (pur (.int 1)))) (fCons (f2 cRep (fNew (fCons (pur (.int 257)) (pur []))) (fVar 2)) (fCons (f2 cRep (fNew (fCons (pur .non) (pur []))) (fVar 2)) (fCons (f2 cRep (fNew (fCons (f2 cSub (pur (.int 0)) (pur (.int 1))) (pur []))) (fVar 2)) (fCons (f2 cRep (fNew (fCons (pur (.bl true)) (pur []))) (fVar 2)) (pur []))))))))))) (pur []))))) (sSeq (sIf (fB (f2 cNeD (fHeardG (hResL .rep CLS) (fCall m_coded (fCons (fVar 1) (fCons (fVar 2) (fCons (fVar 7) (pur [])))))) (fA cTup (fCons (pur (.str "refused")) (fCons (fA cRepr (fCons (fVar 7) (pur []))) (fCons (pur (.bl true)) (pur []))))))) (sSeq (sRet (pur (.bl false))) sNext) sNext) (sSeq (sSet 8 (fCall m__law_pick (fCons (fVar 0) (fCons (fA cLst (fCons (pur .non) (fCons (pur (.int 5)) (fCons (f2 cMulS (pur (.str "0")) (fVar 1)) (fCons (f2 cRep (fNew (fCons (pur (.int 0)) (pur []))) (f2 cSub (fVar 1) (pur (.int 1)))) (fCons (f2 cRep (fNew (fCons (pur (.int 0)) (pur []))) (f2 cPlus (fVar 1) (pur (.int 1)))) (fCons (f2 cRep (fNew (fCons (pur (.int 257)) (pur []))) (fVar 1)) (fCons (f2 cRep (fNew (fCons (f2 cSub (pur (.int 0)) (pur (.int 1))) (pur []))) (fVar 1)) (fCons (f2 cRep (fNew (fCons (pur (.bl true)) (pur []))) (fVar 1)) (pur [])))))))))) (pur []))))) (sSeq (sIf (fB (f2 cNeD (fHeardG (hResL .rep CLS) (fCall m_fits (fCons (fVar 1) (fCons (fVar 2) (fCons (fVar 8) (pur [])))))) (fA cTup (fCons (pur (.str "refused")) (fCons (fA cRepr (fCons (fVar 8) (pur []))) (fCons (pur (.bl true)) (pur []))))))) (sSeq (sRet (pur (.bl false))) sNext) sNext) (sSeq (sRet (f2 cEqD (fHeardG (hResL .rep CLS) (fCall m_told_data (fCons (fVar 1) (fCons (fVar 2) (fCons (fVar 8) (pur [])))))) (fA cTup (fCons (pur (.str "refused")) (fCons (fA cRepr (fCons (fVar 8) (pur []))) (fCons (pur (.bl true)) (pur []))))))) sNext)))))))))))
def m__law_none_right : List D → Sto → Res D := fun ds bx => hideR (noErr (fnD N__law_none_right S__law_none_right ds (hide bx)))

abbrev N__law_row_right : List Str := ["_law_count", "_law_need", "_law_row", "_law_points", "_law_chip", "_law_due", "_law_one", "_law_data"]
def S__law_row_right : Sn := (sSeq (sSet 3 (fLc [4] (bOne 4) (fRg1 (fCons (fVar 0) (pur []))) (fB (f1 cNotN (f2 cIx (fVar 2) (fVar 4)))) (fA cTup (fCons (fVar 4) (fCons (f2 cIx (fVar 2) (fVar 4)) (pur [])))))) (sSeq (sSet 5 (f2 cEqD (fLc [6] (bOne 6) (fWk (fSl (fVar 3) (fPo (fVar 1)) fPoN)) (fB (f2 cNeD (fCall m__law_at (fCons (fSl (fVar 3) fPoN (fPo (fVar 1))) (fCons (f2 cIx (fVar 6) (pur (.int 0))) (pur [])))) (f2 cIx (fVar 6) (pur (.int 1))))) (fVar 6)) (fA cLst (pur [])))) (sSeq (sIf (fB (f2 cNeD (fA cRepr (fCons (fA cLst (fCons (fCall m_fits (fCons (fVar 0) (fCons (fVar 1) (fCons (fVar 2) (pur []))))) (fCons (fCallK m_fits [2, 1, 0] (fCons (fA cTupOf (fCons (fVar 2) (pur []))) (fCons (fVar 1) (fCons (fVar 0) (pur []))))) (pur [])))) (pur []))) (fA cRepr (fCons (fA cLst (fCons (fVar 5) (fCons (fVar 5) (pur [])))) (pur []))))) (sSeq (sRet (pur (.bl false))) sNext) sNext) (sSeq (sSet 7 (pur .non)) (sSeq (sIf (fIfT (fTru (fVar 5)) (fB (f2 (iB fun i j => decide (j ≤ i)) (fA cLen (fCons (fVar 3) (pur []))) (fVar 1))) (pur false)) (sSeq (sSet 7 (fA cTupOf (fCons (fLc [4] (bOne 4) (fRg1 (fCons (fVar 1) (pur []))) (pur true) (fCall m__law_at (fCons (fSl (fVar 3) fPoN (fPo (fVar 1))) (fCons (fVar 4) (pur []))))) (pur [])))) sNext) sNext) (sSeq (sRet (f2 cEqD (fA cRepr (fCons (fA cLst (fCons (fCall m_told_data (fCons (fVar 0) (fCons (fVar 1) (fCons (fVar 2) (pur []))))) (fCons (fCallK m_told_data [2, 1, 0] (fCons (fA cTupOf (fCons (fVar 2) (pur []))) (fCons (fVar 1) (fCons (fVar 0) (pur []))))) (pur [])))) (pur []))) (fA cRepr (fCons (fA cLst (fCons (fVar 7) (fCons (fVar 7) (pur [])))) (pur []))))) sNext))))))
def m__law_row_right : List D → Sto → Res D := fun ds bx => noErr (fnD N__law_row_right S__law_row_right ds bx)

abbrev N__law_few_right : List Str := ["_law_box_here", "_law_count", "_law_need", "_law_line_here", "_law_chips", "_law_some", "_law_turn", "_law_kept", "_law_row", "_law_at_here", "_law_data", "_law_whole", "_law_chip"]
def S__law_few_right : Sn := (sSeq (sPar 4 5 (fCons (fRgM (fVar 1)) (fCons (fNew (pur [])) (pur [])))) (sSeq (sFor (bOne 6) (fRg1 (fCons (fVar 2) (pur []))) (sSeq (sApp (fVar 5) (fPopAt (fVar 4) (fCall m__law_take (fCons (fVar 0) (fCons (fA cLen (fCons (fVar 4) (pur []))) (pur [])))))) sNext)) (sSeq (sFrz 5) (sSeq (sSet 7 (fCall m__law_take (fCons (fVar 0) (fCons (fVar 2) (pur []))))) (sSeq (sSet 8 (fRepM (fNew (fCons (pur .non) (pur []))) (fVar 1))) (sSeq (sFor (bOne 9) (fRg1 (fCons (fVar 2) (pur []))) (sSeq (sPut (fIfT (fB (f2 (iB fun i j => decide (i < j)) (fVar 9) (fVar 7))) (f2 cIx (fVar 3) (f2 cIx (fVar 5) (fVar 9))) (fCall m__law_take (fCons (fVar 0) (fCons (pur (.int 257)) (pur []))))) (fVar 8) (f2 cIx (fVar 5) (fVar 9))) sNext)) (sSeq (sFrz 8) (sSeq (sSet 10 (fCall m_told_data (fCons (fVar 1) (fCons (fVar 2) (fCons (fVar 8) (pur [])))))) (sSeq (sIf (fIfT (fNot (fB (f1 (cIsi "tuple") (fVar 10)))) (pur true) (fNot (fB (fCall m_fits (fCons (fVar 1) (fCons (fVar 2) (fCons (fVar 8) (pur [])))))))) (sSeq (sRet (pur (.bl false))) sNext) sNext) (sSeq (sSet 11 (fCall m_coded (fCons (fVar 1) (fCons (fVar 2) (fCons (fVar 10) (pur [])))))) (sSeq (sRet (f2 cEqD (fLc [12] (bOne 12) (fWk (fVar 5)) (fB (f2 cNeD (f2 cIx (fVar 11) (fVar 12)) (f2 cIx (fVar 8) (fVar 12)))) (fVar 12)) (fA cLst (pur [])))) sNext)))))))))))
def m__law_few_right : List D → Sto → Res D := fun ds bx => noErr (fnD N__law_few_right S__law_few_right ds bx)

abbrev N_law : List Str := ["_law_script", "_law_k", "_law_box_here", "_law_count", "_law_need", "_law_data", "_law_at_here", "_law_line_here", "_law_turn", "_law_row", "_law_one"]
def S_law : Sn := (sSeq (sFor (bOne 1) (fRg1 (fCons (pur (.int 4)) (pur []))) (sSeq (sSet 2 (fCall m__law_box (fCons (fVar 0) (fCons (fVar 1) (pur []))))) (sSeq (sSet 3 (f2 cPlus (pur (.int 2)) (fCall m__law_take (fCons (fVar 2) (fCons (pur (.int 7)) (pur [])))))) (sSeq (sSet 4 (f2 cPlus (pur (.int 1)) (fCall m__law_take (fCons (fVar 2) (fCons (fVar 3) (pur [])))))) (sSeq (sSet 5 (fLc [6] (bOne 6) (fRg1 (fCons (fVar 4) (pur []))) (pur true) (fCall m__law_pick (fCons (fVar 2) (fCons (fA cLst (fCons (fCall m__law_take (fCons (fVar 2) (fCons (pur (.int 257)) (pur [])))) (fCons (pur (.int 256)) (fCons (pur (.int 0)) (fCons (pur (.int 1)) (pur [])))))) (pur [])))))) (sSeq (sSet 7 (fCall m__law_line (fCons (fVar 4) (fCons (fVar 3) (fCons (fVar 5) (pur [])))))) (sSeq (sIf (fB (f2 cNeD (fA cRepr (fCons (fA cLst (fCons (fCall m_coded (fCons (fVar 3) (fCons (fVar 4) (fCons (fVar 5) (pur []))))) (fCons (fCallK m_coded [2, 1, 0] (fCons (fA cTupOf (fCons (fVar 5) (pur []))) (fCons (fVar 4) (fCons (fVar 3) (pur []))))) (pur [])))) (pur []))) (fA cRepr (fCons (f2 cRep (fNew (fCons (fA cTupOf (fCons (fVar 7) (pur []))) (pur []))) (pur (.int 2))) (pur []))))) (sSeq (sRet (pur (.bl false))) sNext) sNext) (sSeq (sFor (bOne 8) (fRg1 (fCons (pur (.int 5)) (pur []))) (sSeq (sSet 9 (fLcM [10] (bOne 10) (fWk (fVar 7)) (pur true) (fIfT (fB (f2 cEqD (fCall m__law_take (fCons (fVar 2) (fCons (pur (.int 3)) (pur [])))) (pur (.int 0)))) (pur .non) (fVar 10)))) (sSeq (sIf (fB (f2 cEqD (fCall m__law_take (fCons (fVar 2) (fCons (pur (.int 2)) (pur [])))) (pur (.int 0)))) (sSeq (sSet 6 (fCall m__law_take (fCons (fVar 2) (fCons (fVar 3) (pur []))))) (sSeq (sPut (fCall m__law_pick (fCons (fVar 2) (fCons (fA cLst (fCons (pur .non) (fCons (fCall m__law_take (fCons (fVar 2) (fCons (pur (.int 257)) (pur [])))) (fCons (f2 cMod (fA cInt (fCons (f2 cPlus (f2 cIx (fVar 7) (fVar 6)) (pur (.int 1))) (pur []))) (pur (.int 257))) (pur []))))) (pur [])))) (fVar 9) (fVar 6)) sNext)) sNext) (sSeq (sFrz 9) (sSeq (sIf (fIfT (fNot (fB (fCall m__law_row_right (fCons (fVar 3) (fCons (fVar 4) (fCons (fVar 9) (pur []))))))) (pur true) (fNot (fB (fCall m__law_few_right (fCons (fVar 2) (fCons (fVar 3) (fCons (fVar 4) (fCons (fVar 7) (pur []))))))))) (sSeq (sRet (pur (.bl false))) sNext) sNext) sNext))))) (sSeq (sIf (fNot (fB (fCall m__law_none_right (fCons (fVar 2) (fCons (fVar 3) (fCons (fVar 4) (pur []))))))) (sSeq (sRet (pur (.bl false))) sNext) sNext) sNext))))))))) (sSeq (sRet (pur (.bl true))) sNext))
def m_law : List D → Sto → Res D := fun ds bx => noErr (fnD N_law S_law ds bx)
/-- what the mathematics gives: at every script the law's mirror is true -/
def LawIs : Prop := ∀ ns : List Int, ns.length ≤ 63 → ∃ st, m_law [.scr ns] [] = .ok (.bl true) st
end K23

end
section
set_option Elab.async false
set_option linter.all false
set_option maxRecDepth 100000
set_option maxHeartbeats 4000000
namespace K23
open PySem PySem.Spec PyProof.Rows L2 Ms
def topS (i : Nat) : Stmt := PySem.Challenge.pw_wrecktold_k23_whole_any_that_are_enough.main.body.getD i (.Pass ⟨0, 0, 0, 0⟩)
structure Txt (K : PySem.W.Frag) (mg : Str → Option Value) (P : Pm) (fI_Refused : Addr) : Prop where
  abs : mg "abs" = none
  bool : mg "bool" = none
  enumerate : mg "enumerate" = none
  int : mg "int" = none
  isinstance : mg "isinstance" = none
  len : mg "len" = none
  list : mg "list" = none
  pow : mg "pow" = none
  range : mg "range" = none
  repr : mg "repr" = none
  tuple : mg "tuple" = none
  zip : mg "zip" = none
  CELL_BOUND : ∃ t, mg "CELL_BOUND" = some (.int 257 t)
  LEAST_CHIPS : ∃ t, mg "LEAST_CHIPS" = some (.int 2 t)
  MOST_CHIPS : ∃ t, mg "MOST_CHIPS" = some (.int 8 t)
  low_Refused : PySem.RefX.LowTxt "Refused" "Refused.__init__" K mg (P.CR "Refused") fI_Refused
  heard : ∃ (aH : Addr) (ocH kVH docH pmH cdH ctH : Value) (odH anH : Option Addr) (oslH : Array (Option Value)), mg "_law_heard" = some (.ref aH) ∧ PySem.W.keepIn K (.ref aH) = true ∧
    K.lookup aH = some ⟨ocH, odH, .func (PySem.W.fnOf "_law_heard" "_law_heard" (defArgs (topS 32)) (defBody (topS 32)) (defScope (topS 32)) .none kVH docH pmH anH cdH ctH), oslH⟩ ∧ PySem.W.codeIn K cdH "_law_heard" = true ∧
    L2.Binds K (PySem.W.fnOf "_law_heard" "_law_heard" (defArgs (topS 32)) (defBody (topS 32)) (defScope (topS 32)) .none kVH docH pmH anH cdH ctH) ["_law_ask"] []
  ap : Apart K P.CR CLS
  wr : ∃ B, mg "WreckError" = some (.ref B) ∧ (∀ k ∈ CLS, P.CR k.cn ≠ B) ∧ (∀ k ∈ CLS, PySem.W.kitOne K (.ref (P.CR k.cn)) (.ref B) = some true)
theorem sc_heard : FnScope ["_law_ask", "fault"] ["_law_ask"] (defScope (topS 32)) := ⟨rfl, rfl, rfl, by decide +kernel, rfl, by decide +kernel, by decide +kernel⟩
theorem hrd {X : Cx} {P : Pm} {E : XK} {F : Fn D} {c Pt fI_Refused : Addr} {k : Nat} {params : Arguments} {body : Expr} {scope : Scope} {p lpos pos : Pos} (T : Txt X.K X.mg P fI_Refused) (hga : X.A.guards = some []) (hr : Room (k + 2) X.A)
    (TB : LamX.TabB X.base X.mg c Pt) (hcode : X.env.code = .ref c) (hmT : (Pt, X.env.qual ++ "<lambda>") ∈ P.T.tb) (hu : ∀ q ∈ P.T.tb, q.1 = Pt → q.2 = X.env.qual ++ "<lambda>") (L : LamX.LamS X.env.scope scope) (hdef : defaultsOf params X.env = ([], []))
    (hbind : ∀ (q : Str) (cl : List (Str × Addr)) (pm cv ctv : Value), bindArgs (PySem.W.kla_fn "<lambda>" q params body scope cl pm cv ctv) ⟨[], []⟩ = pure [])
    (hbody : ∀ (A : Around) (outer : List Env) (s : Shared) (H : Hp) (E' : XK) (f c' : Addr), Room k (A.deeper (LamX.lamEnv X scope s.heap.objs.size f c')) → ED (LamX.lamCx X A outer s H E' scope f c') P E' body F) (hg : Gl X "_law_heard" := by rfl) :
    ED X P E (.Call (.Name "_law_heard" p) [.Lambda params body scope lpos] [] pos) (fHeardG (hResL .rep CLS) F) := by
  obtain ⟨aH, ocH, kVH, docH, pmH, cdH, ctH, odH, anH, oslH, gH, kH, lH, cH, bH⟩ := T.heard
  obtain ⟨B, gB, ne, kit⟩ := T.wr
  exact ed_heardG (hTT := fun _ _ _ => rfl) (hof := fun _ _ _ _ h => hresL_of h) hg gH kH lH cH bH sc_heard rfl (.inl rfl) (givesL_rep (k := 0) hga (hr.mono (Nat.le_add_left 2 k)) (by decide +kernel) rfl rfl T.repr T.ap fun s H => .cons (k := ⟨"Refused", "refused", true, true⟩) ⟨rfl, by decide, .inl T.low_Refused.gC⟩ (cl_tt (k := ⟨"Refused", "refused", true, true⟩) (i := 1) rfl rfl hga ((hr.mono (Nat.le_add_left 2 k)).deeper _) rfl rfl (by decide) (by decide) T.low_Refused T.repr rfl (ne ⟨"Refused", "refused", true, true⟩ (by simp [CLS])) (kit ⟨"Refused", "refused", true, true⟩ (by simp [CLS])) gB T.isinstance rfl rfl) (.nil)) TB hcode hmT hu hr L hdef hbind hbody
theorem hrdV {X : Cx} {P : Pm} {E : XK} {F : Fn D} {B : Nat → Fn D} {fI_Refused : Addr} {k : Nat} {y : Str} {p py pos : Pos} (T : Txt X.K X.mg P fI_Refused) (hga : X.A.guards = some []) (hr : Room (k + 2) X.A) (h : ED X P E (.Name y py) F)
    (ls : List LamI) (hlm : P.T.lm = lmOf X.env.cells (X.env.qual ++ "<lambda>") ls) (all : ∀ n i, ls[n]? = some i → LamX.LamS X.env.scope i.scope ∧ (∀ (q : Str) (cl : List (Str × Addr)) (pm cv ctv : Value), bindArgs (PySem.W.kla_fn "<lambda>" q i.params i.body i.scope cl pm cv ctv) ⟨[], []⟩ = pure []) ∧
      ∀ (A : Around) (outer : List Env) (s : Shared) (H : Hp) (E' : XK) (f c' : Addr), Room k (A.deeper (LamX.lamEnv X i.scope s.heap.objs.size f c')) → ED (LamX.lamCx X A outer s H E' i.scope f c') P E' i.body (B n)) (hg : Gl X "_law_heard" := by rfl) :
    ED X P E (.Call (.Name "_law_heard" p) [.Name y py] [] pos) (fHeardVG (hResL .rep CLS) F B) := by
  obtain ⟨aH, ocH, kVH, docH, pmH, cdH, ctH, odH, anH, oslH, gH, kH, lH, cH, bH⟩ := T.heard
  obtain ⟨B, gB, ne, kit⟩ := T.wr
  exact ed_heardVG (hTT := fun _ _ _ => rfl) (hof := fun _ _ _ _ h => hresL_of h) hg gH kH lH cH bH sc_heard rfl (.inl rfl) (givesL_rep (k := 0) hga (hr.mono (Nat.le_add_left 2 k)) (by decide +kernel) rfl rfl T.repr T.ap fun s H => .cons (k := ⟨"Refused", "refused", true, true⟩) ⟨rfl, by decide, .inl T.low_Refused.gC⟩ (cl_tt (k := ⟨"Refused", "refused", true, true⟩) (i := 1) rfl rfl hga ((hr.mono (Nat.le_add_left 2 k)).deeper _) rfl rfl (by decide) (by decide) T.low_Refused T.repr rfl (ne ⟨"Refused", "refused", true, true⟩ (by simp [CLS])) (kit ⟨"Refused", "refused", true, true⟩ (by simp [CLS])) gB T.isinstance rfl rfl) (.nil)) hr h fun n f H h => hl_of all n f H (by rw [← hlm]; exact h)
theorem hrdB {X : Cx} {P : Pm} {E : XK} {F : Fn D} {B : Nat → Fn D} {fI_Refused : Addr} {k : Nat} {y : Str} {p py pos : Pos} {scb : Scope} {tb : Shared} {Hb : Hp} {Cc : Addr} {cl : List (Str × Addr)} {fp : List Addr} {pins0 : List (Addr × Obj)} {σ0 : L2.St} {is : List Nat} (T : Txt X.K X.mg P fI_Refused) (hga : X.A.guards = some []) (hr : Room (k + 2) X.A) (out : OutI X (blkX X scb tb Hb Cc cl fp) pins0 σ0) (h : ED (blkX X scb tb Hb Cc cl fp) P E (.Name y py) F)
    (ls : List LamI) (hlm : P.T.lm = lmOf X.env.cells (X.env.qual ++ "<lambda>") ls) (all : ∀ n i, ls[n]? = some i → LamX.LamS X.env.scope i.scope ∧ (∀ (q : Str) (cl : List (Str × Addr)) (pm cv ctv : Value), bindArgs (PySem.W.kla_fn "<lambda>" q i.params i.body i.scope cl pm cv ctv) ⟨[], []⟩ = pure []) ∧
      ∀ (A : Around) (outer : List Env) (s : Shared) (H : Hp) (E' : XK) (f c' : Addr), Room k (A.deeper (LamX.lamEnv X i.scope s.heap.objs.size f c')) → ED (LamX.lamCx X A outer s H E' i.scope f c') P E' i.body (B n)) (hg : Gl (blkX X scb tb Hb Cc cl fp) "_law_heard" := by rfl) :
    PE (blkX X scb tb Hb Cc cl fp) (.Call (.Name "_law_heard" p) [.Name y py] [] pos) (fun σ H Q => wipe σ is = wipe σ0 is ∧ tD X.K P E (fHeardVB (hResL .rep CLS) is F B) σ H Q) := by
  obtain ⟨aH, ocH, kVH, docH, pmH, cdH, ctH, odH, anH, oslH, gH, kH, lH, cH, bH⟩ := T.heard
  obtain ⟨B, gB, ne, kit⟩ := T.wr
  exact pe_heardVB (hTT := fun _ _ _ => rfl) (hof := fun _ _ _ _ h => hresL_of h) out hg gH kH lH cH bH sc_heard rfl (.inl rfl) (givesL_rep (k := 0) hga (hr.mono (Nat.le_add_left 2 k)) (by decide +kernel) rfl rfl T.repr T.ap fun s H => .cons (k := ⟨"Refused", "refused", true, true⟩) ⟨rfl, by decide, .inl T.low_Refused.gC⟩ (cl_tt (k := ⟨"Refused", "refused", true, true⟩) (i := 1) rfl rfl hga ((hr.mono (Nat.le_add_left 2 k)).deeper _) rfl rfl (by decide) (by decide) T.low_Refused T.repr rfl (ne ⟨"Refused", "refused", true, true⟩ (by simp [CLS])) (kit ⟨"Refused", "refused", true, true⟩ (by simp [CLS])) gB T.isinstance rfl rfl) (.nil)) hr h fun n f H h => hl_of all n f H (by rw [← hlm]; exact h)
section
variable {Pg : Program} {w : World} {K : PySem.W.Frag} {mg : Str → Option Value} {base : Heap} {P : Pm} {fI_Refused : Addr}
theorem nd__law_box : N__law_box.Nodup := by decide +kernel
theorem sc__law_box : FnScope N__law_box ["_law_script", "_law_k"] (defScope (topS 29)) := ⟨rfl, rfl, rfl, by decide +kernel, rfl, by decide +kernel, by decide +kernel⟩
theorem ok__law_box {f : Addr} {oc kV doc pm cdv ct : Value} {od an : Option Addr} {osl : Array (Option Value)} (T : Txt K mg P fI_Refused)   (l29 : K.lookup f = some ⟨oc, od, .func (PySem.W.fnOf "_law_box" "_law_box" (defArgs (topS 29)) (defBody (topS 29)) (defScope (topS 29)) .none kV doc pm an cdv ct), osl⟩) (hcd : PySem.W.codeIn K cdv "_law_box" = true) (kp : PySem.W.keepIn K (.ref f) = true) (hm : mg "_law_box" = some (.ref f)) : DfB false Pg w K mg base P CX0 1 "_law_box" (topS 29) ["_law_script", "_law_k"] m__law_box :=
  df_B0 (gd := false) (N := N__law_box) (S := S__law_box) (k := 0) l29 hcd kp hm sc__law_box (fun _ _ _ _ _ _ us hl => match us, hl with | [_, _], _ => rfl) fun A outer s H hga hr => (ssd_cons (sd_set 2 nd__law_box rfl (.inl rfl) (ed_plus (ed_mul ed_int (ed_var 1)) ed_int))
      (ssd_cons (sd_if (et_lt (ed_var 1) (ed_blt call_lenA cd_len (by rfl) T.len b_len (ea_cons (ed_var 0) ea_nil))) (ssd_cons (sd_set 2 nd__law_box rfl (.inl rfl) (ed_blt call_abs cd_abs (by rfl) T.abs b_abs (ea_cons (ed_ty call_int1 cd_int (by rfl) T.int b_int (ea_cons (ed_ix (ed_var 0) (ed_var 1) (fun _ _ => rfl)) ea_nil)) ea_nil)))
      ssd_nil) (ssd_cons (sd_if (et_gt (ed_blt call_lenA cd_len (by rfl) T.len b_len (ea_cons (ed_var 0) ea_nil)) ed_int) (ssd_cons (sd_set 2 nd__law_box rfl (.inl rfl) (ed_plus (ed_var 2) (ed_mul (ed_mod (ed_ty call_int1 cd_int (by rfl) T.int b_int (ea_cons (ed_blt call_abs cd_abs (by rfl) T.abs b_abs (ea_cons (ed_ty call_int1 cd_int (by rfl) T.int b_int (ea_cons (ed_ix (ed_var 0) (ed_mod (ed_ty call_int1 cd_int (by rfl) T.int b_int (ea_cons (ed_var 1) ea_nil)) (ed_blt call_lenA cd_len (by rfl) T.len b_len (ea_cons (ed_var 0) ea_nil))) (fun _ _ => rfl)) ea_nil)) ea_nil)) ea_nil)) ed_int) ed_int)))
      ssd_nil) ssd_nil)
      ssd_nil))
      (ssd_cons (sd_set 3 nd__law_box rfl (.inl rfl) (ed_ifExp (et_ge (ed_var 2) (ed_pow ed_int ed_int)) (ed_var 2) ed_int))
      (ssd_cons (sd_ret (ed_lstM (ea_cons (ed_var 3) (ea_cons (ed_plus (ed_mod (ed_ty call_int1 cd_int (by rfl) T.int b_int (ea_cons (ed_plus (ed_mul (ed_mod (ed_ty call_int1 cd_int (by rfl) T.int b_int (ea_cons (ed_var 2) ea_nil)) ed_int) ed_int) (ed_mul ed_int (ed_var 1))) ea_nil)) ed_int) ed_int) ea_nil))))
      ssd_nil))))

theorem nd__law_turned : N__law_turned.Nodup := by decide +kernel
theorem sc__law_turned : FnScope N__law_turned ["_law_number"] (defScope (topS 34)) := ⟨rfl, rfl, rfl, by decide +kernel, rfl, by decide +kernel, by decide +kernel⟩
theorem ok__law_turned {f : Addr} {oc kV doc pm cdv ct : Value} {od an : Option Addr} {osl : Array (Option Value)} (T : Txt K mg P fI_Refused)   (l34 : K.lookup f = some ⟨oc, od, .func (PySem.W.fnOf "_law_turned" "_law_turned" (defArgs (topS 34)) (defBody (topS 34)) (defScope (topS 34)) .none kV doc pm an cdv ct), osl⟩) (hcd : PySem.W.codeIn K cdv "_law_turned" = true) (kp : PySem.W.keepIn K (.ref f) = true) (hm : mg "_law_turned" = some (.ref f)) : DfB false Pg w K mg base P CX0 1 "_law_turned" (topS 34) ["_law_number"] m__law_turned :=
  df_B0 (gd := false) (N := N__law_turned) (S := S__law_turned) (k := 0) l34 hcd kp hm sc__law_turned (fun _ _ _ _ _ _ us hl => match us, hl with | [_], _ => rfl) fun A outer s H hga hr => (ssd_cons (sd_par 1 2 rfl nd__law_turned rfl rfl (by decide) rfl rfl (ea_cons ed_int (ea_cons (ed_mod (ed_ty call_int1 cd_int (by rfl) T.int b_int (ea_cons (ed_var 0) ea_nil)) ed_int) ea_nil)) (by rfl))
      (ssd_cons (sd_for PassesOwn.never rfl (ei_rg1 (by rfl) T.range (ea_cons ed_int ea_nil)) (pg_name (i := 3) nd__law_turned rfl (.inl rfl)) (gd_one 3) (ssd_cons (sd_set 1 nd__law_turned rfl (.inl rfl) (ed_mod (ed_ty call_int1 cd_int (by rfl) T.int b_int (ea_cons (ed_mul (ed_var 1) (ed_var 2)) ea_nil)) ed_int))
      (ssd_cons (sd_set 2 nd__law_turned rfl (.inl rfl) (ed_mod (ed_ty call_int1 cd_int (by rfl) T.int b_int (ea_cons (ed_mul (ed_var 2) (ed_var 2)) ea_nil)) ed_int))
      ssd_nil)))
      (ssd_cons (sd_ret (ed_var 1))
      ssd_nil)))

theorem nd__law_at : N__law_at.Nodup := by decide +kernel
theorem sc__law_at : FnScope N__law_at ["_law_points", "_law_place"] (defScope (topS 33)) := ⟨rfl, rfl, rfl, by decide +kernel, rfl, by decide +kernel, by decide +kernel⟩
theorem ok__law_at {f : Addr} {oc kV doc pm cdv ct : Value} {od an : Option Addr} {osl : Array (Option Value)} (T : Txt K mg P fI_Refused) (D__law_turned : DfB false Pg w K mg base P CX0 1 "_law_turned" (topS 34) ["_law_number"] m__law_turned)  (l33 : K.lookup f = some ⟨oc, od, .func (PySem.W.fnOf "_law_at" "_law_at" (defArgs (topS 33)) (defBody (topS 33)) (defScope (topS 33)) .none kV doc pm an cdv ct), osl⟩) (hcd : PySem.W.codeIn K cdv "_law_at" = true) (kp : PySem.W.keepIn K (.ref f) = true) (hm : mg "_law_at" = some (.ref f)) : DfB false Pg w K mg base P CX0 2 "_law_at" (topS 33) ["_law_points", "_law_place"] m__law_at :=
  df_B0 (gd := false) (N := N__law_at) (S := S__law_at) (k := 1) l33 hcd kp hm sc__law_at (fun _ _ _ _ _ _ us hl => match us, hl with | [_, _], _ => rfl) fun A outer s H hga hr => (ssd_cons (sd_par3 2 3 4 rfl nd__law_at rfl rfl rfl (by decide) (by decide) (by decide) rfl rfl rfl (ea_cons ed_int (ea_cons ed_int (ea_cons (ed_lstM ea_nil) ea_nil))) (by rfl))
      (ssd_cons (sd_for PassesOwn.never rfl (ei_any (ed_var 0)) (pg_tl (is := [5, 6]) rfl (pgs_cons (pg_name (i := 5) nd__law_at rfl (.inl rfl)) (pgs_cons (pg_name (i := 6) nd__law_at rfl (.inl rfl)) pgs_nil))) (gd_tup [5, 6] rfl) (ssd_cons (sd_par3 7 8 9 rfl nd__law_at rfl rfl rfl (by decide) (by decide) (by decide) rfl rfl rfl (ea_cons (ed_var 6) (ea_cons ed_int (ea_cons ed_int ea_nil))) (by rfl))
      (ssd_cons (sd_for PassesOwn.never rfl (ei_rg1 (by rfl) T.range (ea_cons (ed_blt call_lenA cd_len (by rfl) T.len b_len (ea_cons (ed_var 4) ea_nil)) ea_nil)) (pg_name (i := 10) nd__law_at rfl (.inl rfl)) (gd_one 10) (ssd_cons (sd_set 9 nd__law_at rfl (.inl rfl) (ed_plus (ed_var 9) (ed_mul (ed_ix (ed_var 4) (ed_var 10) (fun _ _ => rfl)) (ed_var 8))))
      (ssd_cons (sd_set 8 nd__law_at rfl (.inl rfl) (ed_mod (ed_mul (ed_var 8) (ed_sub (ed_var 5) (ed_ix (ed_ix (ed_var 0) (ed_var 10) (fun _ _ => rfl)) ed_int (fun _ _ => rfl)))) ed_int))
      ssd_nil)))
      (ssd_cons (sd_app (ed_var 4) (ed_mod (ed_mul (ed_sub (ed_var 7) (ed_var 9)) (ed_callB noG D__law_turned (hr.mono (by decide)) pass0' (by rfl) (ea_cons (ed_var 8) ea_nil) (len_cons (fun _ _ _ _ h => len_nil h)))) ed_int))
      ssd_nil))))
      (ssd_frz 4 (ssd_cons (sd_for PassesOwn.never rfl (ei_rg1 (by rfl) T.range (ea_cons (ed_blt call_lenA cd_len (by rfl) T.len b_len (ea_cons (ed_var 4) ea_nil)) ea_nil)) (pg_name (i := 10) nd__law_at rfl (.inl rfl)) (gd_one 10) (ssd_cons (sd_set 2 nd__law_at rfl (.inl rfl) (ed_plus (ed_var 2) (ed_mul (ed_ix (ed_var 4) (ed_var 10) (fun _ _ => rfl)) (ed_var 3))))
      (ssd_cons (sd_set 3 nd__law_at rfl (.inl rfl) (ed_mod (ed_mul (ed_var 3) (ed_sub (ed_var 1) (ed_ix (ed_ix (ed_var 0) (ed_var 10) (fun _ _ => rfl)) ed_int (fun _ _ => rfl)))) ed_int))
      ssd_nil)))
      (ssd_cons (sd_ret (ed_mod (ed_ty call_int1 cd_int (by rfl) T.int b_int (ea_cons (ed_var 2) ea_nil)) ed_int))
      ssd_nil)))))

theorem nd__law_line : N__law_line.Nodup := by decide +kernel
theorem sc__law_line : FnScope N__law_line ["_law_need", "_law_count", "_law_data"] (defScope (topS 35)) := ⟨rfl, rfl, rfl, by decide +kernel, rfl, by decide +kernel, by decide +kernel⟩
theorem ok__law_line {f : Addr} {oc kV doc pm cdv ct : Value} {od an : Option Addr} {osl : Array (Option Value)} (T : Txt K mg P fI_Refused) (D__law_at : DfB false Pg w K mg base P CX0 2 "_law_at" (topS 33) ["_law_points", "_law_place"] m__law_at)  (l35 : K.lookup f = some ⟨oc, od, .func (PySem.W.fnOf "_law_line" "_law_line" (defArgs (topS 35)) (defBody (topS 35)) (defScope (topS 35)) .none kV doc pm an cdv ct), osl⟩) (hcd : PySem.W.codeIn K cdv "_law_line" = true) (kp : PySem.W.keepIn K (.ref f) = true) (hm : mg "_law_line" = some (.ref f)) : DfB false Pg w K mg base P CX0 3 "_law_line" (topS 35) ["_law_need", "_law_count", "_law_data"] m__law_line :=
  df_B0 (gd := false) (N := N__law_line) (S := S__law_line) (k := 2) l35 hcd kp hm sc__law_line (fun _ _ _ _ _ _ us hl => match us, hl with | [_, _, _], _ => rfl) fun A outer s H hga hr => (ssd_cons (sd_set 3 nd__law_line rfl (.inr rfl) (ed_lc (own := [("_law_at_here", 4)]) rfl nd__law_line (ei_rg1 (by rfl) T.range (ea_cons (ed_var 0) ea_nil)) (blkOk_by (own := [("_law_at_here", 4)]) (N := N__law_line) (sc := defScope (topS 35)) (by decide +kernel)) (gd_one 4) (fun _ _ _ _ _ => (pg_name (i := 4) nd__law_line rfl (by first | exact .inl rfl | exact .inr rfl))) (fun _ _ _ _ _ => et_yes) (fun _ _ _ _ _ => (ed_tup (ea_cons (ed_var 4) (ea_cons (ed_ix (ed_var 2) (ed_var 4) (fun _ _ => rfl)) ea_nil))))))
      (ssd_cons (sd_ret (ed_lc (own := [("_law_chip", 5)]) rfl nd__law_line (ei_rg1 (by rfl) T.range (ea_cons (ed_var 1) ea_nil)) (blkOk_by (own := [("_law_chip", 5)]) (N := N__law_line) (sc := defScope (topS 35)) (by decide +kernel)) (gd_one 5) (fun _ _ _ _ _ => (pg_name (i := 5) nd__law_line rfl (by first | exact .inl rfl | exact .inr rfl))) (fun _ _ _ _ _ => et_yes) (fun _ _ _ _ _ => (ed_callB noG D__law_at (hr.mono (by decide)) pass0' (by rfl) (ea_cons (ed_var 3) (ea_cons (ed_var 5) ea_nil)) (len_cons (len_cons (fun _ _ _ _ h => len_nil h)))))))
      ssd_nil))

theorem nd__law_take : N__law_take.Nodup := by decide +kernel
theorem sc__law_take : FnScope N__law_take ["_law_box_here", "_law_many"] (defScope (topS 30)) := ⟨rfl, rfl, rfl, by decide +kernel, rfl, by decide +kernel, by decide +kernel⟩
theorem ok__law_take {f : Addr} {oc kV doc pm cdv ct : Value} {od an : Option Addr} {osl : Array (Option Value)} (T : Txt K mg P fI_Refused)   (l30 : K.lookup f = some ⟨oc, od, .func (PySem.W.fnOf "_law_take" "_law_take" (defArgs (topS 30)) (defBody (topS 30)) (defScope (topS 30)) .none kV doc pm an cdv ct), osl⟩) (hcd : PySem.W.codeIn K cdv "_law_take" = true) (kp : PySem.W.keepIn K (.ref f) = true) (hm : mg "_law_take" = some (.ref f)) : DfB false Pg w K mg base P CX0 1 "_law_take" (topS 30) ["_law_box_here", "_law_many"] m__law_take :=
  df_B0 (gd := false) (N := N__law_take) (S := S__law_take) (k := 0) l30 hcd kp hm sc__law_take (fun _ _ _ _ _ _ us hl => match us, hl with | [_, _], _ => rfl) fun A outer s H hga hr => (ssd_cons (sd_if (et_gt (ed_ix (ed_var 0) ed_int (fun _ _ => rfl)) ed_int) (ssd_cons (sd_set 2 nd__law_take rfl (.inl rfl) (ed_mod (ed_ty call_int1 cd_int (by rfl) T.int b_int (ea_cons (ed_ix (ed_var 0) ed_int (fun _ _ => rfl)) ea_nil)) (ed_var 1)))
      (ssd_cons (sd_put (ed_div (ed_ix (ed_var 0) ed_int (fun _ _ => rfl)) (ed_var 1)) (ed_var 0) ed_int)
      (ssd_cons (sd_ret (ed_var 2))
      ssd_nil))) ssd_nil)
      (ssd_cons (sd_set 3 nd__law_take rfl (.inl rfl) (ed_mod (ed_ty call_int1 cd_int (by rfl) T.int b_int (ea_cons (ed_plus (ed_mul (ed_ix (ed_var 0) ed_int (fun _ _ => rfl)) ed_int) ed_int) ea_nil)) ed_int))
      (ssd_cons (sd_put (ed_plus (ed_mod (ed_ty call_int1 cd_int (by rfl) T.int b_int (ea_cons (ed_plus (ed_mul (ed_var 3) ed_int) ed_int) ea_nil)) ed_int) ed_int) (ed_var 0) ed_int)
      (ssd_cons (sd_ret (ed_mod (ed_ty call_int1 cd_int (by rfl) T.int b_int (ea_cons (ed_div (ed_plus (ed_mul (ed_var 3) ed_int) (ed_ix (ed_var 0) ed_int (fun _ _ => rfl))) ed_int) ea_nil)) (ed_var 1)))
      ssd_nil))))

theorem nd__law_pick : N__law_pick.Nodup := by decide +kernel
theorem sc__law_pick : FnScope N__law_pick ["_law_box_here", "_law_some"] (defScope (topS 31)) := ⟨rfl, rfl, rfl, by decide +kernel, rfl, by decide +kernel, by decide +kernel⟩
theorem ok__law_pick {f : Addr} {oc kV doc pm cdv ct : Value} {od an : Option Addr} {osl : Array (Option Value)} (T : Txt K mg P fI_Refused) (D__law_take : DfB false Pg w K mg base P CX0 1 "_law_take" (topS 30) ["_law_box_here", "_law_many"] m__law_take)  (l31 : K.lookup f = some ⟨oc, od, .func (PySem.W.fnOf "_law_pick" "_law_pick" (defArgs (topS 31)) (defBody (topS 31)) (defScope (topS 31)) .none kV doc pm an cdv ct), osl⟩) (hcd : PySem.W.codeIn K cdv "_law_pick" = true) (kp : PySem.W.keepIn K (.ref f) = true) (hm : mg "_law_pick" = some (.ref f)) : DfB false Pg w K mg base P CX0 2 "_law_pick" (topS 31) ["_law_box_here", "_law_some"] m__law_pick :=
  df_B0 (gd := false) (N := N__law_pick) (S := S__law_pick) (k := 1) l31 hcd kp hm sc__law_pick (fun _ _ _ _ _ _ us hl => match us, hl with | [_, _], _ => rfl) fun A outer s H hga hr => (ssd_cons (sd_ret (ed_ix (ed_var 1) (ed_callB noG D__law_take (hr.mono (by decide)) pass0' (by rfl) (ea_cons (ed_var 0) (ea_cons (ed_blt call_lenA cd_len (by rfl) T.len b_len (ea_cons (ed_var 1) ea_nil)) ea_nil)) (len_cons (len_cons (fun _ _ _ _ h => len_nil h)))) (fun _ _ => rfl)))
      ssd_nil)

theorem nd_is_integer : N_is_integer.Nodup := by decide +kernel
theorem sc_is_integer : FnScope N_is_integer ["value"] (defScope (topS 4)) := ⟨rfl, rfl, rfl, by decide +kernel, rfl, by decide +kernel, by decide +kernel⟩
theorem ok_is_integer {f : Addr} {oc kV doc pm cdv ct : Value} {od an : Option Addr} {osl : Array (Option Value)} (T : Txt K mg P fI_Refused)   (l4 : K.lookup f = some ⟨oc, od, .func (PySem.W.fnOf "is_integer" "is_integer" (defArgs (topS 4)) (defBody (topS 4)) (defScope (topS 4)) .none kV doc pm an cdv ct), osl⟩) (hcd : PySem.W.codeIn K cdv "is_integer" = true) (kp : PySem.W.keepIn K (.ref f) = true) (hm : mg "is_integer" = some (.ref f)) : DfB false Pg w K mg base P CX0 1 "is_integer" (topS 4) ["value"] m_is_integer :=
  df_B0 (gd := false) (N := N_is_integer) (S := S_is_integer) (k := 0) l4 hcd kp hm sc_is_integer (fun _ _ _ _ _ _ us hl => match us, hl with | [_], _ => rfl) fun A outer s H hga hr => (ssd_cons (sd_ret (ed_and (ed_isi (by rfl) T.isinstance b_isinstance (ed_var 0) (by rfl) T.int b_int) (ed_one (ed_not (ed_isi (by rfl) T.isinstance b_isinstance (ed_var 0) (by rfl) T.bool b_bool)))))
      ssd_nil)

theorem nd_is_within : N_is_within.Nodup := by decide +kernel
theorem sc_is_within : FnScope N_is_within ["value", "least", "most"] (defScope (topS 5)) := ⟨rfl, rfl, rfl, by decide +kernel, rfl, by decide +kernel, by decide +kernel⟩
theorem ok_is_within {f : Addr} {oc kV doc pm cdv ct : Value} {od an : Option Addr} {osl : Array (Option Value)} (T : Txt K mg P fI_Refused) (D_is_integer : DfB false Pg w K mg base P CX0 1 "is_integer" (topS 4) ["value"] m_is_integer)  (l5 : K.lookup f = some ⟨oc, od, .func (PySem.W.fnOf "is_within" "is_within" (defArgs (topS 5)) (defBody (topS 5)) (defScope (topS 5)) .none kV doc pm an cdv ct), osl⟩) (hcd : PySem.W.codeIn K cdv "is_within" = true) (kp : PySem.W.keepIn K (.ref f) = true) (hm : mg "is_within" = some (.ref f)) : DfB false Pg w K mg base P CX0 2 "is_within" (topS 5) ["value", "least", "most"] m_is_within :=
  df_B0 (gd := false) (N := N_is_within) (S := S_is_within) (k := 1) l5 hcd kp hm sc_is_within (fun _ _ _ _ _ _ us hl => match us, hl with | [_, _, _], _ => rfl) fun A outer s H hga hr => (ssd_cons (sd_ret (ed_and (ed_callB noG D_is_integer (hr.mono (by decide)) pass0' (by rfl) (ea_cons (ed_var 0) ea_nil) (len_cons (fun _ _ _ _ h => len_nil h))) (ed_one (ed_chain op_le op_le (ed_var 1) (ed_var 0) (ed_var 2)))))
      ssd_nil)

theorem nd_need_within : N_need_within.Nodup := by decide +kernel
theorem sc_need_within : FnScope N_need_within ["value", "least", "most"] (defScope (topS 9)) := ⟨rfl, rfl, rfl, by decide +kernel, rfl, by decide +kernel, by decide +kernel⟩
theorem ok_need_within {f : Addr} {oc kV doc pm cdv ct : Value} {od an : Option Addr} {osl : Array (Option Value)} (T : Txt K mg P fI_Refused) (D_is_within : DfB false Pg w K mg base P CX0 2 "is_within" (topS 5) ["value", "least", "most"] m_is_within)  (l9 : K.lookup f = some ⟨oc, od, .func (PySem.W.fnOf "need_within" "need_within" (defArgs (topS 9)) (defBody (topS 9)) (defScope (topS 9)) .none kV doc pm an cdv ct), osl⟩) (hcd : PySem.W.codeIn K cdv "need_within" = true) (kp : PySem.W.keepIn K (.ref f) = true) (hm : mg "need_within" = some (.ref f)) : DfB false Pg w K mg base P (L2.CX Pg w) 3 "need_within" (topS 9) ["value", "least", "most"] m_need_within :=
  df_BX (gd := false) (N := N_need_within) (S := S_need_within) (k := 2) l9 hcd kp hm sc_need_within (fun _ _ _ _ _ _ us hl => match us, hl with | [_, _, _], _ => rfl) fun A outer s H E hga hr => (ssd_cons (sd_if (et_not (et_val (ed_callB noG D_is_within (hr.mono (by decide)) pass0' (by rfl) (ea_cons (ed_var 0) (ea_cons (ed_var 1) (ea_cons (ed_var 2) ea_nil))) (len_cons (len_cons (len_cons (fun _ _ _ _ h => len_nil h))))))) (ssd_cons (sd_raise rfl T.low_Refused hr (takes_of rfl rfl rfl rfl) (ed_var 0))
      ssd_nil) ssd_nil)
      ssd_nil)

theorem nd_need_code : N_need_code.Nodup := by decide +kernel
theorem sc_need_code : FnScope N_need_code ["count", "need"] (defScope (topS 15)) := ⟨rfl, rfl, rfl, by decide +kernel, rfl, by decide +kernel, by decide +kernel⟩
theorem ok_need_code {f : Addr} {oc kV doc pm cdv ct : Value} {od an : Option Addr} {osl : Array (Option Value)} (T : Txt K mg P fI_Refused) (D_need_within : DfB false Pg w K mg base P (L2.CX Pg w) 3 "need_within" (topS 9) ["value", "least", "most"] m_need_within)  (l15 : K.lookup f = some ⟨oc, od, .func (PySem.W.fnOf "need_code" "need_code" (defArgs (topS 15)) (defBody (topS 15)) (defScope (topS 15)) .none kV doc pm an cdv ct), osl⟩) (hcd : PySem.W.codeIn K cdv "need_code" = true) (kp : PySem.W.keepIn K (.ref f) = true) (hm : mg "need_code" = some (.ref f)) : DfB false Pg w K mg base P (L2.CX Pg w) 4 "need_code" (topS 15) ["count", "need"] m_need_code :=
  df_BX (gd := false) (N := N_need_code) (S := S_need_code) (k := 3) l15 hcd kp hm sc_need_code (fun _ _ _ _ _ _ us hl => match us, hl with | [_, _], _ => rfl) fun A outer s H E hga hr => (ssd_cons (sd_expr (ed_callB noG D_need_within (hr.mono (by decide)) (passX (takes_of rfl rfl rfl rfl) fun _ _ _ _ h => h) (by rfl) (ea_cons (ed_var 0) (ea_cons (ed_globE (by rfl) T.LEAST_CHIPS) (ea_cons (ed_globE (by rfl) T.MOST_CHIPS) ea_nil))) (len_cons (len_cons (len_cons (fun _ _ _ _ h => len_nil h))))))
      (ssd_cons (sd_expr (ed_callB noG D_need_within (hr.mono (by decide)) (passX (takes_of rfl rfl rfl rfl) fun _ _ _ _ h => h) (by rfl) (ea_cons (ed_var 1) (ea_cons ed_int (ea_cons (ed_var 0) ea_nil))) (len_cons (len_cons (len_cons (fun _ _ _ _ h => len_nil h))))))
      ssd_nil))

theorem nd__cells_of : N__cells_of.Nodup := by decide +kernel
theorem sc__cells_of : FnScope N__cells_of ["lines"] (defScope (topS 24)) := ⟨rfl, rfl, rfl, by decide +kernel, rfl, by decide +kernel, by decide +kernel⟩
theorem ok__cells_of {f : Addr} {oc kV doc pm cdv ct : Value} {od an : Option Addr} {osl : Array (Option Value)} (T : Txt K mg P fI_Refused)   (l24 : K.lookup f = some ⟨oc, od, .func (PySem.W.fnOf "_cells_of" "_cells_of" (defArgs (topS 24)) (defBody (topS 24)) (defScope (topS 24)) .none kV doc pm an cdv ct), osl⟩) (hcd : PySem.W.codeIn K cdv "_cells_of" = true) (kp : PySem.W.keepIn K (.ref f) = true) (hm : mg "_cells_of" = some (.ref f)) : DfB false Pg w K mg base P CX0 1 "_cells_of" (topS 24) ["lines"] m__cells_of :=
  df_B0 (gd := false) (N := N__cells_of) (S := S__cells_of) (k := 0) l24 hcd kp hm sc__cells_of (fun _ _ _ _ _ _ us hl => match us, hl with | [_], _ => rfl) fun A outer s H hga hr => (ssd_cons (sd_ret (ed_ty call_tuple_of cd_tupOf (by rfl) T.tuple b_tuple (ea_cons (ed_lc (own := [("line", 1)]) rfl nd__cells_of (ei_any (ed_var 0)) (blkOk_by (own := [("line", 1)]) (N := N__cells_of) (sc := defScope (topS 24)) (by decide +kernel)) (gd_one 1) (fun _ _ _ _ _ => (pg_name (i := 1) nd__cells_of rfl (by first | exact .inl rfl | exact .inr rfl))) (fun _ _ _ _ _ => et_yes) (fun _ _ _ _ _ => (ed_ix (ed_var 1) ed_int (fun _ _ => rfl)))) ea_nil)))
      ssd_nil)

theorem nd_is_sequence : N_is_sequence.Nodup := by decide +kernel
theorem sc_is_sequence : FnScope N_is_sequence ["value"] (defScope (topS 7)) := ⟨rfl, rfl, rfl, by decide +kernel, rfl, by decide +kernel, by decide +kernel⟩
theorem ok_is_sequence {f : Addr} {oc kV doc pm cdv ct : Value} {od an : Option Addr} {osl : Array (Option Value)} (T : Txt K mg P fI_Refused)   (l7 : K.lookup f = some ⟨oc, od, .func (PySem.W.fnOf "is_sequence" "is_sequence" (defArgs (topS 7)) (defBody (topS 7)) (defScope (topS 7)) .none kV doc pm an cdv ct), osl⟩) (hcd : PySem.W.codeIn K cdv "is_sequence" = true) (kp : PySem.W.keepIn K (.ref f) = true) (hm : mg "is_sequence" = some (.ref f)) : DfB false Pg w K mg base P CX0 1 "is_sequence" (topS 7) ["value"] m_is_sequence :=
  df_B0 (gd := false) (N := N_is_sequence) (S := S_is_sequence) (k := 0) l7 hcd kp hm sc_is_sequence (fun _ _ _ _ _ _ us hl => match us, hl with | [_], _ => rfl) fun A outer s H hga hr => (ssd_cons (sd_ret (ed_isi2 (by rfl) T.isinstance b_isinstance (ed_var 0) (by rfl) T.list b_list (by rfl) T.tuple b_tuple))
      ssd_nil)

theorem nd_has_parts : N_has_parts.Nodup := by decide +kernel
theorem sc_has_parts : FnScope N_has_parts ["value", "many"] (defScope (topS 8)) := ⟨rfl, rfl, rfl, by decide +kernel, rfl, by decide +kernel, by decide +kernel⟩
theorem ok_has_parts {f : Addr} {oc kV doc pm cdv ct : Value} {od an : Option Addr} {osl : Array (Option Value)} (T : Txt K mg P fI_Refused) (D_is_sequence : DfB false Pg w K mg base P CX0 1 "is_sequence" (topS 7) ["value"] m_is_sequence)  (l8 : K.lookup f = some ⟨oc, od, .func (PySem.W.fnOf "has_parts" "has_parts" (defArgs (topS 8)) (defBody (topS 8)) (defScope (topS 8)) .none kV doc pm an cdv ct), osl⟩) (hcd : PySem.W.codeIn K cdv "has_parts" = true) (kp : PySem.W.keepIn K (.ref f) = true) (hm : mg "has_parts" = some (.ref f)) : DfB false Pg w K mg base P CX0 2 "has_parts" (topS 8) ["value", "many"] m_has_parts :=
  df_B0 (gd := false) (N := N_has_parts) (S := S_has_parts) (k := 1) l8 hcd kp hm sc_has_parts (fun _ _ _ _ _ _ us hl => match us, hl with | [_, _], _ => rfl) fun A outer s H hga hr => (ssd_cons (sd_ret (ed_and (ed_callB noG D_is_sequence (hr.mono (by decide)) pass0' (by rfl) (ea_cons (ed_var 0) ea_nil) (len_cons (fun _ _ _ _ h => len_nil h))) (ed_one (ed_eq hr.units (ed_blt call_lenA cd_len (by rfl) T.len b_len (ea_cons (ed_var 0) ea_nil)) (ed_var 1)))))
      ssd_nil)

theorem nd_are_cells : N_are_cells.Nodup := by decide +kernel
theorem sc_are_cells : FnScope N_are_cells ["value", "many"] (defScope (topS 14)) := ⟨rfl, rfl, rfl, by decide +kernel, rfl, by decide +kernel, by decide +kernel⟩
theorem ok_are_cells {f : Addr} {oc kV doc pm cdv ct : Value} {od an : Option Addr} {osl : Array (Option Value)} (T : Txt K mg P fI_Refused) (D_has_parts : DfB false Pg w K mg base P CX0 2 "has_parts" (topS 8) ["value", "many"] m_has_parts)  (l14 : K.lookup f = some ⟨oc, od, .func (PySem.W.fnOf "are_cells" "are_cells" (defArgs (topS 14)) (defBody (topS 14)) (defScope (topS 14)) .none kV doc pm an cdv ct), osl⟩) (hcd : PySem.W.codeIn K cdv "are_cells" = true) (kp : PySem.W.keepIn K (.ref f) = true) (hm : mg "are_cells" = some (.ref f)) : DfB false Pg w K mg base P CX0 3 "are_cells" (topS 14) ["value", "many"] m_are_cells :=
  df_B0 (gd := false) (N := N_are_cells) (S := S_are_cells) (k := 2) l14 hcd kp hm sc_are_cells (fun _ _ _ _ _ _ us hl => match us, hl with | [_, _], _ => rfl) fun A outer s H hga hr => (ssd_cons (sd_if (et_not (et_val (ed_callB noG D_has_parts (hr.mono (by decide)) pass0' (by rfl) (ea_cons (ed_var 0) (ea_cons (ed_var 1) ea_nil)) (len_cons (len_cons (fun _ _ _ _ h => len_nil h)))))) (ssd_cons (sd_ret ed_bl)
      ssd_nil) ssd_nil)
      (ssd_cons (sd_for PassesOwn.never rfl (ei_any (ed_var 0)) (pg_name (i := 2) nd_are_cells rfl (.inl rfl)) (gd_one 2) (ssd_cons (sd_if (et_w (ew_or (et_not (et_val (ed_isi (by rfl) T.isinstance b_isinstance (ed_var 2) (by rfl) T.int b_int))) (ew_or (et_val (ed_isi (by rfl) T.isinstance b_isinstance (ed_var 2) (by rfl) T.bool b_bool)) (ew_or (et_lt (ed_var 2) ed_int) (ew_or1 (et_ge (ed_var 2) (ed_globE (by rfl) T.CELL_BOUND))))))) (ssd_cons (sd_ret ed_bl)
      ssd_nil) ssd_nil)
      ssd_nil))
      (ssd_cons (sd_ret ed_bl)
      ssd_nil)))

theorem nd__shares : N__shares.Nodup := by decide +kernel
theorem sc__shares : FnScope N__shares ["chips", "at"] (defScope (topS 16)) := ⟨rfl, rfl, rfl, by decide +kernel, rfl, by decide +kernel, by decide +kernel⟩
theorem ok__shares {f : Addr} {oc kV doc pm cdv ct : Value} {od an : Option Addr} {osl : Array (Option Value)} (T : Txt K mg P fI_Refused)   (l16 : K.lookup f = some ⟨oc, od, .func (PySem.W.fnOf "_shares" "_shares" (defArgs (topS 16)) (defBody (topS 16)) (defScope (topS 16)) .none kV doc pm an cdv ct), osl⟩) (hcd : PySem.W.codeIn K cdv "_shares" = true) (kp : PySem.W.keepIn K (.ref f) = true) (hm : mg "_shares" = some (.ref f)) : DfB false Pg w K mg base P CX0 1 "_shares" (topS 16) ["chips", "at"] m__shares :=
  df_B0 (gd := false) (N := N__shares) (S := S__shares) (k := 0) l16 hcd kp hm sc__shares (fun _ _ _ _ _ _ us hl => match us, hl with | [_, _], _ => rfl) fun A outer s H hga hr => (ssd_cons (sd_set 2 nd__shares rfl (.inl rfl) (ed_lstM ea_nil))
      (ssd_cons (sd_for PassesOwn.never rfl (ei_any (ed_var 0)) (pg_name (i := 3) nd__shares rfl (.inl rfl)) (gd_one 3) (ssd_cons (sd_set 4 nd__shares rfl (.inl rfl) ed_int)
      (ssd_cons (sd_set 5 nd__shares rfl (.inl rfl) ed_int)
      (ssd_cons (sd_for PassesOwn.never rfl (ei_any (ed_var 0)) (pg_name (i := 6) nd__shares rfl (.inl rfl)) (gd_one 6) (ssd_cons (sd_if (et_ne hr.units (ed_var 6) (ed_var 3)) (ssd_cons (sd_set 4 nd__shares rfl (.inl rfl) (ed_mod (ed_mul (ed_var 4) (ed_sub (ed_var 1) (ed_var 6))) ed_int))
      (ssd_cons (sd_set 5 nd__shares rfl (.inl rfl) (ed_mod (ed_mul (ed_var 5) (ed_sub (ed_var 3) (ed_var 6))) ed_int))
      ssd_nil)) ssd_nil)
      ssd_nil))
      (ssd_cons (sd_app (ed_var 2) (ed_mod (ed_mul (ed_var 4) (ed_blt cr_pow3 cd_pow3 (by rfl) T.pow b_pow (ea_cons (ed_ty call_int1 cd_int (by rfl) T.int b_int (ea_cons (ed_var 5) ea_nil)) (ea_cons ed_int (ea_cons ed_int ea_nil))))) ed_int))
      ssd_nil)))))
      (ssd_frz 2 (ssd_cons (sd_ret (ed_var 2))
      ssd_nil))))

theorem nd__line_at : N__line_at.Nodup := by decide +kernel
theorem sc__line_at : FnScope N__line_at ["lines", "chips", "at"] (defScope (topS 17)) := ⟨rfl, rfl, rfl, by decide +kernel, rfl, by decide +kernel, by decide +kernel⟩
theorem ok__line_at {f : Addr} {oc kV doc pm cdv ct : Value} {od an : Option Addr} {osl : Array (Option Value)} (T : Txt K mg P fI_Refused) (D__shares : DfB false Pg w K mg base P CX0 1 "_shares" (topS 16) ["chips", "at"] m__shares)  (l17 : K.lookup f = some ⟨oc, od, .func (PySem.W.fnOf "_line_at" "_line_at" (defArgs (topS 17)) (defBody (topS 17)) (defScope (topS 17)) .none kV doc pm an cdv ct), osl⟩) (hcd : PySem.W.codeIn K cdv "_line_at" = true) (kp : PySem.W.keepIn K (.ref f) = true) (hm : mg "_line_at" = some (.ref f)) : DfB false Pg w K mg base P CX0 2 "_line_at" (topS 17) ["lines", "chips", "at"] m__line_at :=
  df_B0 (gd := false) (N := N__line_at) (S := S__line_at) (k := 1) l17 hcd kp hm sc__line_at (fun _ _ _ _ _ _ us hl => match us, hl with | [_, _, _], _ => rfl) fun A outer s H hga hr => (ssd_cons (sd_if (et_in (ed_var 2) (ed_var 1)) (ssd_cons (sd_ret (ed_ix (ed_var 0) (ed_var 2) (fun _ _ => rfl)))
      ssd_nil) ssd_nil)
      (ssd_cons (sd_set 3 nd__line_at rfl (.inl rfl) (ed_rep (ed_lstM (ea_cons ed_int ea_nil)) (ed_blt call_lenA cd_len (by rfl) T.len b_len (ea_cons (ed_ix (ed_var 0) (ed_ix (ed_var 1) ed_int (fun _ _ => rfl)) (fun _ _ => rfl)) ea_nil))))
      (ssd_cons (sd_for PassesOwn.never rfl (ei_zipX (by rfl) T.zip (ea_cons (ed_callB noG D__shares (hr.mono (by decide)) pass0' (by rfl) (ea_cons (ed_var 1) (ea_cons (ed_var 2) ea_nil)) (len_cons (len_cons (fun _ _ _ _ h => len_nil h)))) (ea_cons (ed_var 1) ea_nil))) (pg_tl (is := [4, 5]) rfl (pgs_cons (pg_name (i := 4) nd__line_at rfl (.inr rfl)) (pgs_cons (pg_name (i := 5) nd__line_at rfl (.inl rfl)) pgs_nil))) (gd_tup [4, 5] rfl) (ssd_cons (sd_setLc (i := 3) (own := [("was", 6), ("cell", 7)]) rfl nd__line_at rfl rfl (sw_true rfl rfl rfl (by decide +kernel)) (ei_zipX (by rfl) T.zip (ea_cons (ed_var 3) (ea_cons (ed_ix (ed_var 0) (ed_var 5) (fun _ _ => rfl)) ea_nil))) (blkOk_by (own := [("was", 6), ("cell", 7)]) (N := N__line_at) (sc := defScope (topS 17)) (by decide +kernel)) (gd_tup [6, 7] rfl) (fun _ _ _ _ _ => (pg_tl (is := [6, 7]) rfl (pgs_cons (pg_name (i := 6) nd__line_at rfl (by first | exact .inl rfl | exact .inr rfl)) (pgs_cons (pg_name (i := 7) nd__line_at rfl (by first | exact .inl rfl | exact .inr rfl)) pgs_nil)))) (fun _ _ _ _ _ => et_yes) (fun _ _ _ _ _ => (ed_plus (ed_var 6) (ed_mul (ed_var 4) (ed_var 7)))))
      ssd_nil))
      (ssd_cons (sd_ret (ed_ty call_tuple_of cd_tupOf (by rfl) T.tuple b_tuple (ea_cons (ed_lc (own := [("cell", 7)]) rfl nd__line_at (ei_any (ed_var 3)) (blkOk_by (own := [("cell", 7)]) (N := N__line_at) (sc := defScope (topS 17)) (by decide +kernel)) (gd_one 7) (fun _ _ _ _ _ => (pg_name (i := 7) nd__line_at rfl (by first | exact .inl rfl | exact .inr rfl))) (fun _ _ _ _ _ => et_yes) (fun _ _ _ _ _ => (ed_mod (ed_var 7) ed_int))) ea_nil)))
      ssd_nil))))

theorem nd_coded_lines : N_coded_lines.Nodup := by decide +kernel
theorem sc_coded_lines : FnScope N_coded_lines ["count", "data"] (defScope (topS 20)) := ⟨rfl, rfl, rfl, by decide +kernel, rfl, by decide +kernel, by decide +kernel⟩
theorem ok_coded_lines {f : Addr} {oc kV doc pm cdv ct : Value} {od an : Option Addr} {osl : Array (Option Value)} (T : Txt K mg P fI_Refused) (D__line_at : DfB false Pg w K mg base P CX0 2 "_line_at" (topS 17) ["lines", "chips", "at"] m__line_at)  (l20 : K.lookup f = some ⟨oc, od, .func (PySem.W.fnOf "coded_lines" "coded_lines" (defArgs (topS 20)) (defBody (topS 20)) (defScope (topS 20)) .none kV doc pm an cdv ct), osl⟩) (hcd : PySem.W.codeIn K cdv "coded_lines" = true) (kp : PySem.W.keepIn K (.ref f) = true) (hm : mg "coded_lines" = some (.ref f)) : DfB false Pg w K mg base P CX0 3 "coded_lines" (topS 20) ["count", "data"] m_coded_lines :=
  df_B0 (gd := false) (N := N_coded_lines) (S := S_coded_lines) (k := 2) l20 hcd kp hm sc_coded_lines (fun _ _ _ _ _ _ us hl => match us, hl with | [_, _], _ => rfl) fun A outer s H hga hr => (ssd_cons (sd_ret (ed_ty call_tuple_of cd_tupOf (by rfl) T.tuple b_tuple (ea_cons (ed_lc (own := [("chip", 2)]) rfl nd_coded_lines (ei_rg1 (by rfl) T.range (ea_cons (ed_var 0) ea_nil)) (blkOk_by (own := [("chip", 2)]) (N := N_coded_lines) (sc := defScope (topS 20)) (by decide +kernel)) (gd_one 2) (fun _ _ _ _ _ => (pg_name (i := 2) nd_coded_lines rfl (by first | exact .inl rfl | exact .inr rfl))) (fun _ _ _ _ _ => et_yes) (fun _ _ _ _ _ => (ed_callB noG D__line_at (hr.mono (by decide)) pass0' (by rfl) (ea_cons (ed_var 1) (ea_cons (ed_listRg1 rfl (by rfl) T.list (by rfl) T.range (ed_blt call_lenA cd_len (by rfl) T.len b_len (ea_cons (ed_var 1) ea_nil))) (ea_cons (ed_var 2) ea_nil))) (len_cons (len_cons (len_cons (fun _ _ _ _ h => len_nil h))))))) ea_nil)))
      ssd_nil)

theorem nd_coded : N_coded.Nodup := by decide +kernel
theorem sc_coded : FnScope N_coded ["count", "need", "data"] (defScope (topS 25)) := ⟨rfl, rfl, rfl, by decide +kernel, rfl, by decide +kernel, by decide +kernel⟩
theorem ok_coded {f : Addr} {oc kV doc pm cdv ct : Value} {od an : Option Addr} {osl : Array (Option Value)} (T : Txt K mg P fI_Refused) (D_need_code : DfB false Pg w K mg base P (L2.CX Pg w) 4 "need_code" (topS 15) ["count", "need"] m_need_code) (D__cells_of : DfB false Pg w K mg base P CX0 1 "_cells_of" (topS 24) ["lines"] m__cells_of) (D_are_cells : DfB false Pg w K mg base P CX0 3 "are_cells" (topS 14) ["value", "many"] m_are_cells) (D_coded_lines : DfB false Pg w K mg base P CX0 3 "coded_lines" (topS 20) ["count", "data"] m_coded_lines)  (l25 : K.lookup f = some ⟨oc, od, .func (PySem.W.fnOf "coded" "coded" (defArgs (topS 25)) (defBody (topS 25)) (defScope (topS 25)) .none kV doc pm an cdv ct), osl⟩) (hcd : PySem.W.codeIn K cdv "coded" = true) (kp : PySem.W.keepIn K (.ref f) = true) (hm : mg "coded" = some (.ref f)) : DfB false Pg w K mg base P (L2.CX Pg w) 5 "coded" (topS 25) ["count", "need", "data"] m_coded :=
  df_BX (gd := false) (N := N_coded) (S := S_coded) (k := 4) l25 hcd kp hm sc_coded (fun _ _ _ _ _ _ us hl => match us, hl with | [_, _, _], _ => rfl) fun A outer s H E hga hr => (ssd_cons (sd_expr (ed_callB noG D_need_code (hr.mono (by decide)) (passX (takes_of rfl rfl rfl rfl) fun _ _ _ _ h => h) (by rfl) (ea_cons (ed_var 0) (ea_cons (ed_var 1) ea_nil)) (len_cons (len_cons (fun _ _ _ _ h => len_nil h)))))
      (ssd_cons (sd_if (et_not (et_val (ed_callB noG D_are_cells (hr.mono (by decide)) pass0' (by rfl) (ea_cons (ed_var 2) (ea_cons (ed_var 1) ea_nil)) (len_cons (len_cons (fun _ _ _ _ h => len_nil h)))))) (ssd_cons (sd_raise rfl T.low_Refused hr (takes_of rfl rfl rfl rfl) (ed_var 2))
      ssd_nil) ssd_nil)
      (ssd_cons (sd_ret (ed_callB noG D__cells_of (hr.mono (by decide)) pass0' (by rfl) (ea_cons (ed_callB noG D_coded_lines (hr.mono (by decide)) pass0' (by rfl) (ea_cons (ed_var 0) (ea_cons (ed_lc (own := [("cell", 3)]) rfl nd_coded (ei_any (ed_var 2)) (blkOk_by (own := [("cell", 3)]) (N := N_coded) (sc := defScope (topS 25)) (by decide +kernel)) (gd_one 3) (fun _ _ _ _ _ => (pg_name (i := 3) nd_coded rfl (by first | exact .inl rfl | exact .inr rfl))) (fun _ _ _ _ _ => et_yes) (fun _ _ _ _ _ => (ed_tup (ea_cons (ed_var 3) ea_nil)))) ea_nil)) (len_cons (len_cons (fun _ _ _ _ h => len_nil h)))) ea_nil) (len_cons (fun _ _ _ _ h => len_nil h))))
      ssd_nil)))

theorem nd__agree : N__agree.Nodup := by decide +kernel
theorem sc__agree : FnScope N__agree ["need", "lines", "chips"] (defScope (topS 19)) := ⟨rfl, rfl, rfl, by decide +kernel, rfl, by decide +kernel, by decide +kernel⟩
theorem ok__agree {f : Addr} {oc kV doc pm cdv ct : Value} {od an : Option Addr} {osl : Array (Option Value)} (T : Txt K mg P fI_Refused) (D__line_at : DfB false Pg w K mg base P CX0 2 "_line_at" (topS 17) ["lines", "chips", "at"] m__line_at)  (l19 : K.lookup f = some ⟨oc, od, .func (PySem.W.fnOf "_agree" "_agree" (defArgs (topS 19)) (defBody (topS 19)) (defScope (topS 19)) .none kV doc pm an cdv ct), osl⟩) (hcd : PySem.W.codeIn K cdv "_agree" = true) (kp : PySem.W.keepIn K (.ref f) = true) (hm : mg "_agree" = some (.ref f)) : DfB false Pg w K mg base P CX0 3 "_agree" (topS 19) ["need", "lines", "chips"] m__agree :=
  df_B0 (gd := false) (N := N__agree) (S := S__agree) (k := 2) l19 hcd kp hm sc__agree (fun _ _ _ _ _ _ us hl => match us, hl with | [_, _, _], _ => rfl) fun A outer s H hga hr => (ssd_cons (sd_for PassesOwn.never rfl (ei_any (ed_sl (ed_var 2) (epo_some (ed_var 0)) epo_none)) (pg_name (i := 3) nd__agree rfl (.inl rfl)) (gd_one 3) (ssd_cons (sd_if (et_ne hr.units (ed_callB noG D__line_at (hr.mono (by decide)) pass0' (by rfl) (ea_cons (ed_var 1) (ea_cons (ed_sl (ed_var 2) epo_none (epo_some (ed_var 0))) (ea_cons (ed_var 3) ea_nil))) (len_cons (len_cons (len_cons (fun _ _ _ _ h => len_nil h))))) (ed_ix (ed_var 1) (ed_var 3) (fun _ _ => rfl))) (ssd_cons (sd_ret ed_bl)
      ssd_nil) ssd_nil)
      ssd_nil))
      (ssd_cons (sd_ret ed_bl)
      ssd_nil))

theorem nd__chips_with : N__chips_with.Nodup := by decide +kernel
theorem sc__chips_with : FnScope N__chips_with ["lines"] (defScope (topS 18)) := ⟨rfl, rfl, rfl, by decide +kernel, rfl, by decide +kernel, by decide +kernel⟩
theorem ok__chips_with {f : Addr} {oc kV doc pm cdv ct : Value} {od an : Option Addr} {osl : Array (Option Value)} (T : Txt K mg P fI_Refused)   (l18 : K.lookup f = some ⟨oc, od, .func (PySem.W.fnOf "_chips_with" "_chips_with" (defArgs (topS 18)) (defBody (topS 18)) (defScope (topS 18)) .none kV doc pm an cdv ct), osl⟩) (hcd : PySem.W.codeIn K cdv "_chips_with" = true) (kp : PySem.W.keepIn K (.ref f) = true) (hm : mg "_chips_with" = some (.ref f)) : DfB false Pg w K mg base P CX0 1 "_chips_with" (topS 18) ["lines"] m__chips_with :=
  df_B0 (gd := false) (N := N__chips_with) (S := S__chips_with) (k := 0) l18 hcd kp hm sc__chips_with (fun _ _ _ _ _ _ us hl => match us, hl with | [_], _ => rfl) fun A outer s H hga hr => (ssd_cons (sd_ret (ed_lc (own := [("chip", 1), ("line", 2)]) rfl nd__chips_with (ei_enum (by rfl) T.enumerate (ea_cons (ed_var 0) ea_nil)) (blkOk_by (own := [("chip", 1), ("line", 2)]) (N := N__chips_with) (sc := defScope (topS 18)) (by decide +kernel)) (gd_tup [1, 2] rfl) (fun _ _ _ _ _ => (pg_tl (is := [1, 2]) rfl (pgs_cons (pg_name (i := 1) nd__chips_with rfl (by first | exact .inl rfl | exact .inr rfl)) (pgs_cons (pg_name (i := 2) nd__chips_with rfl (by first | exact .inl rfl | exact .inr rfl)) pgs_nil)))) (fun _ _ _ _ _ => (et_one (et_notN (ed_var 2)))) (fun _ _ _ _ _ => (ed_var 1))))
      ssd_nil)

theorem nd_lines_fit : N_lines_fit.Nodup := by decide +kernel
theorem sc_lines_fit : FnScope N_lines_fit ["need", "lines"] (defScope (topS 21)) := ⟨rfl, rfl, rfl, by decide +kernel, rfl, by decide +kernel, by decide +kernel⟩
theorem ok_lines_fit {f : Addr} {oc kV doc pm cdv ct : Value} {od an : Option Addr} {osl : Array (Option Value)} (T : Txt K mg P fI_Refused) (D__agree : DfB false Pg w K mg base P CX0 3 "_agree" (topS 19) ["need", "lines", "chips"] m__agree) (D__chips_with : DfB false Pg w K mg base P CX0 1 "_chips_with" (topS 18) ["lines"] m__chips_with)  (l21 : K.lookup f = some ⟨oc, od, .func (PySem.W.fnOf "lines_fit" "lines_fit" (defArgs (topS 21)) (defBody (topS 21)) (defScope (topS 21)) .none kV doc pm an cdv ct), osl⟩) (hcd : PySem.W.codeIn K cdv "lines_fit" = true) (kp : PySem.W.keepIn K (.ref f) = true) (hm : mg "lines_fit" = some (.ref f)) : DfB false Pg w K mg base P CX0 4 "lines_fit" (topS 21) ["need", "lines"] m_lines_fit :=
  df_B0 (gd := false) (N := N_lines_fit) (S := S_lines_fit) (k := 3) l21 hcd kp hm sc_lines_fit (fun _ _ _ _ _ _ us hl => match us, hl with | [_, _], _ => rfl) fun A outer s H hga hr => (ssd_cons (sd_ret (ed_callB noG D__agree (hr.mono (by decide)) pass0' (by rfl) (ea_cons (ed_var 0) (ea_cons (ed_var 1) (ea_cons (ed_callB noG D__chips_with (hr.mono (by decide)) pass0' (by rfl) (ea_cons (ed_var 1) ea_nil) (len_cons (fun _ _ _ _ h => len_nil h))) ea_nil))) (len_cons (len_cons (len_cons (fun _ _ _ _ h => len_nil h))))))
      ssd_nil)

theorem nd_is_below : N_is_below.Nodup := by decide +kernel
theorem sc_is_below : FnScope N_is_below ["value", "bound"] (defScope (topS 6)) := ⟨rfl, rfl, rfl, by decide +kernel, rfl, by decide +kernel, by decide +kernel⟩
theorem ok_is_below {f : Addr} {oc kV doc pm cdv ct : Value} {od an : Option Addr} {osl : Array (Option Value)} (T : Txt K mg P fI_Refused) (D_is_integer : DfB false Pg w K mg base P CX0 1 "is_integer" (topS 4) ["value"] m_is_integer)  (l6 : K.lookup f = some ⟨oc, od, .func (PySem.W.fnOf "is_below" "is_below" (defArgs (topS 6)) (defBody (topS 6)) (defScope (topS 6)) .none kV doc pm an cdv ct), osl⟩) (hcd : PySem.W.codeIn K cdv "is_below" = true) (kp : PySem.W.keepIn K (.ref f) = true) (hm : mg "is_below" = some (.ref f)) : DfB false Pg w K mg base P CX0 2 "is_below" (topS 6) ["value", "bound"] m_is_below :=
  df_B0 (gd := false) (N := N_is_below) (S := S_is_below) (k := 1) l6 hcd kp hm sc_is_below (fun _ _ _ _ _ _ us hl => match us, hl with | [_, _], _ => rfl) fun A outer s H hga hr => (ssd_cons (sd_ret (ed_and (ed_callB noG D_is_integer (hr.mono (by decide)) pass0' (by rfl) (ea_cons (ed_var 0) ea_nil) (len_cons (fun _ _ _ _ h => len_nil h))) (ed_one (ed_chain op_le op_lt ed_int (ed_var 0) (ed_var 1)))))
      ssd_nil)

theorem nd__row_lines : N__row_lines.Nodup := by decide +kernel
theorem sc__row_lines : FnScope N__row_lines ["count", "need", "row"] (defScope (topS 23)) := ⟨rfl, rfl, rfl, by decide +kernel, rfl, by decide +kernel, by decide +kernel⟩
theorem ok__row_lines {f : Addr} {oc kV doc pm cdv ct : Value} {od an : Option Addr} {osl : Array (Option Value)} (T : Txt K mg P fI_Refused) (D_need_code : DfB false Pg w K mg base P (L2.CX Pg w) 4 "need_code" (topS 15) ["count", "need"] m_need_code) (D_has_parts : DfB false Pg w K mg base P CX0 2 "has_parts" (topS 8) ["value", "many"] m_has_parts) (D_is_below : DfB false Pg w K mg base P CX0 2 "is_below" (topS 6) ["value", "bound"] m_is_below)  (l23 : K.lookup f = some ⟨oc, od, .func (PySem.W.fnOf "_row_lines" "_row_lines" (defArgs (topS 23)) (defBody (topS 23)) (defScope (topS 23)) .none kV doc pm an cdv ct), osl⟩) (hcd : PySem.W.codeIn K cdv "_row_lines" = true) (kp : PySem.W.keepIn K (.ref f) = true) (hm : mg "_row_lines" = some (.ref f)) : DfB false Pg w K mg base P (L2.CX Pg w) 5 "_row_lines" (topS 23) ["count", "need", "row"] m__row_lines :=
  df_BX (gd := false) (N := N__row_lines) (S := S__row_lines) (k := 4) l23 hcd kp hm sc__row_lines (fun _ _ _ _ _ _ us hl => match us, hl with | [_, _, _], _ => rfl) fun A outer s H E hga hr => (ssd_cons (sd_expr (ed_callB noG D_need_code (hr.mono (by decide)) (passX (takes_of rfl rfl rfl rfl) fun _ _ _ _ h => h) (by rfl) (ea_cons (ed_var 0) (ea_cons (ed_var 1) ea_nil)) (len_cons (len_cons (fun _ _ _ _ h => len_nil h)))))
      (ssd_cons (sd_if (et_not (et_val (ed_callB noG D_has_parts (hr.mono (by decide)) pass0' (by rfl) (ea_cons (ed_var 2) (ea_cons (ed_var 0) ea_nil)) (len_cons (len_cons (fun _ _ _ _ h => len_nil h)))))) (ssd_cons (sd_raise rfl T.low_Refused hr (takes_of rfl rfl rfl rfl) (ed_var 2))
      ssd_nil) ssd_nil)
      (ssd_cons (sd_for (passes_of rfl) rfl (ei_any (ed_var 2)) (pg_name (i := 3) nd__row_lines rfl (.inl rfl)) (gd_one 3) (ssd_cons (sd_if (et_w (ew_and (et_notN (ed_var 3)) (ew_and1 (et_not (et_val (ed_callB noG D_is_below (hr.mono (by decide)) pass0' (by rfl) (ea_cons (ed_var 3) (ea_cons (ed_globE (by rfl) T.CELL_BOUND) ea_nil)) (len_cons (len_cons (fun _ _ _ _ h => len_nil h))))))))) (ssd_cons (sd_raise rfl T.low_Refused hr (takes_of rfl rfl rfl rfl) (ed_var 2))
      ssd_nil) ssd_nil)
      ssd_nil))
      (ssd_cons (sd_ret (ed_lc (own := [("cell", 3)]) rfl nd__row_lines (ei_any (ed_var 2)) (blkOk_by (own := [("cell", 3)]) (N := N__row_lines) (sc := defScope (topS 23)) (by decide +kernel)) (gd_one 3) (fun _ _ _ _ _ => (pg_name (i := 3) nd__row_lines rfl (by first | exact .inl rfl | exact .inr rfl))) (fun _ _ _ _ _ => et_yes) (fun _ _ _ _ _ => (ed_ifExp (et_isN (ed_var 3)) ed_non (ed_tup (ea_cons (ed_var 3) ea_nil))))))
      ssd_nil))))

theorem nd_fits : N_fits.Nodup := by decide +kernel
theorem sc_fits : FnScope N_fits ["count", "need", "row"] (defScope (topS 26)) := ⟨rfl, rfl, rfl, by decide +kernel, rfl, by decide +kernel, by decide +kernel⟩
theorem ok_fits {f : Addr} {oc kV doc pm cdv ct : Value} {od an : Option Addr} {osl : Array (Option Value)} (T : Txt K mg P fI_Refused) (D_lines_fit : DfB false Pg w K mg base P CX0 4 "lines_fit" (topS 21) ["need", "lines"] m_lines_fit) (D__row_lines : DfB false Pg w K mg base P (L2.CX Pg w) 5 "_row_lines" (topS 23) ["count", "need", "row"] m__row_lines)  (l26 : K.lookup f = some ⟨oc, od, .func (PySem.W.fnOf "fits" "fits" (defArgs (topS 26)) (defBody (topS 26)) (defScope (topS 26)) .none kV doc pm an cdv ct), osl⟩) (hcd : PySem.W.codeIn K cdv "fits" = true) (kp : PySem.W.keepIn K (.ref f) = true) (hm : mg "fits" = some (.ref f)) : DfB false Pg w K mg base P (L2.CX Pg w) 6 "fits" (topS 26) ["count", "need", "row"] m_fits :=
  df_BX (gd := false) (N := N_fits) (S := S_fits) (k := 5) l26 hcd kp hm sc_fits (fun _ _ _ _ _ _ us hl => match us, hl with | [_, _, _], _ => rfl) fun A outer s H E hga hr => (ssd_cons (sd_ret (ed_callB noG D_lines_fit (hr.mono (by decide)) pass0' (by rfl) (ea_cons (ed_var 1) (ea_cons (ed_callB noG D__row_lines (hr.mono (by decide)) (passX (takes_of rfl rfl rfl rfl) fun _ _ _ _ h => h) (by rfl) (ea_cons (ed_var 0) (ea_cons (ed_var 1) (ea_cons (ed_var 2) ea_nil))) (len_cons (len_cons (len_cons (fun _ _ _ _ h => len_nil h))))) ea_nil)) (len_cons (len_cons (fun _ _ _ _ h => len_nil h)))))
      ssd_nil)

theorem nd_told_lines : N_told_lines.Nodup := by decide +kernel
theorem sc_told_lines : FnScope N_told_lines ["need", "lines"] (defScope (topS 22)) := ⟨rfl, rfl, rfl, by decide +kernel, rfl, by decide +kernel, by decide +kernel⟩
theorem ok_told_lines {f : Addr} {oc kV doc pm cdv ct : Value} {od an : Option Addr} {osl : Array (Option Value)} (T : Txt K mg P fI_Refused) (D__chips_with : DfB false Pg w K mg base P CX0 1 "_chips_with" (topS 18) ["lines"] m__chips_with) (D__agree : DfB false Pg w K mg base P CX0 3 "_agree" (topS 19) ["need", "lines", "chips"] m__agree) (D__line_at : DfB false Pg w K mg base P CX0 2 "_line_at" (topS 17) ["lines", "chips", "at"] m__line_at)  (l22 : K.lookup f = some ⟨oc, od, .func (PySem.W.fnOf "told_lines" "told_lines" (defArgs (topS 22)) (defBody (topS 22)) (defScope (topS 22)) .none kV doc pm an cdv ct), osl⟩) (hcd : PySem.W.codeIn K cdv "told_lines" = true) (kp : PySem.W.keepIn K (.ref f) = true) (hm : mg "told_lines" = some (.ref f)) : DfB false Pg w K mg base P CX0 4 "told_lines" (topS 22) ["need", "lines"] m_told_lines :=
  df_B0 (gd := false) (N := N_told_lines) (S := S_told_lines) (k := 3) l22 hcd kp hm sc_told_lines (fun _ _ _ _ _ _ us hl => match us, hl with | [_, _], _ => rfl) fun A outer s H hga hr => (ssd_cons (sd_set 2 nd_told_lines rfl (.inr rfl) (ed_callB noG D__chips_with (hr.mono (by decide)) pass0' (by rfl) (ea_cons (ed_var 1) ea_nil) (len_cons (fun _ _ _ _ h => len_nil h))))
      (ssd_cons (sd_if (et_w (ew_or (et_lt (ed_blt call_lenA cd_len (by rfl) T.len b_len (ea_cons (ed_var 2) ea_nil)) (ed_var 0)) (ew_or1 (et_not (et_val (ed_callB noG D__agree (hr.mono (by decide)) pass0' (by rfl) (ea_cons (ed_var 0) (ea_cons (ed_var 1) (ea_cons (ed_var 2) ea_nil))) (len_cons (len_cons (len_cons (fun _ _ _ _ h => len_nil h)))))))))) (ssd_cons (sd_ret ed_non)
      ssd_nil) ssd_nil)
      (ssd_cons (sd_ret (ed_ty call_tuple_of cd_tupOf (by rfl) T.tuple b_tuple (ea_cons (ed_lc (own := [("at", 3)]) rfl nd_told_lines (ei_rg1 (by rfl) T.range (ea_cons (ed_var 0) ea_nil)) (blkOk_by (own := [("at", 3)]) (N := N_told_lines) (sc := defScope (topS 22)) (by decide +kernel)) (gd_one 3) (fun _ _ _ _ _ => (pg_name (i := 3) nd_told_lines rfl (by first | exact .inl rfl | exact .inr rfl))) (fun _ _ _ _ _ => et_yes) (fun _ _ _ _ _ => (ed_callB noG D__line_at (hr.mono (by decide)) pass0' (by rfl) (ea_cons (ed_var 1) (ea_cons (ed_sl (ed_var 2) epo_none (epo_some (ed_var 0))) (ea_cons (ed_var 3) ea_nil))) (len_cons (len_cons (len_cons (fun _ _ _ _ h => len_nil h))))))) ea_nil)))
      ssd_nil)))

theorem nd_told_data : N_told_data.Nodup := by decide +kernel
theorem sc_told_data : FnScope N_told_data ["count", "need", "row"] (defScope (topS 27)) := ⟨rfl, rfl, rfl, by decide +kernel, rfl, by decide +kernel, by decide +kernel⟩
theorem ok_told_data {f : Addr} {oc kV doc pm cdv ct : Value} {od an : Option Addr} {osl : Array (Option Value)} (T : Txt K mg P fI_Refused) (D_told_lines : DfB false Pg w K mg base P CX0 4 "told_lines" (topS 22) ["need", "lines"] m_told_lines) (D__row_lines : DfB false Pg w K mg base P (L2.CX Pg w) 5 "_row_lines" (topS 23) ["count", "need", "row"] m__row_lines) (D__cells_of : DfB false Pg w K mg base P CX0 1 "_cells_of" (topS 24) ["lines"] m__cells_of)  (l27 : K.lookup f = some ⟨oc, od, .func (PySem.W.fnOf "told_data" "told_data" (defArgs (topS 27)) (defBody (topS 27)) (defScope (topS 27)) .none kV doc pm an cdv ct), osl⟩) (hcd : PySem.W.codeIn K cdv "told_data" = true) (kp : PySem.W.keepIn K (.ref f) = true) (hm : mg "told_data" = some (.ref f)) : DfB false Pg w K mg base P (L2.CX Pg w) 6 "told_data" (topS 27) ["count", "need", "row"] m_told_data :=
  df_BX (gd := false) (N := N_told_data) (S := S_told_data) (k := 5) l27 hcd kp hm sc_told_data (fun _ _ _ _ _ _ us hl => match us, hl with | [_, _, _], _ => rfl) fun A outer s H E hga hr => (ssd_cons (sd_set 3 nd_told_data rfl (.inl rfl) (ed_callB noG D_told_lines (hr.mono (by decide)) pass0' (by rfl) (ea_cons (ed_var 1) (ea_cons (ed_callB noG D__row_lines (hr.mono (by decide)) (passX (takes_of rfl rfl rfl rfl) fun _ _ _ _ h => h) (by rfl) (ea_cons (ed_var 0) (ea_cons (ed_var 1) (ea_cons (ed_var 2) ea_nil))) (len_cons (len_cons (len_cons (fun _ _ _ _ h => len_nil h))))) ea_nil)) (len_cons (len_cons (fun _ _ _ _ h => len_nil h)))))
      (ssd_cons (sd_ret (ed_ifExp (et_isN (ed_var 3)) ed_non (ed_callB noG D__cells_of (hr.mono (by decide)) pass0' (by rfl) (ea_cons (ed_var 3) ea_nil) (len_cons (fun _ _ _ _ h => len_nil h)))))
      ssd_nil))

def LS__law_none_right : List LamI := [lamIn (defBody (topS 38)) [1, 0, 0], lamIn (defBody (topS 38)) [2, 0, 1], lamIn (defBody (topS 38)) [3, 0, 1]]
theorem nd__law_none_right : N__law_none_right.Nodup := by decide +kernel
theorem sc__law_none_right : FnScope N__law_none_right ["_law_box_here", "_law_count", "_law_need"] (defScope (topS 38)) := ⟨rfl, rfl, rfl, by decide +kernel, rfl, by decide +kernel, by decide +kernel⟩
abbrev Q__law_none_right : Str := (envOfC "_law_none_right" (defScope (topS 38)) 0 0 .none).qual ++ "<lambda>"
theorem ok__law_none_right {f c Pt : Addr} {oc kV doc pm ct : Value} {od an : Option Addr} {osl : Array (Option Value)} (T : ∀ T' : Tb, Txt K mg ⟨T', P.CR⟩ fI_Refused) (D__law_pick : ∀ T' : Tb, T'.tb = P.T.tb → DfB false Pg w K mg base ⟨T', P.CR⟩ CX0 2 "_law_pick" (topS 31) ["_law_box_here", "_law_some"] m__law_pick) (D_coded : ∀ T' : Tb, T'.tb = P.T.tb → DfB false Pg w K mg base ⟨T', P.CR⟩ (L2.CX Pg w) 5 "coded" (topS 25) ["count", "need", "data"] m_coded) (D_fits : ∀ T' : Tb, T'.tb = P.T.tb → DfB false Pg w K mg base ⟨T', P.CR⟩ (L2.CX Pg w) 6 "fits" (topS 26) ["count", "need", "row"] m_fits) (D_told_data : ∀ T' : Tb, T'.tb = P.T.tb → DfB false Pg w K mg base ⟨T', P.CR⟩ (L2.CX Pg w) 6 "told_data" (topS 27) ["count", "need", "row"] m_told_data) (TB : LamX.TabB base mg c Pt) (mT : (Pt, Q__law_none_right) ∈ P.T.tb) (uT : ∀ q ∈ P.T.tb, q.1 = Pt → q.2 = Q__law_none_right) (l38 : K.lookup f = some ⟨oc, od, .func (PySem.W.fnOf "_law_none_right" "_law_none_right" (defArgs (topS 38)) (defBody (topS 38)) (defScope (topS 38)) .none kV doc pm an (.ref c) ct), osl⟩) (hcd : PySem.W.codeIn K (.ref c) "_law_none_right" = true) (kp : PySem.W.keepIn K (.ref f) = true) (hm : mg "_law_none_right" = some (.ref f)) : DfB true Pg w K mg base P CX0 11 "_law_none_right" (topS 38) ["_law_box_here", "_law_count", "_law_need"] m__law_none_right :=
  df_BL (gd := true) (N := N__law_none_right) (S := S__law_none_right) (k := 10) l38 hcd kp hm sc__law_none_right (fun _ _ _ _ _ _ us hl => match us, hl with | [_, _, _], _ => rfl) fun A outer s H hga hr => ⟨(tbOf P.T.tb ((cxOf CX0 Pg w K mg base N__law_none_right "_law_none_right" (defScope (topS 38)) f (.ref c) A outer s H E0).nox.env.cells) Q__law_none_right LS__law_none_right), rfl, have T := T (tbOf P.T.tb ((cxOf CX0 Pg w K mg base N__law_none_right "_law_none_right" (defScope (topS 38)) f (.ref c) A outer s H E0).nox.env.cells) Q__law_none_right LS__law_none_right); have D__law_pick := D__law_pick (tbOf P.T.tb ((cxOf CX0 Pg w K mg base N__law_none_right "_law_none_right" (defScope (topS 38)) f (.ref c) A outer s H E0).nox.env.cells) Q__law_none_right LS__law_none_right) rfl; have D_coded := D_coded (tbOf P.T.tb ((cxOf CX0 Pg w K mg base N__law_none_right "_law_none_right" (defScope (topS 38)) f (.ref c) A outer s H E0).nox.env.cells) Q__law_none_right LS__law_none_right) rfl; have D_fits := D_fits (tbOf P.T.tb ((cxOf CX0 Pg w K mg base N__law_none_right "_law_none_right" (defScope (topS 38)) f (.ref c) A outer s H E0).nox.env.cells) Q__law_none_right LS__law_none_right) rfl; have D_told_data := D_told_data (tbOf P.T.tb ((cxOf CX0 Pg w K mg base N__law_none_right "_law_none_right" (defScope (topS 38)) f (.ref c) A outer s H E0).nox.env.cells) Q__law_none_right LS__law_none_right) rfl; (ssd_cons (sd_unp [3, 4] rfl (pgs_cons (pg_name (i := 3) nd__law_none_right rfl (.inr rfl)) (pgs_cons (pg_name (i := 4) nd__law_none_right rfl (.inr rfl)) pgs_nil)) rfl (ed_tup (ea_cons (ed_callB noG D__law_pick (hr.mono (by decide)) pass0' (by rfl) (ea_cons (ed_var 0) (ea_cons (ed_lst (ea_cons ed_non (ea_cons ed_int (ea_cons ed_int (ea_cons ed_bl (ea_cons (ed_sub ed_int ed_int) (ea_cons ed_str ea_nil))))))) ea_nil)) (len_cons (len_cons (fun _ _ _ _ h => len_nil h)))) (ea_cons (ed_callB noG D__law_pick (hr.mono (by decide)) pass0' (by rfl) (ea_cons (ed_var 0) (ea_cons (ed_lst (ea_cons ed_non (ea_cons ed_int (ea_cons (ed_plus (ed_var 1) ed_int) (ea_cons ed_bl (ea_cons ed_str ea_nil)))))) ea_nil)) (len_cons (len_cons (fun _ _ _ _ h => len_nil h)))) ea_nil))))
      (ssd_cons (sd_set 5 nd__law_none_right rfl (.inl rfl) (ed_lstM (ea_cons (ed_lamA (n := 0) TB rfl mT uT (by decide +kernel) rfl (fun f c H h1 h2 => ⟨_, c, rfl, h1, h2⟩)) ea_nil)))
      (ssd_cons (sd_app (ed_var 5) (ed_lamA (n := 1) TB rfl mT uT (by decide +kernel) rfl (fun f c H h1 h2 => ⟨_, c, rfl, h1, h2⟩)))
      (ssd_cons (sd_app (ed_var 5) (ed_lamA (n := 2) TB rfl mT uT (by decide +kernel) rfl (fun f c H h1 h2 => ⟨_, c, rfl, h1, h2⟩)))
      (ssd_frz 5 (ssd_cons (sd_for PassesOwn.never rfl (ei_any (ed_var 5)) (pg_name (i := 6) nd__law_none_right rfl (.inr rfl)) (gd_one 6) (ssd_cons (sd_if (et_ne hr.units (hrd (k := 7) T (hga rfl) (hr.mono (by decide)) TB rfl mT uT (LamX.lamS_by (sc := defScope (topS 38)) (by decide +kernel)) rfl (fun _ _ _ _ _ => rfl) fun A outer s H E f c hr2 => (ed_callL (k := 6) (ls := LS__law_none_right) rfl (fun n i h => match n, h with
      | 0, h => by
        have h' := Option.some.inj (show some _ = some i from h)
        subst h'
        exact ⟨["_law_one", "_law_two"], (fCall m_coded (fCons (fVar 0) (fCons (fVar 1) (fCons (pur .non) (pur []))))), ⟨⟨rfl, rfl, rfl, by decide +kernel, rfl, by decide +kernel, by decide +kernel⟩, fun _ _ _ _ us hl => match us, hl with | [_, _], _ => rfl, fun A outer s H E f c hr4 => (ed_callB noG D_coded (hr4.mono (by decide)) (passX (takes_of rfl rfl rfl rfl) fun _ _ _ _ h => h) (by rfl) (ea_cons (ed_var 0) (ea_cons (ed_var 1) (ea_cons ed_non ea_nil))) (len_cons (len_cons (len_cons (fun _ _ _ _ h => len_nil h)))))⟩, rfl⟩
      | 1, h => by
        have h' := Option.some.inj (show some _ = some i from h)
        subst h'
        exact ⟨["_law_one", "_law_two"], (fCall m_fits (fCons (fVar 0) (fCons (fVar 1) (fCons (pur .non) (pur []))))), ⟨⟨rfl, rfl, rfl, by decide +kernel, rfl, by decide +kernel, by decide +kernel⟩, fun _ _ _ _ us hl => match us, hl with | [_, _], _ => rfl, fun A outer s H E f c hr4 => (ed_callB noG D_fits (hr4.mono (by decide)) (passX (takes_of rfl rfl rfl rfl) fun _ _ _ _ h => h) (by rfl) (ea_cons (ed_var 0) (ea_cons (ed_var 1) (ea_cons ed_non ea_nil))) (len_cons (len_cons (len_cons (fun _ _ _ _ h => len_nil h)))))⟩, rfl⟩
      | 2, h => by
        have h' := Option.some.inj (show some _ = some i from h)
        subst h'
        exact ⟨["_law_one", "_law_two"], (fCall m_told_data (fCons (fVar 0) (fCons (fVar 1) (fCons (pur .non) (pur []))))), ⟨⟨rfl, rfl, rfl, by decide +kernel, rfl, by decide +kernel, by decide +kernel⟩, fun _ _ _ _ us hl => match us, hl with | [_, _], _ => rfl, fun A outer s H E f c hr4 => (ed_callB noG D_told_data (hr4.mono (by decide)) (passX (takes_of rfl rfl rfl rfl) fun _ _ _ _ h => h) (by rfl) (ea_cons (ed_var 0) (ea_cons (ed_var 1) (ea_cons ed_non ea_nil))) (len_cons (len_cons (len_cons (fun _ _ _ _ h => len_nil h)))))⟩, rfl⟩
      | n + 3, h => absurd (List.getElem?_eq_some_iff.mp h).1 (by
        have e : LS__law_none_right.length = 3 := rfl
        omega)) (hr2.mono (by decide)) (passX (takes_of rfl rfl rfl rfl) fun _ _ _ _ h => h) (ed_var 6) (ea_cons (ed_var 3) (ea_cons (ed_var 4) ea_nil)))) (ed_tup (ea_cons ed_str (ea_cons (ed_blt (call_repr (hga rfl) hr.units) cd_repr (by rfl) T.repr b_repr (ea_cons (ed_var 3) ea_nil)) (ea_cons ed_bl ea_nil))))) (ssd_cons (sd_ret ed_bl)
      ssd_nil) ssd_nil)
      (ssd_cons (sd_if (et_ne hr.units (hrd (k := 7) T (hga rfl) (hr.mono (by decide)) TB rfl mT uT (LamX.lamS_by (sc := defScope (topS 38)) (by decide +kernel)) rfl (fun _ _ _ _ _ => rfl) fun A outer s H E f c hr2 => (ed_callL (k := 6) (ls := LS__law_none_right) rfl (fun n i h => match n, h with
      | 0, h => by
        have h' := Option.some.inj (show some _ = some i from h)
        subst h'
        exact ⟨["_law_one", "_law_two"], (fCall m_coded (fCons (fVar 0) (fCons (fVar 1) (fCons (pur .non) (pur []))))), ⟨⟨rfl, rfl, rfl, by decide +kernel, rfl, by decide +kernel, by decide +kernel⟩, fun _ _ _ _ us hl => match us, hl with | [_, _], _ => rfl, fun A outer s H E f c hr4 => (ed_callB noG D_coded (hr4.mono (by decide)) (passX (takes_of rfl rfl rfl rfl) fun _ _ _ _ h => h) (by rfl) (ea_cons (ed_var 0) (ea_cons (ed_var 1) (ea_cons ed_non ea_nil))) (len_cons (len_cons (len_cons (fun _ _ _ _ h => len_nil h)))))⟩, rfl⟩
      | 1, h => by
        have h' := Option.some.inj (show some _ = some i from h)
        subst h'
        exact ⟨["_law_one", "_law_two"], (fCall m_fits (fCons (fVar 0) (fCons (fVar 1) (fCons (pur .non) (pur []))))), ⟨⟨rfl, rfl, rfl, by decide +kernel, rfl, by decide +kernel, by decide +kernel⟩, fun _ _ _ _ us hl => match us, hl with | [_, _], _ => rfl, fun A outer s H E f c hr4 => (ed_callB noG D_fits (hr4.mono (by decide)) (passX (takes_of rfl rfl rfl rfl) fun _ _ _ _ h => h) (by rfl) (ea_cons (ed_var 0) (ea_cons (ed_var 1) (ea_cons ed_non ea_nil))) (len_cons (len_cons (len_cons (fun _ _ _ _ h => len_nil h)))))⟩, rfl⟩
      | 2, h => by
        have h' := Option.some.inj (show some _ = some i from h)
        subst h'
        exact ⟨["_law_one", "_law_two"], (fCall m_told_data (fCons (fVar 0) (fCons (fVar 1) (fCons (pur .non) (pur []))))), ⟨⟨rfl, rfl, rfl, by decide +kernel, rfl, by decide +kernel, by decide +kernel⟩, fun _ _ _ _ us hl => match us, hl with | [_, _], _ => rfl, fun A outer s H E f c hr4 => (ed_callB noG D_told_data (hr4.mono (by decide)) (passX (takes_of rfl rfl rfl rfl) fun _ _ _ _ h => h) (by rfl) (ea_cons (ed_var 0) (ea_cons (ed_var 1) (ea_cons ed_non ea_nil))) (len_cons (len_cons (len_cons (fun _ _ _ _ h => len_nil h)))))⟩, rfl⟩
      | n + 3, h => absurd (List.getElem?_eq_some_iff.mp h).1 (by
        have e : LS__law_none_right.length = 3 := rfl
        omega)) (hr2.mono (by decide)) (passX (takes_of rfl rfl rfl rfl) fun _ _ _ _ h => h) (ed_var 6) (ea_cons (ed_var 1) (ea_cons (ed_var 4) ea_nil)))) (ed_tup (ea_cons ed_str (ea_cons (ed_blt (call_repr (hga rfl) hr.units) cd_repr (by rfl) T.repr b_repr (ea_cons (ed_var 4) ea_nil)) (ea_cons ed_bl ea_nil))))) (ssd_cons (sd_ret ed_bl)
      ssd_nil) ssd_nil)
      ssd_nil)))
      (ssd_cons (sd_set 7 nd__law_none_right rfl (.inr rfl) (ed_callB noG D__law_pick (hr.mono (by decide)) pass0' (by rfl) (ea_cons (ed_var 0) (ea_cons (ed_lst (ea_cons ed_non (ea_cons ed_int (ea_cons (ed_mulS ed_str (ed_var 2)) (ea_cons (ed_rep (ed_lstM (ea_cons ed_int ea_nil)) (ed_sub (ed_var 2) ed_int)) (ea_cons (ed_rep (ed_lstM (ea_cons ed_int ea_nil)) (ed_plus (ed_var 2) ed_int)) (ea_cons (ed_rep (ed_lstM (ea_cons ed_int ea_nil)) (ed_var 2)) (ea_cons (ed_rep (ed_lstM (ea_cons ed_non ea_nil)) (ed_var 2)) (ea_cons (ed_rep (ed_lstM (ea_cons (ed_sub ed_int ed_int) ea_nil)) (ed_var 2)) (ea_cons (ed_rep (ed_lstM (ea_cons ed_bl ea_nil)) (ed_var 2)) ea_nil)))))))))) ea_nil)) (len_cons (len_cons (fun _ _ _ _ h => len_nil h)))))
      (ssd_cons (sd_if (et_ne hr.units (hrd (k := 5) T (hga rfl) (hr.mono (by decide)) TB rfl mT uT (LamX.lamS_by (sc := defScope (topS 38)) (by decide +kernel)) rfl (fun _ _ _ _ _ => rfl) fun A outer s H E f c hr2 => (ed_callB noG D_coded (hr2.mono (by decide)) (passX (takes_of rfl rfl rfl rfl) fun _ _ _ _ h => h) (by rfl) (ea_cons (ed_var 1) (ea_cons (ed_var 2) (ea_cons (ed_var 7) ea_nil))) (len_cons (len_cons (len_cons (fun _ _ _ _ h => len_nil h)))))) (ed_tup (ea_cons ed_str (ea_cons (ed_blt (call_repr (hga rfl) hr.units) cd_repr (by rfl) T.repr b_repr (ea_cons (ed_var 7) ea_nil)) (ea_cons ed_bl ea_nil))))) (ssd_cons (sd_ret ed_bl)
      ssd_nil) ssd_nil)
      (ssd_cons (sd_set 8 nd__law_none_right rfl (.inr rfl) (ed_callB noG D__law_pick (hr.mono (by decide)) pass0' (by rfl) (ea_cons (ed_var 0) (ea_cons (ed_lst (ea_cons ed_non (ea_cons ed_int (ea_cons (ed_mulS ed_str (ed_var 1)) (ea_cons (ed_rep (ed_lstM (ea_cons ed_int ea_nil)) (ed_sub (ed_var 1) ed_int)) (ea_cons (ed_rep (ed_lstM (ea_cons ed_int ea_nil)) (ed_plus (ed_var 1) ed_int)) (ea_cons (ed_rep (ed_lstM (ea_cons ed_int ea_nil)) (ed_var 1)) (ea_cons (ed_rep (ed_lstM (ea_cons (ed_sub ed_int ed_int) ea_nil)) (ed_var 1)) (ea_cons (ed_rep (ed_lstM (ea_cons ed_bl ea_nil)) (ed_var 1)) ea_nil))))))))) ea_nil)) (len_cons (len_cons (fun _ _ _ _ h => len_nil h)))))
      (ssd_cons (sd_if (et_ne hr.units (hrd (k := 6) T (hga rfl) (hr.mono (by decide)) TB rfl mT uT (LamX.lamS_by (sc := defScope (topS 38)) (by decide +kernel)) rfl (fun _ _ _ _ _ => rfl) fun A outer s H E f c hr2 => (ed_callB noG D_fits (hr2.mono (by decide)) (passX (takes_of rfl rfl rfl rfl) fun _ _ _ _ h => h) (by rfl) (ea_cons (ed_var 1) (ea_cons (ed_var 2) (ea_cons (ed_var 8) ea_nil))) (len_cons (len_cons (len_cons (fun _ _ _ _ h => len_nil h)))))) (ed_tup (ea_cons ed_str (ea_cons (ed_blt (call_repr (hga rfl) hr.units) cd_repr (by rfl) T.repr b_repr (ea_cons (ed_var 8) ea_nil)) (ea_cons ed_bl ea_nil))))) (ssd_cons (sd_ret ed_bl)
      ssd_nil) ssd_nil)
      (ssd_cons (sd_ret (ed_eq hr.units (hrd (k := 6) T (hga rfl) (hr.mono (by decide)) TB rfl mT uT (LamX.lamS_by (sc := defScope (topS 38)) (by decide +kernel)) rfl (fun _ _ _ _ _ => rfl) fun A outer s H E f c hr2 => (ed_callB noG D_told_data (hr2.mono (by decide)) (passX (takes_of rfl rfl rfl rfl) fun _ _ _ _ h => h) (by rfl) (ea_cons (ed_var 1) (ea_cons (ed_var 2) (ea_cons (ed_var 8) ea_nil))) (len_cons (len_cons (len_cons (fun _ _ _ _ h => len_nil h)))))) (ed_tup (ea_cons ed_str (ea_cons (ed_blt (call_repr (hga rfl) hr.units) cd_repr (by rfl) T.repr b_repr (ea_cons (ed_var 8) ea_nil)) (ea_cons ed_bl ea_nil))))))
      ssd_nil)))))))))))⟩

theorem nd__law_row_right : N__law_row_right.Nodup := by decide +kernel
theorem sc__law_row_right : FnScope N__law_row_right ["_law_count", "_law_need", "_law_row"] (defScope (topS 36)) := ⟨rfl, rfl, rfl, by decide +kernel, rfl, by decide +kernel, by decide +kernel⟩
theorem ok__law_row_right {f : Addr} {oc kV doc pm cdv ct : Value} {od an : Option Addr} {osl : Array (Option Value)} (T : Txt K mg P fI_Refused) (D_fits : DfB false Pg w K mg base P (L2.CX Pg w) 6 "fits" (topS 26) ["count", "need", "row"] m_fits) (D__law_at : DfB false Pg w K mg base P CX0 2 "_law_at" (topS 33) ["_law_points", "_law_place"] m__law_at) (D_told_data : DfB false Pg w K mg base P (L2.CX Pg w) 6 "told_data" (topS 27) ["count", "need", "row"] m_told_data)  (l36 : K.lookup f = some ⟨oc, od, .func (PySem.W.fnOf "_law_row_right" "_law_row_right" (defArgs (topS 36)) (defBody (topS 36)) (defScope (topS 36)) .none kV doc pm an cdv ct), osl⟩) (hcd : PySem.W.codeIn K cdv "_law_row_right" = true) (kp : PySem.W.keepIn K (.ref f) = true) (hm : mg "_law_row_right" = some (.ref f)) : DfB true Pg w K mg base P CX0 7 "_law_row_right" (topS 36) ["_law_count", "_law_need", "_law_row"] m__law_row_right :=
  df_B0 (gd := true) (N := N__law_row_right) (S := S__law_row_right) (k := 6) l36 hcd kp hm sc__law_row_right (fun _ _ _ _ _ _ us hl => match us, hl with | [_, _, _], _ => rfl) fun A outer s H hga hr => (ssd_cons (sd_set 3 nd__law_row_right rfl (.inr rfl) (ed_lc (own := [("_law_chip", 4)]) rfl nd__law_row_right (ei_rg1 (by rfl) T.range (ea_cons (ed_var 0) ea_nil)) (blkOk_by (own := [("_law_chip", 4)]) (N := N__law_row_right) (sc := defScope (topS 36)) (by decide +kernel)) (gd_one 4) (fun _ _ _ _ _ => (pg_name (i := 4) nd__law_row_right rfl (by first | exact .inl rfl | exact .inr rfl))) (fun _ _ _ _ _ => (et_one (et_notN (ed_ix (ed_var 2) (ed_var 4) (fun _ _ => rfl))))) (fun _ _ _ _ _ => (ed_tup (ea_cons (ed_var 4) (ea_cons (ed_ix (ed_var 2) (ed_var 4) (fun _ _ => rfl)) ea_nil))))))
      (ssd_cons (sd_set 5 nd__law_row_right rfl (.inl rfl) (ed_eq hr.units (ed_lc (own := [("_law_one", 6)]) rfl nd__law_row_right (ei_any (ed_sl (ed_var 3) (epo_some (ed_var 1)) epo_none)) (blkOk_by (own := [("_law_one", 6)]) (N := N__law_row_right) (sc := defScope (topS 36)) (by decide +kernel)) (gd_one 6) (fun _ _ _ _ _ => (pg_name (i := 6) nd__law_row_right rfl (by first | exact .inl rfl | exact .inr rfl))) (fun _ _ _ _ _ => (et_one (et_ne hr.units (ed_callB noG D__law_at (hr.mono (by decide)) pass0' (by rfl) (ea_cons (ed_sl (ed_var 3) epo_none (epo_some (ed_var 1))) (ea_cons (ed_ix (ed_var 6) ed_int (fun _ _ => rfl)) ea_nil)) (len_cons (len_cons (fun _ _ _ _ h => len_nil h)))) (ed_ix (ed_var 6) ed_int (fun _ _ => rfl))))) (fun _ _ _ _ _ => (ed_var 6))) (ed_lst ea_nil)))
      (ssd_cons (sd_if (et_ne hr.units (ed_blt (call_repr (hga rfl) hr.units) cd_repr (by rfl) T.repr b_repr (ea_cons (ed_lst (ea_cons (ed_callB noG D_fits (hr.mono (by decide)) passL (by rfl) (ea_cons (ed_var 0) (ea_cons (ed_var 1) (ea_cons (ed_var 2) ea_nil))) (len_cons (len_cons (len_cons (fun _ _ _ _ h => len_nil h))))) (ea_cons (ed_callBK (ks := ["row", "need", "count"]) [2, 1, 0] noG D_fits (hr.mono (by decide)) passL (by rfl) (fun _ _ _ _ _ _ ws hl => match ws, hl with | [_, _, _], _ => rfl) (ek_cons (ed_ty call_tuple_of cd_tupOf (by rfl) T.tuple b_tuple (ea_cons (ed_var 2) ea_nil)) (ek_cons (ed_var 1) (ek_cons (ed_var 0) ek_nil))) (len_cons (len_cons (len_cons (fun _ _ _ _ h => len_nil h))))) ea_nil))) ea_nil)) (ed_blt (call_repr (hga rfl) hr.units) cd_repr (by rfl) T.repr b_repr (ea_cons (ed_lst (ea_cons (ed_var 5) (ea_cons (ed_var 5) ea_nil))) ea_nil))) (ssd_cons (sd_ret ed_bl)
      ssd_nil) ssd_nil)
      (ssd_cons (sd_set 7 nd__law_row_right rfl (.inl rfl) ed_non)
      (ssd_cons (sd_if (et_w (ew_and (et_tru (ed_var 5)) (ew_and1 (et_ge (ed_blt call_lenA cd_len (by rfl) T.len b_len (ea_cons (ed_var 3) ea_nil)) (ed_var 1))))) (ssd_cons (sd_set 7 nd__law_row_right rfl (.inl rfl) (ed_ty call_tuple_of cd_tupOf (by rfl) T.tuple b_tuple (ea_cons (ed_lc (own := [("_law_chip", 4)]) rfl nd__law_row_right (ei_rg1 (by rfl) T.range (ea_cons (ed_var 1) ea_nil)) (blkOk_by (own := [("_law_chip", 4)]) (N := N__law_row_right) (sc := defScope (topS 36)) (by decide +kernel)) (gd_one 4) (fun _ _ _ _ _ => (pg_name (i := 4) nd__law_row_right rfl (by first | exact .inl rfl | exact .inr rfl))) (fun _ _ _ _ _ => et_yes) (fun _ _ _ _ _ => (ed_callB noG D__law_at (hr.mono (by decide)) pass0' (by rfl) (ea_cons (ed_sl (ed_var 3) epo_none (epo_some (ed_var 1))) (ea_cons (ed_var 4) ea_nil)) (len_cons (len_cons (fun _ _ _ _ h => len_nil h)))))) ea_nil)))
      ssd_nil) ssd_nil)
      (ssd_cons (sd_ret (ed_eq hr.units (ed_blt (call_repr (hga rfl) hr.units) cd_repr (by rfl) T.repr b_repr (ea_cons (ed_lst (ea_cons (ed_callB noG D_told_data (hr.mono (by decide)) passL (by rfl) (ea_cons (ed_var 0) (ea_cons (ed_var 1) (ea_cons (ed_var 2) ea_nil))) (len_cons (len_cons (len_cons (fun _ _ _ _ h => len_nil h))))) (ea_cons (ed_callBK (ks := ["row", "need", "count"]) [2, 1, 0] noG D_told_data (hr.mono (by decide)) passL (by rfl) (fun _ _ _ _ _ _ ws hl => match ws, hl with | [_, _, _], _ => rfl) (ek_cons (ed_ty call_tuple_of cd_tupOf (by rfl) T.tuple b_tuple (ea_cons (ed_var 2) ea_nil)) (ek_cons (ed_var 1) (ek_cons (ed_var 0) ek_nil))) (len_cons (len_cons (len_cons (fun _ _ _ _ h => len_nil h))))) ea_nil))) ea_nil)) (ed_blt (call_repr (hga rfl) hr.units) cd_repr (by rfl) T.repr b_repr (ea_cons (ed_lst (ea_cons (ed_var 7) (ea_cons (ed_var 7) ea_nil))) ea_nil))))
      ssd_nil))))))

theorem nd__law_few_right : N__law_few_right.Nodup := by decide +kernel
theorem sc__law_few_right : FnScope N__law_few_right ["_law_box_here", "_law_count", "_law_need", "_law_line_here"] (defScope (topS 37)) := ⟨rfl, rfl, rfl, by decide +kernel, rfl, by decide +kernel, by decide +kernel⟩
theorem ok__law_few_right {f : Addr} {oc kV doc pm cdv ct : Value} {od an : Option Addr} {osl : Array (Option Value)} (T : Txt K mg P fI_Refused) (D__law_take : DfB false Pg w K mg base P CX0 1 "_law_take" (topS 30) ["_law_box_here", "_law_many"] m__law_take) (D_told_data : DfB false Pg w K mg base P (L2.CX Pg w) 6 "told_data" (topS 27) ["count", "need", "row"] m_told_data) (D_coded : DfB false Pg w K mg base P (L2.CX Pg w) 5 "coded" (topS 25) ["count", "need", "data"] m_coded) (D_fits : DfB false Pg w K mg base P (L2.CX Pg w) 6 "fits" (topS 26) ["count", "need", "row"] m_fits)  (l37 : K.lookup f = some ⟨oc, od, .func (PySem.W.fnOf "_law_few_right" "_law_few_right" (defArgs (topS 37)) (defBody (topS 37)) (defScope (topS 37)) .none kV doc pm an cdv ct), osl⟩) (hcd : PySem.W.codeIn K cdv "_law_few_right" = true) (kp : PySem.W.keepIn K (.ref f) = true) (hm : mg "_law_few_right" = some (.ref f)) : DfB false Pg w K mg base P CX0 7 "_law_few_right" (topS 37) ["_law_box_here", "_law_count", "_law_need", "_law_line_here"] m__law_few_right :=
  df_B0 (gd := false) (N := N__law_few_right) (S := S__law_few_right) (k := 6) l37 hcd kp hm sc__law_few_right (fun _ _ _ _ _ _ us hl => match us, hl with | [_, _, _, _], _ => rfl) fun A outer s H hga hr => (ssd_cons (sd_par 4 5 rfl nd__law_few_right rfl rfl (by decide) rfl rfl (ea_cons (ed_rgM rfl (by rfl) T.list (by rfl) T.range (ed_var 1)) (ea_cons (ed_lstM ea_nil) ea_nil)) (by rfl))
      (ssd_cons (sd_for PassesOwn.never rfl (ei_rg1 (by rfl) T.range (ea_cons (ed_var 2) ea_nil)) (pg_name (i := 6) nd__law_few_right rfl (.inl rfl)) (gd_one 6) (ssd_cons (sd_app (ed_var 5) (ed_popAt (ed_var 4) (ed_callB noG D__law_take (hr.mono (by decide)) pass0' (by rfl) (ea_cons (ed_var 0) (ea_cons (ed_blt call_lenA cd_len (by rfl) T.len b_len (ea_cons (ed_var 4) ea_nil)) ea_nil)) (len_cons (len_cons (fun _ _ _ _ h => len_nil h))))))
      ssd_nil))
      (ssd_frz 5 (ssd_cons (sd_set 7 nd__law_few_right rfl (.inl rfl) (ed_callB noG D__law_take (hr.mono (by decide)) pass0' (by rfl) (ea_cons (ed_var 0) (ea_cons (ed_var 2) ea_nil)) (len_cons (len_cons (fun _ _ _ _ h => len_nil h)))))
      (ssd_cons (sd_set 8 nd__law_few_right rfl (.inr rfl) (ed_repM (ed_lstM (ea_cons ed_non ea_nil)) (ed_var 1)))
      (ssd_cons (sd_for PassesOwn.never rfl (ei_rg1 (by rfl) T.range (ea_cons (ed_var 2) ea_nil)) (pg_name (i := 9) nd__law_few_right rfl (.inl rfl)) (gd_one 9) (ssd_cons (sd_put (ed_ifExp (et_lt (ed_var 9) (ed_var 7)) (ed_ix (ed_var 3) (ed_ix (ed_var 5) (ed_var 9) (fun _ _ => rfl)) (fun _ _ => rfl)) (ed_callB noG D__law_take (hr.mono (by decide)) pass0' (by rfl) (ea_cons (ed_var 0) (ea_cons ed_int ea_nil)) (len_cons (len_cons (fun _ _ _ _ h => len_nil h))))) (ed_var 8) (ed_ix (ed_var 5) (ed_var 9) (fun _ _ => rfl)))
      ssd_nil))
      (ssd_frz 8 (ssd_cons (sd_set 10 nd__law_few_right rfl (.inl rfl) (ed_callB noG D_told_data (hr.mono (by decide)) passL (by rfl) (ea_cons (ed_var 1) (ea_cons (ed_var 2) (ea_cons (ed_var 8) ea_nil))) (len_cons (len_cons (len_cons (fun _ _ _ _ h => len_nil h))))))
      (ssd_cons (sd_if (et_w (ew_or (et_not (et_val (ed_isi (by rfl) T.isinstance b_isinstance (ed_var 10) (by rfl) T.tuple b_tuple))) (ew_or1 (et_not (et_val (ed_callB noG D_fits (hr.mono (by decide)) passL (by rfl) (ea_cons (ed_var 1) (ea_cons (ed_var 2) (ea_cons (ed_var 8) ea_nil))) (len_cons (len_cons (len_cons (fun _ _ _ _ h => len_nil h)))))))))) (ssd_cons (sd_ret ed_bl)
      ssd_nil) ssd_nil)
      (ssd_cons (sd_set 11 nd__law_few_right rfl (.inr rfl) (ed_callB noG D_coded (hr.mono (by decide)) passL (by rfl) (ea_cons (ed_var 1) (ea_cons (ed_var 2) (ea_cons (ed_var 10) ea_nil))) (len_cons (len_cons (len_cons (fun _ _ _ _ h => len_nil h))))))
      (ssd_cons (sd_ret (ed_eq hr.units (ed_lc (own := [("_law_chip", 12)]) rfl nd__law_few_right (ei_any (ed_var 5)) (blkOk_by (own := [("_law_chip", 12)]) (N := N__law_few_right) (sc := defScope (topS 37)) (by decide +kernel)) (gd_one 12) (fun _ _ _ _ _ => (pg_name (i := 12) nd__law_few_right rfl (by first | exact .inl rfl | exact .inr rfl))) (fun _ _ _ _ _ => (et_one (et_ne hr.units (ed_ix (ed_var 11) (ed_var 12) (fun _ _ => rfl)) (ed_ix (ed_var 8) (ed_var 12) (fun _ _ => rfl))))) (fun _ _ _ _ _ => (ed_var 12))) (ed_lst ea_nil)))
      ssd_nil)))))))))))

theorem nd_law : N_law.Nodup := by decide +kernel
theorem sc_law : FnScope N_law ["_law_script"] (defScope (topS 39)) := ⟨rfl, rfl, rfl, by decide +kernel, rfl, by decide +kernel, by decide +kernel⟩
theorem ok_law {f : Addr} {oc kV doc pm cdv ct : Value} {od an : Option Addr} {osl : Array (Option Value)} (T : Txt K mg P fI_Refused) (D__law_box : DfB false Pg w K mg base P CX0 1 "_law_box" (topS 29) ["_law_script", "_law_k"] m__law_box) (D__law_line : DfB false Pg w K mg base P CX0 3 "_law_line" (topS 35) ["_law_need", "_law_count", "_law_data"] m__law_line) (D__law_take : DfB false Pg w K mg base P CX0 1 "_law_take" (topS 30) ["_law_box_here", "_law_many"] m__law_take) (D__law_pick : DfB false Pg w K mg base P CX0 2 "_law_pick" (topS 31) ["_law_box_here", "_law_some"] m__law_pick) (D__law_none_right : DfB true Pg w K mg base P CX0 11 "_law_none_right" (topS 38) ["_law_box_here", "_law_count", "_law_need"] m__law_none_right) (D_coded : DfB false Pg w K mg base P (L2.CX Pg w) 5 "coded" (topS 25) ["count", "need", "data"] m_coded) (D__law_row_right : DfB true Pg w K mg base P CX0 7 "_law_row_right" (topS 36) ["_law_count", "_law_need", "_law_row"] m__law_row_right) (D__law_few_right : DfB false Pg w K mg base P CX0 7 "_law_few_right" (topS 37) ["_law_box_here", "_law_count", "_law_need", "_law_line_here"] m__law_few_right)  (l39 : K.lookup f = some ⟨oc, od, .func (PySem.W.fnOf "law" "law" (defArgs (topS 39)) (defBody (topS 39)) (defScope (topS 39)) .none kV doc pm an cdv ct), osl⟩) (hcd : PySem.W.codeIn K cdv "law" = true) (kp : PySem.W.keepIn K (.ref f) = true) (hm : mg "law" = some (.ref f)) : DfB true Pg w K mg base P CX0 12 "law" (topS 39) ["_law_script"] m_law :=
  df_B0 (gd := true) (N := N_law) (S := S_law) (k := 11) l39 hcd kp hm sc_law (fun _ _ _ _ _ _ us hl => match us, hl with | [_], _ => rfl) fun A outer s H hga hr => (ssd_cons (sd_for PassesOwn.never rfl (ei_rg1 (by rfl) T.range (ea_cons ed_int ea_nil)) (pg_name (i := 1) nd_law rfl (.inl rfl)) (gd_one 1) (ssd_cons (sd_set 2 nd_law rfl (.inr rfl) (ed_callB noG D__law_box (hr.mono (by decide)) pass0' (by rfl) (ea_cons (ed_var 0) (ea_cons (ed_var 1) ea_nil)) (len_cons (len_cons (fun _ _ _ _ h => len_nil h)))))
      (ssd_cons (sd_set 3 nd_law rfl (.inl rfl) (ed_plus ed_int (ed_callB noG D__law_take (hr.mono (by decide)) pass0' (by rfl) (ea_cons (ed_var 2) (ea_cons ed_int ea_nil)) (len_cons (len_cons (fun _ _ _ _ h => len_nil h))))))
      (ssd_cons (sd_set 4 nd_law rfl (.inl rfl) (ed_plus ed_int (ed_callB noG D__law_take (hr.mono (by decide)) pass0' (by rfl) (ea_cons (ed_var 2) (ea_cons (ed_var 3) ea_nil)) (len_cons (len_cons (fun _ _ _ _ h => len_nil h))))))
      (ssd_cons (sd_setLc (i := 5) (own := [("_law_at_here", 6)]) rfl nd_law rfl rfl (sw_true rfl rfl rfl (by decide +kernel)) (ei_rg1 (by rfl) T.range (ea_cons (ed_var 4) ea_nil)) (blkOk_by (own := [("_law_at_here", 6)]) (N := N_law) (sc := defScope (topS 39)) (by decide +kernel)) (gd_one 6) (fun _ _ _ _ _ => (pg_name (i := 6) nd_law rfl (by first | exact .inl rfl | exact .inr rfl))) (fun _ _ _ _ _ => et_yes) (fun _ _ _ _ _ => (ed_callB noG D__law_pick (hr.mono (by decide)) pass0' (by rfl) (ea_cons (ed_var 2) (ea_cons (ed_lst (ea_cons (ed_callB noG D__law_take (hr.mono (by decide)) pass0' (by rfl) (ea_cons (ed_var 2) (ea_cons ed_int ea_nil)) (len_cons (len_cons (fun _ _ _ _ h => len_nil h)))) (ea_cons ed_int (ea_cons ed_int (ea_cons ed_int ea_nil))))) ea_nil)) (len_cons (len_cons (fun _ _ _ _ h => len_nil h))))))
      (ssd_cons (sd_set 7 nd_law rfl (.inl rfl) (ed_callB noG D__law_line (hr.mono (by decide)) pass0' (by rfl) (ea_cons (ed_var 4) (ea_cons (ed_var 3) (ea_cons (ed_var 5) ea_nil))) (len_cons (len_cons (len_cons (fun _ _ _ _ h => len_nil h))))))
      (ssd_cons (sd_if (et_ne hr.units (ed_blt (call_repr (hga rfl) hr.units) cd_repr (by rfl) T.repr b_repr (ea_cons (ed_lst (ea_cons (ed_callB noG D_coded (hr.mono (by decide)) passL (by rfl) (ea_cons (ed_var 3) (ea_cons (ed_var 4) (ea_cons (ed_var 5) ea_nil))) (len_cons (len_cons (len_cons (fun _ _ _ _ h => len_nil h))))) (ea_cons (ed_callBK (ks := ["data", "need", "count"]) [2, 1, 0] noG D_coded (hr.mono (by decide)) passL (by rfl) (fun _ _ _ _ _ _ ws hl => match ws, hl with | [_, _, _], _ => rfl) (ek_cons (ed_ty call_tuple_of cd_tupOf (by rfl) T.tuple b_tuple (ea_cons (ed_var 5) ea_nil)) (ek_cons (ed_var 4) (ek_cons (ed_var 3) ek_nil))) (len_cons (len_cons (len_cons (fun _ _ _ _ h => len_nil h))))) ea_nil))) ea_nil)) (ed_blt (call_repr (hga rfl) hr.units) cd_repr (by rfl) T.repr b_repr (ea_cons (ed_rep (ed_lstM (ea_cons (ed_ty call_tuple_of cd_tupOf (by rfl) T.tuple b_tuple (ea_cons (ed_var 7) ea_nil)) ea_nil)) ed_int) ea_nil))) (ssd_cons (sd_ret ed_bl)
      ssd_nil) ssd_nil)
      (ssd_cons (sd_for PassesOwn.never rfl (ei_rg1 (by rfl) T.range (ea_cons ed_int ea_nil)) (pg_name (i := 8) nd_law rfl (.inl rfl)) (gd_one 8) (ssd_cons (sd_setLcM (i := 9) (own := [("_law_one", 10)]) rfl nd_law rfl rfl (sw_true rfl rfl rfl (by decide +kernel)) (ei_any (ed_var 7)) (blkOk_by (own := [("_law_one", 10)]) (N := N_law) (sc := defScope (topS 39)) (by decide +kernel)) (gd_one 10) (fun _ _ _ _ _ => (pg_name (i := 10) nd_law rfl (by first | exact .inl rfl | exact .inr rfl))) (fun _ _ _ _ _ => et_yes) (fun _ _ _ _ _ => (ed_ifExp (et_eq hr.units (ed_callB noG D__law_take (hr.mono (by decide)) pass0' (by rfl) (ea_cons (ed_var 2) (ea_cons ed_int ea_nil)) (len_cons (len_cons (fun _ _ _ _ h => len_nil h)))) ed_int) ed_non (ed_var 10))))
      (ssd_cons (sd_if (et_eq hr.units (ed_callB noG D__law_take (hr.mono (by decide)) pass0' (by rfl) (ea_cons (ed_var 2) (ea_cons ed_int ea_nil)) (len_cons (len_cons (fun _ _ _ _ h => len_nil h)))) ed_int) (ssd_cons (sd_set 6 nd_law rfl (.inl rfl) (ed_callB noG D__law_take (hr.mono (by decide)) pass0' (by rfl) (ea_cons (ed_var 2) (ea_cons (ed_var 3) ea_nil)) (len_cons (len_cons (fun _ _ _ _ h => len_nil h)))))
      (ssd_cons (sd_put (ed_callB noG D__law_pick (hr.mono (by decide)) pass0' (by rfl) (ea_cons (ed_var 2) (ea_cons (ed_lst (ea_cons ed_non (ea_cons (ed_callB noG D__law_take (hr.mono (by decide)) pass0' (by rfl) (ea_cons (ed_var 2) (ea_cons ed_int ea_nil)) (len_cons (len_cons (fun _ _ _ _ h => len_nil h)))) (ea_cons (ed_mod (ed_ty call_int1 cd_int (by rfl) T.int b_int (ea_cons (ed_plus (ed_ix (ed_var 7) (ed_var 6) (fun _ _ => rfl)) ed_int) ea_nil)) ed_int) ea_nil)))) ea_nil)) (len_cons (len_cons (fun _ _ _ _ h => len_nil h)))) (ed_var 9) (ed_var 6))
      ssd_nil)) ssd_nil)
      (ssd_frz 9 (ssd_cons (sd_if (et_w (ew_or (et_not (et_val (ed_callB (yesG (hga rfl)) D__law_row_right (hr.mono (by decide)) pass0' (by rfl) (ea_cons (ed_var 3) (ea_cons (ed_var 4) (ea_cons (ed_var 9) ea_nil))) (len_cons (len_cons (len_cons (fun _ _ _ _ h => len_nil h))))))) (ew_or1 (et_not (et_val (ed_callB noG D__law_few_right (hr.mono (by decide)) pass0' (by rfl) (ea_cons (ed_var 2) (ea_cons (ed_var 3) (ea_cons (ed_var 4) (ea_cons (ed_var 7) ea_nil)))) (len_cons (len_cons (len_cons (len_cons (fun _ _ _ _ h => len_nil h))))))))))) (ssd_cons (sd_ret ed_bl)
      ssd_nil) ssd_nil)
      ssd_nil)))))
      (ssd_cons (sd_if (et_not (et_val (ed_callB (yesG (hga rfl)) D__law_none_right (hr.mono (by decide)) pass0' (by rfl) (ea_cons (ed_var 2) (ea_cons (ed_var 3) (ea_cons (ed_var 4) ea_nil))) (len_cons (len_cons (len_cons (fun _ _ _ _ h => len_nil h))))))) (ssd_cons (sd_ret ed_bl)
      ssd_nil) ssd_nil)
      ssd_nil)))))))))
      (ssd_cons (sd_ret ed_bl)
      ssd_nil))
end
end K23

end
section
set_option Elab.async false
set_option linter.all false
set_option maxRecDepth 100000
set_option maxHeartbeats 4000000
namespace K23
open PySem PySem.Spec PyProof.Rows L2 Ms
def dD__law_box : He.DefD := ⟨("_law_box", none), "_law_box", "_law_box", defArgs (topS 29), defBody (topS 29), defScope (topS 29), [], []⟩
def dD__law_turned : He.DefD := ⟨("_law_turned", none), "_law_turned", "_law_turned", defArgs (topS 34), defBody (topS 34), defScope (topS 34), [], []⟩
def dD__law_at : He.DefD := ⟨("_law_at", none), "_law_at", "_law_at", defArgs (topS 33), defBody (topS 33), defScope (topS 33), [], []⟩
def dD__law_line : He.DefD := ⟨("_law_line", none), "_law_line", "_law_line", defArgs (topS 35), defBody (topS 35), defScope (topS 35), [], []⟩
def dD__law_take : He.DefD := ⟨("_law_take", none), "_law_take", "_law_take", defArgs (topS 30), defBody (topS 30), defScope (topS 30), [], []⟩
def dD__law_pick : He.DefD := ⟨("_law_pick", none), "_law_pick", "_law_pick", defArgs (topS 31), defBody (topS 31), defScope (topS 31), [], []⟩
def dD_is_integer : He.DefD := ⟨("is_integer", none), "is_integer", "is_integer", defArgs (topS 4), defBody (topS 4), defScope (topS 4), [], []⟩
def dD_is_within : He.DefD := ⟨("is_within", none), "is_within", "is_within", defArgs (topS 5), defBody (topS 5), defScope (topS 5), [], []⟩
def dD_need_within : He.DefD := ⟨("need_within", none), "need_within", "need_within", defArgs (topS 9), defBody (topS 9), defScope (topS 9), [], []⟩
def dD_need_code : He.DefD := ⟨("need_code", none), "need_code", "need_code", defArgs (topS 15), defBody (topS 15), defScope (topS 15), [], []⟩
def dD__cells_of : He.DefD := ⟨("_cells_of", none), "_cells_of", "_cells_of", defArgs (topS 24), defBody (topS 24), defScope (topS 24), [], []⟩
def dD_is_sequence : He.DefD := ⟨("is_sequence", none), "is_sequence", "is_sequence", defArgs (topS 7), defBody (topS 7), defScope (topS 7), [], []⟩
def dD_has_parts : He.DefD := ⟨("has_parts", none), "has_parts", "has_parts", defArgs (topS 8), defBody (topS 8), defScope (topS 8), [], []⟩
def dD_are_cells : He.DefD := ⟨("are_cells", none), "are_cells", "are_cells", defArgs (topS 14), defBody (topS 14), defScope (topS 14), [], []⟩
def dD__shares : He.DefD := ⟨("_shares", none), "_shares", "_shares", defArgs (topS 16), defBody (topS 16), defScope (topS 16), [], []⟩
def dD__line_at : He.DefD := ⟨("_line_at", none), "_line_at", "_line_at", defArgs (topS 17), defBody (topS 17), defScope (topS 17), [], []⟩
def dD_coded_lines : He.DefD := ⟨("coded_lines", none), "coded_lines", "coded_lines", defArgs (topS 20), defBody (topS 20), defScope (topS 20), [], []⟩
def dD_coded : He.DefD := ⟨("coded", none), "coded", "coded", defArgs (topS 25), defBody (topS 25), defScope (topS 25), [], []⟩
def dD__agree : He.DefD := ⟨("_agree", none), "_agree", "_agree", defArgs (topS 19), defBody (topS 19), defScope (topS 19), [], []⟩
def dD__chips_with : He.DefD := ⟨("_chips_with", none), "_chips_with", "_chips_with", defArgs (topS 18), defBody (topS 18), defScope (topS 18), [], []⟩
def dD_lines_fit : He.DefD := ⟨("lines_fit", none), "lines_fit", "lines_fit", defArgs (topS 21), defBody (topS 21), defScope (topS 21), [], []⟩
def dD_is_below : He.DefD := ⟨("is_below", none), "is_below", "is_below", defArgs (topS 6), defBody (topS 6), defScope (topS 6), [], []⟩
def dD__row_lines : He.DefD := ⟨("_row_lines", none), "_row_lines", "_row_lines", defArgs (topS 23), defBody (topS 23), defScope (topS 23), [], []⟩
def dD_fits : He.DefD := ⟨("fits", none), "fits", "fits", defArgs (topS 26), defBody (topS 26), defScope (topS 26), [], []⟩
def dD_told_lines : He.DefD := ⟨("told_lines", none), "told_lines", "told_lines", defArgs (topS 22), defBody (topS 22), defScope (topS 22), [], []⟩
def dD_told_data : He.DefD := ⟨("told_data", none), "told_data", "told_data", defArgs (topS 27), defBody (topS 27), defScope (topS 27), [], []⟩
def dD__law_none_right : He.DefD := ⟨("_law_none_right", none), "_law_none_right", "_law_none_right", defArgs (topS 38), defBody (topS 38), defScope (topS 38), [], []⟩
def dD__law_row_right : He.DefD := ⟨("_law_row_right", none), "_law_row_right", "_law_row_right", defArgs (topS 36), defBody (topS 36), defScope (topS 36), [], []⟩
def dD__law_few_right : He.DefD := ⟨("_law_few_right", none), "_law_few_right", "_law_few_right", defArgs (topS 37), defBody (topS 37), defScope (topS 37), [], []⟩
def dD_law : He.DefD := ⟨("law", none), "law", "law", defArgs (topS 39), defBody (topS 39), defScope (topS 39), [], []⟩
def dD__law_heard : He.DefD := ⟨("_law_heard", none), "_law_heard", "_law_heard", defArgs (topS 32), defBody (topS 32), defScope (topS 32), [], []⟩
def dI_Refused : He.DefD := ⟨("Refused", some "__init__"), "__init__", "Refused.__init__", PySem.RefX.iA ⟨6, 17, 6, 21⟩ ⟨6, 23, 6, 25⟩, PySem.RefX.iB ⟨7, 8, 7, 12⟩ ⟨7, 8, 7, 15⟩ ⟨7, 18, 7, 20⟩ ⟨7, 8, 7, 20⟩, PySem.RefX.iS, [], []⟩
def fn : List He.DefD := [dD__law_box, dD__law_turned, dD__law_at, dD__law_line, dD__law_take, dD__law_pick, dD_is_integer, dD_is_within, dD_need_within, dD_need_code, dD__cells_of, dD_is_sequence, dD_has_parts, dD_are_cells, dD__shares, dD__line_at, dD_coded_lines, dD_coded, dD__agree, dD__chips_with, dD_lines_fit, dD_is_below, dD__row_lines, dD_fits, dD_told_lines, dD_told_data, dD__law_none_right, dD__law_row_right, dD__law_few_right, dD_law, dD__law_heard, dI_Refused]
def fa : List He.Fa := [.glo "_law_box", .glo "_law_turned", .glo "_law_at", .glo "_law_line", .glo "_law_take", .glo "_law_pick", .glo "is_integer", .glo "is_within", .glo "need_within", .glo "need_code", .glo "_cells_of", .glo "is_sequence", .glo "has_parts", .glo "are_cells", .glo "_shares", .glo "_line_at", .glo "coded_lines", .glo "coded", .glo "_agree", .glo "_chips_with", .glo "lines_fit", .glo "is_below", .glo "_row_lines", .glo "fits", .glo "told_lines", .glo "told_data", .glo "_law_none_right", .glo "_law_row_right", .glo "_law_few_right", .glo "law", .glo "_law_heard", .glo "Refused", .glo "WreckError", .int "CELL_BOUND" 257, .int "LEAST_CHIPS" 2, .int "MOST_CHIPS" 8, .free "abs", .free "bool", .free "enumerate", .free "int", .free "isinstance", .free "len", .free "list", .free "pow", .free "range", .free "repr", .free "tuple", .free "zip"]
def tf : List He.Defn := [("_law_none_right", none)]
def ex (K : PySem.W.Frag) : Bool := lowB K "Refused" && (decide (∀ j ∈ CLS, ∀ k ∈ CLS, PySem.W.exmOne K (.ref (He.ga K k.cn)) (.ref (He.ga K j.cn)) = some (j.cn == k.cn)) && (decide (∀ k ∈ CLS, He.ga K k.cn ≠ He.ga K "WreckError") && (decide (∀ k ∈ CLS, PySem.W.kitOne K (.ref (He.ga K k.cn)) (.ref (He.ga K "WreckError")) = some true) && (decide ((tf.map fun p => (He.cT K p).2).Nodup)))))
theorem all_mk (MATH : LawIs) {l : PySem.W.OpenLaw} {w : World} {K : PySem.W.Frag} {h : Heap} {mg : Str → Option Value} {fa_ : Addr} (X : K.In h) (G : h.Ns mainGlobals mg) (hfa : mg "law" = some (.ref fa_)) (c : He.SaysX fa fn [] tf ex w h K) : LawAt l w K 63 mg fa_ h := by
  have cd := c.t.d
  have b0 := c.more
  unfold ex at b0
  obtain ⟨b_0, b0⟩ := He.ba b0
  obtain ⟨b_1, b0⟩ := He.ba b0
  obtain ⟨b_2, b0⟩ := He.ba b0
  obtain ⟨b_3, b0⟩ := He.ba b0
  have ndP := of_decide_eq_true b0
  have g29 := He.glo_ok X G (cd.fact 0 (f := .glo "_law_box") rfl)
  obtain ⟨fd29, FD29⟩ := cd.def_ 0 (d := dD__law_box) rfl
  obtain ⟨oc29, od29, kV29, dc29, pm29, an29, c29, ct29, sl29, l29, c29x, k29⟩ := def_of (x := "_law_box") (st := topS 29) FD29
  have g34 := He.glo_ok X G (cd.fact 1 (f := .glo "_law_turned") rfl)
  obtain ⟨fd34, FD34⟩ := cd.def_ 1 (d := dD__law_turned) rfl
  obtain ⟨oc34, od34, kV34, dc34, pm34, an34, c34, ct34, sl34, l34, c34x, k34⟩ := def_of (x := "_law_turned") (st := topS 34) FD34
  have g33 := He.glo_ok X G (cd.fact 2 (f := .glo "_law_at") rfl)
  obtain ⟨fd33, FD33⟩ := cd.def_ 2 (d := dD__law_at) rfl
  obtain ⟨oc33, od33, kV33, dc33, pm33, an33, c33, ct33, sl33, l33, c33x, k33⟩ := def_of (x := "_law_at") (st := topS 33) FD33
  have g35 := He.glo_ok X G (cd.fact 3 (f := .glo "_law_line") rfl)
  obtain ⟨fd35, FD35⟩ := cd.def_ 3 (d := dD__law_line) rfl
  obtain ⟨oc35, od35, kV35, dc35, pm35, an35, c35, ct35, sl35, l35, c35x, k35⟩ := def_of (x := "_law_line") (st := topS 35) FD35
  have g30 := He.glo_ok X G (cd.fact 4 (f := .glo "_law_take") rfl)
  obtain ⟨fd30, FD30⟩ := cd.def_ 4 (d := dD__law_take) rfl
  obtain ⟨oc30, od30, kV30, dc30, pm30, an30, c30, ct30, sl30, l30, c30x, k30⟩ := def_of (x := "_law_take") (st := topS 30) FD30
  have g31 := He.glo_ok X G (cd.fact 5 (f := .glo "_law_pick") rfl)
  obtain ⟨fd31, FD31⟩ := cd.def_ 5 (d := dD__law_pick) rfl
  obtain ⟨oc31, od31, kV31, dc31, pm31, an31, c31, ct31, sl31, l31, c31x, k31⟩ := def_of (x := "_law_pick") (st := topS 31) FD31
  have g4 := He.glo_ok X G (cd.fact 6 (f := .glo "is_integer") rfl)
  obtain ⟨fd4, FD4⟩ := cd.def_ 6 (d := dD_is_integer) rfl
  obtain ⟨oc4, od4, kV4, dc4, pm4, an4, c4, ct4, sl4, l4, c4x, k4⟩ := def_of (x := "is_integer") (st := topS 4) FD4
  have g5 := He.glo_ok X G (cd.fact 7 (f := .glo "is_within") rfl)
  obtain ⟨fd5, FD5⟩ := cd.def_ 7 (d := dD_is_within) rfl
  obtain ⟨oc5, od5, kV5, dc5, pm5, an5, c5, ct5, sl5, l5, c5x, k5⟩ := def_of (x := "is_within") (st := topS 5) FD5
  have g9 := He.glo_ok X G (cd.fact 8 (f := .glo "need_within") rfl)
  obtain ⟨fd9, FD9⟩ := cd.def_ 8 (d := dD_need_within) rfl
  obtain ⟨oc9, od9, kV9, dc9, pm9, an9, c9, ct9, sl9, l9, c9x, k9⟩ := def_of (x := "need_within") (st := topS 9) FD9
  have g15 := He.glo_ok X G (cd.fact 9 (f := .glo "need_code") rfl)
  obtain ⟨fd15, FD15⟩ := cd.def_ 9 (d := dD_need_code) rfl
  obtain ⟨oc15, od15, kV15, dc15, pm15, an15, c15, ct15, sl15, l15, c15x, k15⟩ := def_of (x := "need_code") (st := topS 15) FD15
  have g24 := He.glo_ok X G (cd.fact 10 (f := .glo "_cells_of") rfl)
  obtain ⟨fd24, FD24⟩ := cd.def_ 10 (d := dD__cells_of) rfl
  obtain ⟨oc24, od24, kV24, dc24, pm24, an24, c24, ct24, sl24, l24, c24x, k24⟩ := def_of (x := "_cells_of") (st := topS 24) FD24
  have g7 := He.glo_ok X G (cd.fact 11 (f := .glo "is_sequence") rfl)
  obtain ⟨fd7, FD7⟩ := cd.def_ 11 (d := dD_is_sequence) rfl
  obtain ⟨oc7, od7, kV7, dc7, pm7, an7, c7, ct7, sl7, l7, c7x, k7⟩ := def_of (x := "is_sequence") (st := topS 7) FD7
  have g8 := He.glo_ok X G (cd.fact 12 (f := .glo "has_parts") rfl)
  obtain ⟨fd8, FD8⟩ := cd.def_ 12 (d := dD_has_parts) rfl
  obtain ⟨oc8, od8, kV8, dc8, pm8, an8, c8, ct8, sl8, l8, c8x, k8⟩ := def_of (x := "has_parts") (st := topS 8) FD8
  have g14 := He.glo_ok X G (cd.fact 13 (f := .glo "are_cells") rfl)
  obtain ⟨fd14, FD14⟩ := cd.def_ 13 (d := dD_are_cells) rfl
  obtain ⟨oc14, od14, kV14, dc14, pm14, an14, c14, ct14, sl14, l14, c14x, k14⟩ := def_of (x := "are_cells") (st := topS 14) FD14
  have g16 := He.glo_ok X G (cd.fact 14 (f := .glo "_shares") rfl)
  obtain ⟨fd16, FD16⟩ := cd.def_ 14 (d := dD__shares) rfl
  obtain ⟨oc16, od16, kV16, dc16, pm16, an16, c16, ct16, sl16, l16, c16x, k16⟩ := def_of (x := "_shares") (st := topS 16) FD16
  have g17 := He.glo_ok X G (cd.fact 15 (f := .glo "_line_at") rfl)
  obtain ⟨fd17, FD17⟩ := cd.def_ 15 (d := dD__line_at) rfl
  obtain ⟨oc17, od17, kV17, dc17, pm17, an17, c17, ct17, sl17, l17, c17x, k17⟩ := def_of (x := "_line_at") (st := topS 17) FD17
  have g20 := He.glo_ok X G (cd.fact 16 (f := .glo "coded_lines") rfl)
  obtain ⟨fd20, FD20⟩ := cd.def_ 16 (d := dD_coded_lines) rfl
  obtain ⟨oc20, od20, kV20, dc20, pm20, an20, c20, ct20, sl20, l20, c20x, k20⟩ := def_of (x := "coded_lines") (st := topS 20) FD20
  have g25 := He.glo_ok X G (cd.fact 17 (f := .glo "coded") rfl)
  obtain ⟨fd25, FD25⟩ := cd.def_ 17 (d := dD_coded) rfl
  obtain ⟨oc25, od25, kV25, dc25, pm25, an25, c25, ct25, sl25, l25, c25x, k25⟩ := def_of (x := "coded") (st := topS 25) FD25
  have g19 := He.glo_ok X G (cd.fact 18 (f := .glo "_agree") rfl)
  obtain ⟨fd19, FD19⟩ := cd.def_ 18 (d := dD__agree) rfl
  obtain ⟨oc19, od19, kV19, dc19, pm19, an19, c19, ct19, sl19, l19, c19x, k19⟩ := def_of (x := "_agree") (st := topS 19) FD19
  have g18 := He.glo_ok X G (cd.fact 19 (f := .glo "_chips_with") rfl)
  obtain ⟨fd18, FD18⟩ := cd.def_ 19 (d := dD__chips_with) rfl
  obtain ⟨oc18, od18, kV18, dc18, pm18, an18, c18, ct18, sl18, l18, c18x, k18⟩ := def_of (x := "_chips_with") (st := topS 18) FD18
  have g21 := He.glo_ok X G (cd.fact 20 (f := .glo "lines_fit") rfl)
  obtain ⟨fd21, FD21⟩ := cd.def_ 20 (d := dD_lines_fit) rfl
  obtain ⟨oc21, od21, kV21, dc21, pm21, an21, c21, ct21, sl21, l21, c21x, k21⟩ := def_of (x := "lines_fit") (st := topS 21) FD21
  have g6 := He.glo_ok X G (cd.fact 21 (f := .glo "is_below") rfl)
  obtain ⟨fd6, FD6⟩ := cd.def_ 21 (d := dD_is_below) rfl
  obtain ⟨oc6, od6, kV6, dc6, pm6, an6, c6, ct6, sl6, l6, c6x, k6⟩ := def_of (x := "is_below") (st := topS 6) FD6
  have g23 := He.glo_ok X G (cd.fact 22 (f := .glo "_row_lines") rfl)
  obtain ⟨fd23, FD23⟩ := cd.def_ 22 (d := dD__row_lines) rfl
  obtain ⟨oc23, od23, kV23, dc23, pm23, an23, c23, ct23, sl23, l23, c23x, k23⟩ := def_of (x := "_row_lines") (st := topS 23) FD23
  have g26 := He.glo_ok X G (cd.fact 23 (f := .glo "fits") rfl)
  obtain ⟨fd26, FD26⟩ := cd.def_ 23 (d := dD_fits) rfl
  obtain ⟨oc26, od26, kV26, dc26, pm26, an26, c26, ct26, sl26, l26, c26x, k26⟩ := def_of (x := "fits") (st := topS 26) FD26
  have g22 := He.glo_ok X G (cd.fact 24 (f := .glo "told_lines") rfl)
  obtain ⟨fd22, FD22⟩ := cd.def_ 24 (d := dD_told_lines) rfl
  obtain ⟨oc22, od22, kV22, dc22, pm22, an22, c22, ct22, sl22, l22, c22x, k22⟩ := def_of (x := "told_lines") (st := topS 22) FD22
  have g27 := He.glo_ok X G (cd.fact 25 (f := .glo "told_data") rfl)
  obtain ⟨fd27, FD27⟩ := cd.def_ 25 (d := dD_told_data) rfl
  obtain ⟨oc27, od27, kV27, dc27, pm27, an27, c27, ct27, sl27, l27, c27x, k27⟩ := def_of (x := "told_data") (st := topS 27) FD27
  have g38 := He.glo_ok X G (cd.fact 26 (f := .glo "_law_none_right") rfl)
  obtain ⟨fd38, FD38⟩ := cd.def_ 26 (d := dD__law_none_right) rfl
  obtain ⟨oc38, od38, kV38, dc38, pm38, an38, c38, ct38, sl38, l38, c38x, k38⟩ := def_of (x := "_law_none_right") (st := topS 38) FD38
  have g36 := He.glo_ok X G (cd.fact 27 (f := .glo "_law_row_right") rfl)
  obtain ⟨fd36, FD36⟩ := cd.def_ 27 (d := dD__law_row_right) rfl
  obtain ⟨oc36, od36, kV36, dc36, pm36, an36, c36, ct36, sl36, l36, c36x, k36⟩ := def_of (x := "_law_row_right") (st := topS 36) FD36
  have g37 := He.glo_ok X G (cd.fact 28 (f := .glo "_law_few_right") rfl)
  obtain ⟨fd37, FD37⟩ := cd.def_ 28 (d := dD__law_few_right) rfl
  obtain ⟨oc37, od37, kV37, dc37, pm37, an37, c37, ct37, sl37, l37, c37x, k37⟩ := def_of (x := "_law_few_right") (st := topS 37) FD37
  have g39 := He.glo_ok X G (cd.fact 29 (f := .glo "law") rfl)
  obtain ⟨fd39, FD39⟩ := cd.def_ 29 (d := dD_law) rfl
  obtain ⟨oc39, od39, kV39, dc39, pm39, an39, c39, ct39, sl39, l39, c39x, k39⟩ := def_of (x := "law") (st := topS 39) FD39
  have g32 := He.glo_ok X G (cd.fact 30 (f := .glo "_law_heard") rfl)
  obtain ⟨fd32, FD32⟩ := cd.def_ 30 (d := dD__law_heard) rfl
  obtain ⟨oc32, od32, kV32, dc32, pm32, an32, c32, ct32, sl32, l32, c32x, k32⟩ := def_of (x := "_law_heard") (st := topS 32) FD32
  have gC_Refused := He.glo_ok X G (cd.fact 31 (f := .glo "Refused") rfl)
  obtain ⟨fdI_Refused, FI_Refused⟩ := cd.def_ 31 (d := dI_Refused) rfl
  have gB := He.glo_ok X G (cd.fact 32 (f := .glo "WreckError") rfl)
  have e38 : He.cT K ("_law_none_right", none) = (c38, He.tabOf K c38) := by
    unfold He.cT
    rw [He.codeOf_eq (p := ("_law_none_right", none)) l38 rfl]
  have m38 : (("_law_none_right", none) : He.Defn) ∈ tf := by simp [tf]
  have hP38 := c.empty _ m38
  have nP38 := c.out _ m38
  have hd38 := c.hd _ m38
  rw [e38] at hP38 nP38 hd38
  have e := hfa.symm.trans g39
  cases e
  refine ⟨[(c38, He.tabOf K c38)], fun p hp => ?_, fun p hp => ?_, fun p hp => ?_, fun base H s₁ a ns hn e0 TBs hH hS => ?_⟩
  · simp only [List.mem_cons, List.not_mem_nil, or_false] at hp
    subst hp
    exact hP38
  · simp only [List.mem_cons, List.not_mem_nil, or_false] at hp
    subst hp
    exact nP38
  · simp only [List.mem_cons, List.not_mem_nil, or_false] at hp
    subst hp
    exact PySem.W.codeHd_of_K X hd38
  · let TT : List (Addr × Str) := [(He.tabOf K c38, Q__law_none_right)]
    let CRf : Str → Addr := fun x => He.ga K x
    have ndT : (TT.map (·.1)).Nodup := by
      have q := ndP
      simp only [tf, List.map_cons, List.map_nil, e38] at q
      exact q
    have low_Refused : PySem.RefX.LowTxt "Refused" "Refused.__init__" K mg (CRf "Refused") (He.ma K (He.ga K "Refused") "__init__") := low_of X G b_0 gC_Refused FI_Refused
    have T : ∀ T' : Tb, Txt K mg (Pm.mk T' CRf) (He.ma K (He.ga K "Refused") "__init__") := fun _ => { CELL_BOUND := He.int_ok X G (cd.fact 33 (f := .int "CELL_BOUND" 257) rfl), LEAST_CHIPS := He.int_ok X G (cd.fact 34 (f := .int "LEAST_CHIPS" 2) rfl), MOST_CHIPS := He.int_ok X G (cd.fact 35 (f := .int "MOST_CHIPS" 8) rfl), abs := He.free_ok X G (cd.fact 36 (f := .free "abs") rfl), bool := He.free_ok X G (cd.fact 37 (f := .free "bool") rfl), enumerate := He.free_ok X G (cd.fact 38 (f := .free "enumerate") rfl), int := He.free_ok X G (cd.fact 39 (f := .free "int") rfl), isinstance := He.free_ok X G (cd.fact 40 (f := .free "isinstance") rfl), len := He.free_ok X G (cd.fact 41 (f := .free "len") rfl), list := He.free_ok X G (cd.fact 42 (f := .free "list") rfl), pow := He.free_ok X G (cd.fact 43 (f := .free "pow") rfl), range := He.free_ok X G (cd.fact 44 (f := .free "range") rfl), repr := He.free_ok X G (cd.fact 45 (f := .free "repr") rfl), tuple := He.free_ok X G (cd.fact 46 (f := .free "tuple") rfl), zip := He.free_ok X G (cd.fact 47 (f := .free "zip") rfl), low_Refused := low_Refused, heard := ⟨_, _, _, _, _, _, _, _, _, _, g32, k32, l32, c32x, (fun_mk (st := topS 32) l32 c32x k32).binds (ps := ["_law_ask"]) fun _ _ _ _ _ _ us hl => match us, hl with | [_], _ => rfl⟩, ap := show ∀ j ∈ CLS, ∀ k ∈ CLS, PySem.W.exmOne K (.ref (He.ga K k.cn)) (.ref (He.ga K j.cn)) = some (j.cn == k.cn) from of_decide_eq_true b_1, wr := ⟨_, gB, of_decide_eq_true b_2, of_decide_eq_true b_3⟩ }
    let TB0 : Tb := ⟨TT, fun _ _ _ => False, fun _ _ _ _ h _ => h⟩
    have D__law_box : ∀ T' : Tb, T'.tb = TT → DfB false l.prog w K mg base (Pm.mk T' CRf) CX0 1 "_law_box" (topS 29) ["_law_script", "_law_k"] m__law_box := fun T' eT => ok__law_box (Pg := l.prog) (w := w) (base := base) (P := Pm.mk T' CRf) (T T')   l29 c29x k29 g29
    have D__law_turned : ∀ T' : Tb, T'.tb = TT → DfB false l.prog w K mg base (Pm.mk T' CRf) CX0 1 "_law_turned" (topS 34) ["_law_number"] m__law_turned := fun T' eT => ok__law_turned (Pg := l.prog) (w := w) (base := base) (P := Pm.mk T' CRf) (T T')   l34 c34x k34 g34
    have D__law_at : ∀ T' : Tb, T'.tb = TT → DfB false l.prog w K mg base (Pm.mk T' CRf) CX0 2 "_law_at" (topS 33) ["_law_points", "_law_place"] m__law_at := fun T' eT => ok__law_at (Pg := l.prog) (w := w) (base := base) (P := Pm.mk T' CRf) (T T') (D__law_turned T' eT)  l33 c33x k33 g33
    have D__law_line : ∀ T' : Tb, T'.tb = TT → DfB false l.prog w K mg base (Pm.mk T' CRf) CX0 3 "_law_line" (topS 35) ["_law_need", "_law_count", "_law_data"] m__law_line := fun T' eT => ok__law_line (Pg := l.prog) (w := w) (base := base) (P := Pm.mk T' CRf) (T T') (D__law_at T' eT)  l35 c35x k35 g35
    have D__law_take : ∀ T' : Tb, T'.tb = TT → DfB false l.prog w K mg base (Pm.mk T' CRf) CX0 1 "_law_take" (topS 30) ["_law_box_here", "_law_many"] m__law_take := fun T' eT => ok__law_take (Pg := l.prog) (w := w) (base := base) (P := Pm.mk T' CRf) (T T')   l30 c30x k30 g30
    have D__law_pick : ∀ T' : Tb, T'.tb = TT → DfB false l.prog w K mg base (Pm.mk T' CRf) CX0 2 "_law_pick" (topS 31) ["_law_box_here", "_law_some"] m__law_pick := fun T' eT => ok__law_pick (Pg := l.prog) (w := w) (base := base) (P := Pm.mk T' CRf) (T T') (D__law_take T' eT)  l31 c31x k31 g31
    have D_is_integer : ∀ T' : Tb, T'.tb = TT → DfB false l.prog w K mg base (Pm.mk T' CRf) CX0 1 "is_integer" (topS 4) ["value"] m_is_integer := fun T' eT => ok_is_integer (Pg := l.prog) (w := w) (base := base) (P := Pm.mk T' CRf) (T T')   l4 c4x k4 g4
    have D_is_within : ∀ T' : Tb, T'.tb = TT → DfB false l.prog w K mg base (Pm.mk T' CRf) CX0 2 "is_within" (topS 5) ["value", "least", "most"] m_is_within := fun T' eT => ok_is_within (Pg := l.prog) (w := w) (base := base) (P := Pm.mk T' CRf) (T T') (D_is_integer T' eT)  l5 c5x k5 g5
    have D_need_within : ∀ T' : Tb, T'.tb = TT → DfB false l.prog w K mg base (Pm.mk T' CRf) (L2.CX l.prog w) 3 "need_within" (topS 9) ["value", "least", "most"] m_need_within := fun T' eT => ok_need_within (Pg := l.prog) (w := w) (base := base) (P := Pm.mk T' CRf) (T T') (D_is_within T' eT)  l9 c9x k9 g9
    have D_need_code : ∀ T' : Tb, T'.tb = TT → DfB false l.prog w K mg base (Pm.mk T' CRf) (L2.CX l.prog w) 4 "need_code" (topS 15) ["count", "need"] m_need_code := fun T' eT => ok_need_code (Pg := l.prog) (w := w) (base := base) (P := Pm.mk T' CRf) (T T') (D_need_within T' eT)  l15 c15x k15 g15
    have D__cells_of : ∀ T' : Tb, T'.tb = TT → DfB false l.prog w K mg base (Pm.mk T' CRf) CX0 1 "_cells_of" (topS 24) ["lines"] m__cells_of := fun T' eT => ok__cells_of (Pg := l.prog) (w := w) (base := base) (P := Pm.mk T' CRf) (T T')   l24 c24x k24 g24
    have D_is_sequence : ∀ T' : Tb, T'.tb = TT → DfB false l.prog w K mg base (Pm.mk T' CRf) CX0 1 "is_sequence" (topS 7) ["value"] m_is_sequence := fun T' eT => ok_is_sequence (Pg := l.prog) (w := w) (base := base) (P := Pm.mk T' CRf) (T T')   l7 c7x k7 g7
    have D_has_parts : ∀ T' : Tb, T'.tb = TT → DfB false l.prog w K mg base (Pm.mk T' CRf) CX0 2 "has_parts" (topS 8) ["value", "many"] m_has_parts := fun T' eT => ok_has_parts (Pg := l.prog) (w := w) (base := base) (P := Pm.mk T' CRf) (T T') (D_is_sequence T' eT)  l8 c8x k8 g8
    have D_are_cells : ∀ T' : Tb, T'.tb = TT → DfB false l.prog w K mg base (Pm.mk T' CRf) CX0 3 "are_cells" (topS 14) ["value", "many"] m_are_cells := fun T' eT => ok_are_cells (Pg := l.prog) (w := w) (base := base) (P := Pm.mk T' CRf) (T T') (D_has_parts T' eT)  l14 c14x k14 g14
    have D__shares : ∀ T' : Tb, T'.tb = TT → DfB false l.prog w K mg base (Pm.mk T' CRf) CX0 1 "_shares" (topS 16) ["chips", "at"] m__shares := fun T' eT => ok__shares (Pg := l.prog) (w := w) (base := base) (P := Pm.mk T' CRf) (T T')   l16 c16x k16 g16
    have D__line_at : ∀ T' : Tb, T'.tb = TT → DfB false l.prog w K mg base (Pm.mk T' CRf) CX0 2 "_line_at" (topS 17) ["lines", "chips", "at"] m__line_at := fun T' eT => ok__line_at (Pg := l.prog) (w := w) (base := base) (P := Pm.mk T' CRf) (T T') (D__shares T' eT)  l17 c17x k17 g17
    have D_coded_lines : ∀ T' : Tb, T'.tb = TT → DfB false l.prog w K mg base (Pm.mk T' CRf) CX0 3 "coded_lines" (topS 20) ["count", "data"] m_coded_lines := fun T' eT => ok_coded_lines (Pg := l.prog) (w := w) (base := base) (P := Pm.mk T' CRf) (T T') (D__line_at T' eT)  l20 c20x k20 g20
    have D_coded : ∀ T' : Tb, T'.tb = TT → DfB false l.prog w K mg base (Pm.mk T' CRf) (L2.CX l.prog w) 5 "coded" (topS 25) ["count", "need", "data"] m_coded := fun T' eT => ok_coded (Pg := l.prog) (w := w) (base := base) (P := Pm.mk T' CRf) (T T') (D_need_code T' eT) (D__cells_of T' eT) (D_are_cells T' eT) (D_coded_lines T' eT)  l25 c25x k25 g25
    have D__agree : ∀ T' : Tb, T'.tb = TT → DfB false l.prog w K mg base (Pm.mk T' CRf) CX0 3 "_agree" (topS 19) ["need", "lines", "chips"] m__agree := fun T' eT => ok__agree (Pg := l.prog) (w := w) (base := base) (P := Pm.mk T' CRf) (T T') (D__line_at T' eT)  l19 c19x k19 g19
    have D__chips_with : ∀ T' : Tb, T'.tb = TT → DfB false l.prog w K mg base (Pm.mk T' CRf) CX0 1 "_chips_with" (topS 18) ["lines"] m__chips_with := fun T' eT => ok__chips_with (Pg := l.prog) (w := w) (base := base) (P := Pm.mk T' CRf) (T T')   l18 c18x k18 g18
    have D_lines_fit : ∀ T' : Tb, T'.tb = TT → DfB false l.prog w K mg base (Pm.mk T' CRf) CX0 4 "lines_fit" (topS 21) ["need", "lines"] m_lines_fit := fun T' eT => ok_lines_fit (Pg := l.prog) (w := w) (base := base) (P := Pm.mk T' CRf) (T T') (D__agree T' eT) (D__chips_with T' eT)  l21 c21x k21 g21
    have D_is_below : ∀ T' : Tb, T'.tb = TT → DfB false l.prog w K mg base (Pm.mk T' CRf) CX0 2 "is_below" (topS 6) ["value", "bound"] m_is_below := fun T' eT => ok_is_below (Pg := l.prog) (w := w) (base := base) (P := Pm.mk T' CRf) (T T') (D_is_integer T' eT)  l6 c6x k6 g6
    have D__row_lines : ∀ T' : Tb, T'.tb = TT → DfB false l.prog w K mg base (Pm.mk T' CRf) (L2.CX l.prog w) 5 "_row_lines" (topS 23) ["count", "need", "row"] m__row_lines := fun T' eT => ok__row_lines (Pg := l.prog) (w := w) (base := base) (P := Pm.mk T' CRf) (T T') (D_need_code T' eT) (D_has_parts T' eT) (D_is_below T' eT)  l23 c23x k23 g23
    have D_fits : ∀ T' : Tb, T'.tb = TT → DfB false l.prog w K mg base (Pm.mk T' CRf) (L2.CX l.prog w) 6 "fits" (topS 26) ["count", "need", "row"] m_fits := fun T' eT => ok_fits (Pg := l.prog) (w := w) (base := base) (P := Pm.mk T' CRf) (T T') (D_lines_fit T' eT) (D__row_lines T' eT)  l26 c26x k26 g26
    have D_told_lines : ∀ T' : Tb, T'.tb = TT → DfB false l.prog w K mg base (Pm.mk T' CRf) CX0 4 "told_lines" (topS 22) ["need", "lines"] m_told_lines := fun T' eT => ok_told_lines (Pg := l.prog) (w := w) (base := base) (P := Pm.mk T' CRf) (T T') (D__chips_with T' eT) (D__agree T' eT) (D__line_at T' eT)  l22 c22x k22 g22
    have D_told_data : ∀ T' : Tb, T'.tb = TT → DfB false l.prog w K mg base (Pm.mk T' CRf) (L2.CX l.prog w) 6 "told_data" (topS 27) ["count", "need", "row"] m_told_data := fun T' eT => ok_told_data (Pg := l.prog) (w := w) (base := base) (P := Pm.mk T' CRf) (T T') (D_told_lines T' eT) (D__row_lines T' eT) (D__cells_of T' eT)  l27 c27x k27 g27
    have D__law_none_right := ok__law_none_right (Pg := l.prog) (w := w) (base := base) (P := Pm.mk TB0 CRf) (fun T' => T T') (fun T' eT => D__law_pick T' eT) (fun T' eT => D_coded T' eT) (fun T' eT => D_fits T' eT) (fun T' eT => D_told_data T' eT) (TBs (c38, He.tabOf K c38) (by simp)) (show (He.tabOf K c38, Q__law_none_right) ∈ TT from by simp [TT]) (fun q hq e => uT_of ndT (He.tabOf K c38, Q__law_none_right) (by simp [TT]) q (hq) e) l38 c38x k38 g38
    have D__law_row_right : ∀ T' : Tb, T'.tb = TT → DfB true l.prog w K mg base (Pm.mk T' CRf) CX0 7 "_law_row_right" (topS 36) ["_law_count", "_law_need", "_law_row"] m__law_row_right := fun T' eT => ok__law_row_right (Pg := l.prog) (w := w) (base := base) (P := Pm.mk T' CRf) (T T') (D_fits T' eT) (D__law_at T' eT) (D_told_data T' eT)  l36 c36x k36 g36
    have D__law_few_right : ∀ T' : Tb, T'.tb = TT → DfB false l.prog w K mg base (Pm.mk T' CRf) CX0 7 "_law_few_right" (topS 37) ["_law_box_here", "_law_count", "_law_need", "_law_line_here"] m__law_few_right := fun T' eT => ok__law_few_right (Pg := l.prog) (w := w) (base := base) (P := Pm.mk T' CRf) (T T') (D__law_take T' eT) (D_told_data T' eT) (D_coded T' eT) (D_fits T' eT)  l37 c37x k37 g37
    have D_law := ok_law (Pg := l.prog) (w := w) (base := base) (P := Pm.mk TB0 CRf) (T TB0) (D__law_box TB0 rfl) (D__law_line TB0 rfl) (D__law_take TB0 rfl) (D__law_pick TB0 rfl) D__law_none_right (D_coded TB0 rfl) (D__law_row_right TB0 rfl) (D__law_few_right TB0 rfl)  l39 c39x k39 g39
    obtain ⟨st, hst⟩ := MATH ns hn
    obtain ⟨f0, fd0, hm0, hF0, hB0, F0⟩ := D_law.ex
    have e := hfa.symm.trans hm0
    cases e
    have bb := hB0 s₁ [.ref a] (e0.mod.kin.keeps fun b o e => (e0.bs b o e).1) rfl
    rw [List.append_nil] at bb
    refine F0.run callerA [] s₁ H ⟨[.ref a], []⟩ [.ref a] [.ref a] (fun v _ => v = .bl true) E0 (fun _ => rfl) ⟨rfl, by decide, by decide⟩ e0 bb (.cons rfl .nil) ⟨⟨[], []⟩, [.scr ns], [], rfl, .cons (.scr ?_) .nil, ⟨rfl, fun k a b z => by simp at z, fun i j a b z => by simp at z, fun k a b z => by simp at z, fun e z => (nomatch z), fun p hp => ?_⟩, ?_⟩
    · rcases hS with hS | hS
      · exact .inl ⟨hS, ⟨fun z => (nomatch z), fun z => (nomatch z)⟩⟩
      · exact .inr (.inr hS)
    · have hp' : p ∈ TT := hp
      simp only [TT, List.mem_cons, List.not_mem_nil, or_false] at hp'
      subst hp'
      exact LamX.TabS.nil (hH (c38, He.tabOf K c38) (by simp))
    · show Out K _ _ _ (m_law [.scr ns] []) _ _
      rw [hst]
      exact fun β' v H' _ _ r => r.bl_inv
abbrev Rw : PySem.W.OpenRow := PySem.W.OpenLaw.row PySem.Challenge.rw_wrecktold_k23_whole_any_that_are_enough
def loose0 : List PySem.Str := ["is_integer", "is_within", "is_below", "is_sequence", "has_parts", "need_within", "are_cells", "need_code", "_shares", "_line_at", "_chips_with", "_agree", "coded_lines", "lines_fit", "told_lines", "_row_lines"]
def loose1 : List PySem.Str := ["_cells_of", "coded", "fits", "told_data", "_law_box", "_law_take", "_law_pick", "_law_heard", "_law_at", "_law_turned", "_law_line", "_law_row_right", "_law_few_right", "_law_none_right", "WreckError", "Refused"]
def loose2 : List PySem.Str := ["CELL_BOUND", "LEAST_CHIPS", "MOST_CHIPS"]
def loose : List PySem.Str := loose0 ++ loose1 ++ loose2
abbrev hk : PySem.W.Hook := He.hookX 5 fa fn [] tf ex
def ob (s : PySem.W.SharedT) : He.AlX := He.obsX 5 fa fn [] tf ex (HandSHeadRun.getT s)
theorem ob_eq (s : PySem.W.SharedT) : ob s = hk.obs s.abs := He.obsX_eq (HandSHeadRun.getT_eq s)
end K23

end
section
set_option Elab.async false
set_option linter.all false
set_option maxRecDepth 100000
set_option maxHeartbeats 4000000
namespace K23
open PySem PySem.Spec PyProof.Rows L2 Ms
theorem run (w : World) : HandSHeadRun.RunEq Rw (PySem.W.view Rw.prog [39]) hk ob 12000 loose w := by
  intro os
  kernel_rfl
end K23

end
section
set_option Elab.async false
set_option linter.all false
set_option maxRecDepth 100000
set_option maxHeartbeats 4000000
namespace Ms
open PySem PySem.Spec PyProof.Rows L2
section
variable {α γ : Type} {δ : List (Option D)} {bx : Sto} {E : Str → D → Sto → Prop} {N : List (Option D) → Sto → Prop} {Rt : D → Sto → Prop}
theorem W_var {i : Nat} {Q : D → Sto → Prop} : W (fVar i δ bx) Q E ↔ ∃ d, δ[i]? = some (some d) ∧ Q d bx := by
  unfold fVar
  constructor
  · intro h
    split at h
    · exact ⟨_, by assumption, h⟩
    · exact h.elim
  · rintro ⟨d, h1, h2⟩
    simp only [h1]
    exact h2
theorem W_rg1 {A : Fn (List D)} {Q : List D → Sto → Prop} : W (fRg1 A δ bx) Q E ↔ W (A δ bx) (fun ds bx' => ∃ j : Int, ds = [.int j] ∧ -(2 ^ 62) ≤ j ∧ j < 2 ^ 62 ∧ Q (rgl 0 j.toNat) bx') E := by
  unfold fRg1
  rw [W_bnd]
  refine iff_of_eq (congrArg (fun k => W (A δ bx) k E) (funext fun ds => funext fun bx' => propext ?_))
  constructor
  · intro h
    split at h
    · split at h
      · rename_i j hj
        exact ⟨j, rfl, hj.1, hj.2, h⟩
      · exact h.elim
    · exact h.elim
  · rintro ⟨j, rfl, h1, h2, h3⟩
    dsimp only
    rw [if_pos ⟨h1, h2⟩]
    exact h3
theorem W_rg2 {A : Fn (List D)} {Q : List D → Sto → Prop} : W (fRg2 A δ bx) Q E ↔ W (A δ bx) (fun ds bx' => ∃ i j : Int, ds = [.int i, .int j] ∧ (-(2 ^ 62) ≤ i ∧ i < 2 ^ 62 ∧ -(2 ^ 62) ≤ j ∧ j < 2 ^ 62) ∧ Q (rgl i (j - i).toNat) bx') E := by
  unfold fRg2
  rw [W_bnd]
  refine iff_of_eq (congrArg (fun k => W (A δ bx) k E) (funext fun ds => funext fun bx' => propext ?_))
  constructor
  · intro h
    split at h
    · split at h
      · rename_i i j hj
        exact ⟨i, j, rfl, hj, h⟩
      · exact h.elim
    · exact h.elim
  · rintro ⟨i, j, rfl, h1, h3⟩
    dsimp only
    rw [if_pos h1]
    exact h3
theorem W_zip {A : Fn (List D)} {Q : List D → Sto → Prop} : W (fZip A δ bx) Q E ↔ W (A δ bx) (fun ds bx' => ∃ l m, (ds = [.lst l, .lst m] ∨ ds = [.tup l, .tup m]) ∧ Q (zipD l m) bx') E := by
  unfold fZip
  rw [W_bnd]
  refine iff_of_eq (congrArg (fun k => W (A δ bx) k E) (funext fun ds => funext fun bx' => propext ?_))
  constructor
  · intro h
    split at h
    · exact ⟨_, _, .inl rfl, h⟩
    · exact ⟨_, _, .inr rfl, h⟩
    · exact h.elim
  · rintro ⟨l, m, rfl | rfl, h⟩
    · exact h
    · exact h
theorem W_enum {A : Fn (List D)} {Q : List D → Sto → Prop} : W (fEnum A δ bx) Q E ↔ W (A δ bx) (fun ds bx' => ∃ l, ds = [.lst l] ∧ Q (enumD 0 l) bx') E := by
  unfold fEnum
  rw [W_bnd]
  refine iff_of_eq (congrArg (fun k => W (A δ bx) k E) (funext fun ds => funext fun bx' => propext ?_))
  constructor
  · intro h
    split at h
    · exact ⟨_, rfl, h⟩
    · exact h.elim
  · rintro ⟨l, rfl, h⟩
    exact h
theorem W_lcA {is : List Nat} {b : Bd} {Fi : Fn (List D)} {C : Fn Bool} {F : Fn D} {Q : List D → Sto → Prop} : W (fLcA is b Fi C F δ bx) Q E ↔ W (Fi δ bx) (fun ds bx' => ds.length ≤ 1000000 ∧ W (lcGo b (unset is δ) C F ds bx' []) Q E) E := by
  unfold fLcA
  rw [W_bnd]
  refine iff_of_eq (congrArg (fun k => W (Fi δ bx) k E) (funext fun ds => funext fun bx' => propext ?_))
  by_cases h : ds.length ≤ 1000000
  · rw [if_pos h]
    exact ⟨fun q => ⟨h, q⟩, fun q => q.2⟩
  · rw [if_neg h]
    exact ⟨fun q => q.elim, fun q => h q.1⟩
theorem W_lc {is : List Nat} {b : Bd} {Fi : Fn (List D)} {C : Fn Bool} {F : Fn D} {Q : D → Sto → Prop} : W (fLc is b Fi C F δ bx) Q E ↔ W (fLcA is b Fi C F δ bx) (fun l bx' => Q (.lst l) bx') E := W_bnd
theorem W_lcM {is : List Nat} {b : Bd} {Fi : Fn (List D)} {C : Fn Bool} {F : Fn D} {Q : D → Sto → Prop} : W (fLcM is b Fi C F δ bx) Q E ↔ W (fLcA is b Fi C F δ bx) (fun l bx' => Q (.ref bx'.length) (bx' ++ [.lst l])) E := W_bnd
theorem W_allG {is : List Nat} {b : Bd} {Fi : Fn (List D)} {F : Fn D} {Q : D → Sto → Prop} : W (fAllG is b Fi F δ bx) Q E ↔ W (Fi δ bx) (fun ds bx' => W (allGo b (unset is δ) F ds bx') Q E) E := W_bnd
theorem W_heard {F : Fn D} {Q : D → Sto → Prop} : W (fHeard F δ bx) Q E ↔ W (F δ bx) (fun d bx' => Q (.tup [.str "told", d]) bx') (fun c d bx' => c = "Refused" ∧ showOk d = true ∧ Q (.tup [.str "refused", .str d.py.shown, .bl true]) bx') := by
  unfold fHeard hRes
  cases F δ bx with
  | ok d bx' => exact Iff.rfl
  | bad => exact Iff.rfl
  | err c d bx' =>
    constructor
    · intro h
      dsimp only at h
      split at h
      · split at h
        · exact ⟨by assumption, by assumption, h⟩
        · exact h.elim
      · exact h.elim
    · rintro ⟨h1, h2, h3⟩
      dsimp only
      rw [if_pos h1, if_pos h2]
      exact h3
/-! ### operations on what is known -/
theorem ev_plus {i j : Int} : cPlus bx (.int i) (.int j) = some (.int (i + j)) := rfl
theorem ev_sub {i j : Int} : cSub bx (.int i) (.int j) = some (.int (i - j)) := by simp [iI]
theorem ev_mulR {i j : Int} (h : -(2 ^ 64) < j ∧ j < 2 ^ 64) : cMul bx (.int i) (.int j) = some (.int (i * j)) := if_pos (Bool.or_eq_true_iff.mpr (.inr (decide_eq_true h)))
theorem ev_mulL {i j : Int} (h : -(2 ^ 64) < i ∧ i < 2 ^ 64) : cMul bx (.int i) (.int j) = some (.int (i * j)) := if_pos (Bool.or_eq_true_iff.mpr (.inl (decide_eq_true h)))
theorem ev_mod {i j : Int} (h : 0 < j) : cMod bx (.int i) (.int j) = some (.int (i % j)) := by simp [iI, h]
theorem ev_div {i j : Int} (h : 0 < j) (h2 : j < 1073741824) : cDiv bx (.int i) (.int j) = some (.int (i / j)) := by simp [iI, h, h2]
theorem ev_pow {i j : Int} (h : 0 ≤ j ∧ j ≤ 1000000 ∧ i.natAbs < 2 ^ 64) : cPow bx (.int i) (.int j) = some (.int (i ^ j.toNat)) := by simp [iI, decide_eq_true h]
theorem ev_iB {p : Int → Int → Bool} {i j : Int} : iB p bx (.int i) (.int j) = some (.bl (p i j)) := rfl
theorem ev_toB {b : Bool} : toB (.bl b) = some b := rfl
theorem ev_not {b : Bool} : cNot bx (.bl b) = some (.bl (!b)) := rfl
theorem ev_neg {i : Int} : cNeg bx (.int i) = some (.int (-i)) := rfl
theorem ev_isN {d : D} : cIsN bx d = some (.bl (isNon d)) := rfl
theorem ev_notN {d : D} : cNotN bx d = some (.bl (!isNon d)) := rfl
theorem ev_isB {n a b : Bool} : cIsB n bx (.bl a) (.bl b) = some (.bl (if n then !decide (a = b) else decide (a = b))) := rfl
theorem vs_lst {l : List D} : vs bx (.lst l) = some l := rfl
theorem vs_tup {l : List D} : vs bx (.tup l) = some l := rfl
theorem vs_scr {l : List Int} : vs bx (.scr l) = some (l.map D.int) := rfl
theorem vs_ref {k : Nat} {l : List D} (h : bx[k]? = some (.lst l)) : vs bx (.ref k) = some l := by simp [vs, vl, h]
theorem vs_int {i : Int} : vs bx (.int i) = none := rfl
theorem vs_non : vs bx .non = none := rfl
theorem vs_bl {b : Bool} : vs bx (.bl b) = none := rfl
theorem vs_str {x : Str} : vs bx (.str x) = none := rfl
theorem ev_ix {d : D} {i : Int} {l : List D} (h : vs bx d = some l) : cIx bx d (.int i) = atI l i := by
  unfold cIx
  rw [h]
theorem ixN_nat {n k : Nat} (h : k < n) : ixN n (k : Int) = some k := by
  unfold ixN
  rw [if_pos (by omega), if_pos (by omega)]
  congr 1
theorem atI_nat {l : List D} {k : Nat} {d : D} (h : l[k]? = some d) : atI l (k : Int) = some d := by
  unfold atI
  rw [ixN_nat (List.getElem?_eq_some_iff.mp h).1]
  exact h
theorem atI_int {l : List D} {i : Int} {d : D} (h0 : 0 ≤ i) (h : l[i.toNat]? = some d) : atI l i = some d := by
  have e : i = (i.toNat : Int) := by omega
  rw [e]
  exact atI_nat h
theorem ev_len {d : D} {l : List D} (h : vs bx d = some l) : cLen bx [d] = some (.int l.length) := by
  simp only [cLen, h]
theorem ev_int {i : Int} : cInt bx [.int i] = some (.int i) := rfl
theorem ev_abs {i : Int} : cAbs bx [.int i] = some (.int (if i < 0 then -i else i)) := rfl
theorem ev_max {i j : Int} : cMax bx [.int i, .int j] = some (.int (if j > i then j else i)) := rfl
theorem ev_min {i j : Int} : cMin bx [.int i, .int j] = some (.int (if j < i then j else i)) := rfl
theorem ev_tup {l : List D} (h : l.length ≤ 1000) : cTup bx l = some (.tup l) := if_pos h
theorem ev_lst {l : List D} (h : l.length ≤ 1000) : cLst bx l = some (.lst l) := if_pos h
theorem ev_listOf {d : D} {l : List D} (h : vs bx d = some l) : cListOf bx [d] = some (.lst l) := by simp [cListOf, h]
theorem ev_tupOfL {l : List D} : cTupOf bx [.lst l] = some (.tup l) := rfl
theorem ev_tupOfT {l : List D} : cTupOf bx [.tup l] = some (.tup l) := rfl
theorem ev_eqI {i j : Int} : cEqD bx (.int i) (.int j) = some (.bl (i == j)) := by
  simp [cEqD, eqOk, dr, D.pure, D.py, SeqAt.shaped, PyData.canLay0, PyData.depth, PyData.eqv]
theorem ev_neI {i j : Int} : cNeD bx (.int i) (.int j) = some (.bl (!(i == j))) := by
  simp [cNeD, eqOk, dr, D.pure, D.py, SeqAt.shaped, PyData.canLay0, PyData.depth, PyData.eqv]
theorem ev_isi {T t : String} {d : D} {b : Bool} (h : d.ty bx = some t) (k : kitB t T = some b) : cIsi T bx d = some (.bl b) := by
  unfold cIsi
  rw [h]
  show (kitB t T).map D.bl = _
  rw [k]
  rfl
theorem ev_isi2 {T U t : String} {d : D} {b c : Bool} (h : d.ty bx = some t) (k : kitB t T = some b) (k2 : kitB t U = some c) : cIsi2 T U bx d = some (.bl (b || c)) := by
  unfold cIsi2
  rw [h]
  show (match kitB t T, kitB t U with | some p, some q => some (D.bl (p || q)) | _, _ => none) = _
  rw [k, k2]
end
theorem kb1 : kitB "int" "int" = some true := by decide +kernel
theorem kb2 : kitB "bool" "int" = some true := by decide +kernel
theorem kb3 : kitB "NoneType" "int" = some false := by decide +kernel
theorem kb4 : kitB "tuple" "int" = some false := by decide +kernel
theorem kb5 : kitB "list" "int" = some false := by decide +kernel
theorem kb6 : kitB "str" "int" = some false := by decide +kernel
theorem ka1 : kitB "int" "bool" = some false := by decide +kernel
theorem ka2 : kitB "bool" "bool" = some true := by decide +kernel
theorem ka3 : kitB "NoneType" "bool" = some false := by decide +kernel
theorem ka4 : kitB "tuple" "bool" = some false := by decide +kernel
theorem ka5 : kitB "list" "bool" = some false := by decide +kernel
theorem ka6 : kitB "str" "bool" = some false := by decide +kernel
theorem kc1 : kitB "int" "list" = some false := by decide +kernel
theorem kc2 : kitB "bool" "list" = some false := by decide +kernel
theorem kc3 : kitB "NoneType" "list" = some false := by decide +kernel
theorem kc4 : kitB "tuple" "list" = some false := by decide +kernel
theorem kc5 : kitB "list" "list" = some true := by decide +kernel
theorem kc6 : kitB "str" "list" = some false := by decide +kernel
theorem kd1 : kitB "int" "tuple" = some false := by decide +kernel
theorem kd2 : kitB "bool" "tuple" = some false := by decide +kernel
theorem kd3 : kitB "NoneType" "tuple" = some false := by decide +kernel
theorem kd4 : kitB "tuple" "tuple" = some true := by decide +kernel
theorem kd5 : kitB "list" "tuple" = some false := by decide +kernel
theorem kd6 : kitB "str" "tuple" = some false := by decide +kernel
theorem ks1 : kitB "int" "str" = some false := by decide +kernel
theorem ks2 : kitB "bool" "str" = some false := by decide +kernel
theorem ks3 : kitB "NoneType" "str" = some false := by decide +kernel
theorem ks4 : kitB "tuple" "str" = some false := by decide +kernel
theorem ks5 : kitB "list" "str" = some false := by decide +kernel
theorem ks6 : kitB "str" "str" = some true := by decide +kernel
/-- data of one piece: no list that grows, no def -/
def D.cl : D → Bool
  | .ref _ => false
  | .fn _ => false
  | .scr _ => false
  | _ => true
def isI : D → Bool
  | .int _ => true
  | _ => false
def isS : D → Bool
  | .lst _ => true
  | .tup _ => true
  | _ => false
theorem isi_int {bx : Sto} {d : D} (h : d.cl = true) : cIsi "int" bx d = some (.bl (match d with | .int _ => true | .bl _ => true | _ => false)) := by
  cases d <;> first | (cases h; done) | exact ev_isi rfl (by first | exact kb1 | exact kb2 | exact kb3 | exact kb4 | exact kb5 | exact kb6)
theorem isi_bool {bx : Sto} {d : D} (h : d.cl = true) : cIsi "bool" bx d = some (.bl (match d with | .bl _ => true | _ => false)) := by
  cases d <;> first | (cases h; done) | exact ev_isi rfl (by first | exact ka1 | exact ka2 | exact ka3 | exact ka4 | exact ka5 | exact ka6)
theorem isi_tup {bx : Sto} {d : D} (h : d.cl = true) : cIsi "tuple" bx d = some (.bl (match d with | .tup _ => true | _ => false)) := by
  cases d <;> first | (cases h; done) | exact ev_isi rfl (by first | exact kd1 | exact kd2 | exact kd3 | exact kd4 | exact kd5 | exact kd6)
theorem isi_str {bx : Sto} {d : D} (h : d.cl = true) : cIsi "str" bx d = some (.bl (match d with | .str _ => true | _ => false)) := by
  cases d <;> first | (cases h; done) | exact ev_isi rfl (by first | exact ks1 | exact ks2 | exact ks3 | exact ks4 | exact ks5 | exact ks6)
theorem isi_seq {bx : Sto} {d : D} (h : d.cl = true) : cIsi2 "list" "tuple" bx d = some (.bl (isS d)) := by
  cases d <;> first
    | (cases h; done)
    | exact ev_isi2 (b := false) (c := false) rfl (by first | exact kc1 | exact kc2 | exact kc3 | exact kc6) (by first | exact kd1 | exact kd2 | exact kd3 | exact kd6)
    | exact ev_isi2 (b := true) (c := false) rfl kc5 kd5
    | exact ev_isi2 (b := false) (c := true) rfl kc4 kd4
/-! ### the box that a law draws from -/
/-- behind some draws: the box at b is a box, the cells beside it are as they were -/
structure Ext (b : Nat) (st st' : Sto) : Prop where
  ln : st.length ≤ st'.length
  bx : ∃ g r : Int, st'[b]? = some (.lst [.int g, .int r])
  sm : ∀ k : Nat, k < st.length → k ≠ b → st'[k]? = st[k]?
theorem Ext.refl {b : Nat} {st : Sto} (h : ∃ g r : Int, st[b]? = some (.lst [.int g, .int r])) : Ext b st st := ⟨Nat.le_refl _, h, fun _ _ _ => rfl⟩
theorem Ext.trans {b : Nat} {s1 s2 s3 : Sto} (h : Ext b s1 s2) (k : Ext b s2 s3) : Ext b s1 s3 := ⟨Nat.le_trans h.ln k.ln, k.bx, fun i hi hb => (k.sm i (Nat.lt_of_lt_of_le hi h.ln) hb).trans (h.sm i hi hb)⟩
/-- one draw -/
def sTake (c1 c2 m1 c3 c4 m2 c5 c6 : Int) : Sn := (sSeq (sIf (fB (f2 (iB fun i j => decide (j < i)) (f2 cIx (fVar 0) (pur (.int 0))) (pur (.int 0)))) (sSeq (sSet 2 (f2 cMod (fA cInt (fCons (f2 cIx (fVar 0) (pur (.int 0))) (pur []))) (fVar 1))) (sSeq (sPut (f2 cDiv (f2 cIx (fVar 0) (pur (.int 0))) (fVar 1)) (fVar 0) (pur (.int 0))) (sSeq (sRet (fVar 2)) sNext))) sNext) (sSeq (sSet 3 (f2 cMod (fA cInt (fCons (f2 cPlus (f2 cMul (f2 cIx (fVar 0) (pur (.int 1))) (pur (.int c1))) (pur (.int c2))) (pur []))) (pur (.int m1)))) (sSeq (sPut (f2 cPlus (f2 cMod (fA cInt (fCons (f2 cPlus (f2 cMul (fVar 3) (pur (.int c3))) (pur (.int c4))) (pur []))) (pur (.int m2))) (pur (.int 1))) (fVar 0) (pur (.int 1))) (sSeq (sRet (f2 cMod (fA cInt (fCons (f2 cDiv (f2 cPlus (f2 cMul (fVar 3) (pur (.int c5))) (f2 cIx (fVar 0) (pur (.int 1)))) (pur (.int c6))) (pur []))) (fVar 1))) sNext))))
theorem take_WS {c1 c2 m1 c3 c4 m2 c5 c6 : Int} (h1 : -(2 ^ 64) < c1 ∧ c1 < 2 ^ 64) (h3 : -(2 ^ 64) < c3 ∧ c3 < 2 ^ 64) (h5 : -(2 ^ 64) < c5 ∧ c5 < 2 ^ 64) (hm1 : 0 < m1) (hm2 : 0 < m2) (h6 : 0 < c6 ∧ c6 < 1073741824)
    {b : Nat} {st : Sto} {n : Int} (hb : ∃ g r : Int, st[b]? = some (.lst [.int g, .int r])) (hn : 0 < n) (hn2 : n < 1073741824) {Rt : D → Sto → Prop} {N : List (Option D) → Sto → Prop} {E : Str → D → Sto → Prop}
    (k : ∀ (i : Int) (st' : Sto), 0 ≤ i → i < n → Ext b st st' → st'.length = st.length → Rt (.int i) st') :
    WS (sTake c1 c2 m1 c3 c4 m2 c5 c6 [some (.ref b), some (.int n), none, none] st) N Rt E := by
  obtain ⟨g, r, hb⟩ := hb
  have hlt : b < st.length := (List.getElem?_eq_some_iff.mp hb).1
  have v := vs_ref hb
  have ext : ∀ g' r' : Int, Ext b st (st.set b (.lst [.int g', .int r'])) := fun g' r' => ⟨by rw [List.length_set]; exact Nat.le_refl _, ⟨g', r', List.getElem?_set_self hlt⟩, fun k _ hk => List.getElem?_set_ne (Ne.symm hk)⟩
  have a0 : ∀ x y : Int, atI [D.int x, D.int y] 0 = some (.int x) := fun _ _ => rfl
  have a1 : ∀ x y : Int, atI [D.int x, D.int y] 1 = some (.int y) := fun _ _ => rfl
  unfold sTake
  by_cases hg : 0 < g
  · simp only [WS_seq, WS_if, WS_set, WS_ret, WS_put, WS_next, W_B, W_f2, W_fA, W_cons, W_pur, W_var, ev_ix v, a0, ev_iB, ev_toB, ev_int, ev_mod hn, ev_div hn hn2, hg, decide_true, if_true, Option.some.injEq, exists_eq_left', List.getElem?_cons_zero, List.getElem?_cons_succ, List.set_cons_zero, List.set_cons_succ]
    refine ⟨b, 0, _, 0, rfl, rfl, hb, rfl, k _ _ (Int.emod_nonneg _ (by omega)) (Int.emod_lt_of_pos _ hn) (ext _ _) (by rw [List.length_set])⟩
  · simp only [WS_seq, WS_if, WS_set, WS_ret, WS_put, WS_next, W_B, W_f2, W_fA, W_cons, W_pur, W_var, ev_ix v, a0, a1, ev_iB, ev_toB, ev_int, ev_mod hm1, ev_mod hm2, ev_mulR h1, ev_mulR h3, ev_plus, hg, decide_false, Bool.false_eq_true, if_false, Option.some.injEq, exists_eq_left', List.getElem?_cons_zero, List.getElem?_cons_succ, List.set_cons_zero, List.set_cons_succ]
    refine ⟨b, 1, _, 1, rfl, rfl, hb, rfl, ?_⟩
    have v' := fun x => vs_ref (bx := st.set b (.lst [D.int g, x])) (k := b) (l := [D.int g, x]) (List.getElem?_set_self hlt)
    simp only [WS_seq, WS_ret, WS_next, W_f2, W_fA, W_cons, W_pur, W_var, ev_mulR h5, ev_plus, ev_ix (v' _), ev_int, ev_mod hn, ev_div h6.1 h6.2, List.set_cons_succ, List.set_cons_zero, a1, Option.some.injEq, exists_eq_left', List.getElem?_cons_zero, List.getElem?_cons_succ]
    exact k _ _ (Int.emod_nonneg _ (by omega)) (Int.emod_lt_of_pos _ hn) (ext _ _) (by rw [List.length_set])
end Ms

end
section
set_option Elab.async false
set_option linter.all false
set_option maxRecDepth 100000
set_option maxHeartbeats 4000000
namespace Ms
open PySem PySem.Spec PyProof.Rows L2
/-- the box that a script gives for its k-th round -/
def sBox (A B M C M2 C2 B2 M3 : Int) : Sn := (sSeq (sSet 2 (f2 cPlus (f2 cMul (pur (.int A)) (fVar 1)) (pur (.int B)))) (sSeq (sIf (fB (f2 (iB fun i j => decide (i < j)) (fVar 1) (fA cLen (fCons (fVar 0) (pur []))))) (sSeq (sSet 2 (fA cAbs (fCons (fA cInt (fCons (f2 cIx (fVar 0) (fVar 1)) (pur []))) (pur [])))) sNext) (sSeq (sIf (fB (f2 (iB fun i j => decide (j < i)) (fA cLen (fCons (fVar 0) (pur []))) (pur (.int 0)))) (sSeq (sSet 2 (f2 cPlus (fVar 2) (f2 cMul (f2 cMod (fA cInt (fCons (fA cAbs (fCons (fA cInt (fCons (f2 cIx (fVar 0) (f2 cMod (fA cInt (fCons (fVar 1) (pur []))) (fA cLen (fCons (fVar 0) (pur []))))) (pur []))) (pur []))) (pur []))) (pur (.int M))) (pur (.int C))))) sNext) sNext) sNext)) (sSeq (sSet 3 (fIfT (fB (f2 (iB fun i j => decide (j ≤ i)) (fVar 2) (f2 cPow (pur (.int 10)) (pur (.int 18))))) (fVar 2) (pur (.int 0)))) (sSeq (sRet (fNew (fCons (fVar 3) (fCons (f2 cPlus (f2 cMod (fA cInt (fCons (f2 cPlus (f2 cMul (f2 cMod (fA cInt (fCons (fVar 2) (pur []))) (pur (.int M2))) (pur (.int C2))) (f2 cMul (pur (.int B2)) (fVar 1))) (pur []))) (pur (.int M3))) (pur (.int 1))) (pur []))))) sNext))))
theorem W_if' {α : Type} {c : Bool} {A B : Fn α} {δ : List (Option D)} {bx : Sto} {Q : α → Sto → Prop} {E : Str → D → Sto → Prop} (h : c = true → W (A δ bx) Q E) (k : c = false → W (B δ bx) Q E) : W ((if c = true then A else B) δ bx) Q E := by
  cases c with
  | true => exact h rfl
  | false => exact k rfl
theorem WS_if' {c : Bool} {A B : Sn} {δ : List (Option D)} {bx : Sto} {N : List (Option D) → Sto → Prop} {R : D → Sto → Prop} {E : Str → D → Sto → Prop} (h : c = true → WS (A δ bx) N R E) (k : c = false → WS (B δ bx) N R E) : WS ((if c = true then A else B) δ bx) N R E := by
  cases c with
  | true => exact h rfl
  | false => exact k rfl
theorem box_WS {A B M C M2 C2 B2 M3 : Int} (hA : -(2 ^ 64) < A ∧ A < 2 ^ 64) (hC : -(2 ^ 64) < C ∧ C < 2 ^ 64) (hC2 : -(2 ^ 64) < C2 ∧ C2 < 2 ^ 64) (hB2 : -(2 ^ 64) < B2 ∧ B2 < 2 ^ 64) (hM : 0 < M) (hM2 : 0 < M2) (hM3 : 0 < M3) {ns : List Int} {k : Nat} {st : Sto}
    {Rt : D → Sto → Prop} {N : List (Option D) → Sto → Prop} {E : Str → D → Sto → Prop} (h : ∀ g r : Int, Rt (.ref st.length) (st ++ [.lst [.int g, .int r]])) :
    WS (sBox A B M C M2 C2 B2 M3 [some (.scr ns), some (.int k), none, none] st) N Rt E := by
  have fin : ∀ (cell : Int), WS ((sSeq (sSet 3 (fIfT (fB (f2 (iB fun i j => decide (j ≤ i)) (fVar 2) (f2 cPow (pur (.int 10)) (pur (.int 18))))) (fVar 2) (pur (.int 0)))) (sSeq (sRet (fNew (fCons (fVar 3) (fCons (f2 cPlus (f2 cMod (fA cInt (fCons (f2 cPlus (f2 cMul (f2 cMod (fA cInt (fCons (fVar 2) (pur []))) (pur (.int M2))) (pur (.int C2))) (f2 cMul (pur (.int B2)) (fVar 1))) (pur []))) (pur (.int M3))) (pur (.int 1))) (pur []))))) sNext)) [some (.scr ns), some (.int k), some (.int cell), none] st) N Rt E := fun cell => by
    simp only [WS_seq, WS_set, W_ifT, W_B, W_f2, W_pur, W_var, ev_pow (i := 10) (j := 18) (by decide), ev_iB, ev_toB, Option.some.injEq, exists_eq_left', List.getElem?_cons_zero, List.getElem?_cons_succ, List.set_cons_zero, List.set_cons_succ]
    refine W_if' (fun _ => ?_) (fun _ => ?_) <;>
    · simp only [W_var, W_pur, WS_ret, W_new, W_cons, W_f2, W_fA, ev_int, ev_mod hM2, ev_mod hM3, ev_mulR hC2, ev_mulL hB2, ev_plus, Option.some.injEq, exists_eq_left', List.getElem?_cons_zero, List.getElem?_cons_succ, List.set_cons_zero, List.set_cons_succ, List.length_cons, List.length_nil]
      exact ⟨by decide, h _ _⟩
  unfold sBox
  have v : vs st (.scr ns) = some (ns.map D.int) := vs_scr
  have vl : cLen st [.scr ns] = some (.int ns.length) := by rw [ev_len v, List.length_map]
  simp only [WS_seq (S := sSet 2 _), WS_set, W_f2, W_pur, W_var, ev_mulL hA, ev_plus, Option.some.injEq, exists_eq_left', List.getElem?_cons_zero, List.getElem?_cons_succ, List.set_cons_zero, List.set_cons_succ]
  rw [WS_seq]
  simp only [WS_if, W_B, W_f2, W_fA, W_cons, W_pur, W_var, vl, ev_iB, ev_toB, Option.some.injEq, exists_eq_left', List.getElem?_cons_zero, List.getElem?_cons_succ, List.set_cons_zero, List.set_cons_succ]
  refine WS_if' (fun hk => ?_) (fun hk => ?_)
  · have hk := of_decide_eq_true hk
    have hk' : k < ns.length := by omega
    have e : atI (ns.map D.int) (k : Int) = some (.int ns[k]) := atI_nat (by rw [List.getElem?_map, List.getElem?_eq_getElem hk']; rfl)
    simp only [WS_seq (T := sNext), WS_set, WS_next, W_f2, W_fA, W_cons, W_pur, W_var, ev_ix v, e, ev_int, ev_abs, Option.some.injEq, exists_eq_left', List.getElem?_cons_zero, List.getElem?_cons_succ, List.set_cons_zero, List.set_cons_succ]
    exact fin _
  · rw [WS_seq]
    simp only [WS_if, W_B, W_f2, W_fA, W_cons, W_pur, W_var, vl, ev_iB, ev_toB, Option.some.injEq, exists_eq_left', List.getElem?_cons_zero, List.getElem?_cons_succ, List.set_cons_zero, List.set_cons_succ]
    refine WS_if' (fun hz => ?_) (fun hz => ?_)
    · have hz := of_decide_eq_true hz
      have hz' : 0 < ns.length := by omega
      have hm : k % ns.length < ns.length := Nat.mod_lt _ hz'
      have e : atI (ns.map D.int) ((k : Int) % (ns.length : Int)) = some (.int ns[k % ns.length]) := by
        have e1 : (k : Int) % (ns.length : Int) = ((k % ns.length : Nat) : Int) := by simp
        rw [e1]
        exact atI_nat (by rw [List.getElem?_map, List.getElem?_eq_getElem hm]; rfl)
      simp only [WS_seq (T := sNext), WS_set, WS_next, W_f2, W_fA, W_cons, W_pur, W_var, vl, ev_ix v, ev_mod hz, ev_mod hM, ev_mulR hC, ev_plus, e, ev_int, ev_abs, Option.some.injEq, exists_eq_left', List.getElem?_cons_zero, List.getElem?_cons_succ, List.set_cons_zero, List.set_cons_succ]
      exact fin _
    · simp only [WS_next]
      exact fin _
end Ms

end
section
set_option Elab.async false
set_option linter.all false
set_option maxRecDepth 100000
set_option maxHeartbeats 4000000
namespace Ms
open PySem PySem.Spec PyProof.Rows L2
/-! ### what can be shown, and its text -/
mutual
def plain : PyData → Bool
  | .none | .bool _ | .int _ => true
  | .list xs | .tuple xs => plainAll xs
  | .str _ | .dict _ => false
def plainAll : List PyData → Bool
  | [] => true
  | x :: xs => plain x && plainAll xs
end
theorem ok_of (s : String) : PyData.strOk (Str.ofString s) = true := by
  rw [Str.ofString_eq_toList]
  unfold PyData.strOk
  simp only [List.all_toArray, List.all_map, List.all_eq_true, Function.comp, decide_eq_true_eq]
  intro c _
  have h := c.valid
  simp only [UInt32.isValidChar, Nat.isValidChar] at h
  show c.val.toNat < 1114112
  omega
theorem ok_append {x y : Str} (hx : PyData.strOk x = true) (hy : PyData.strOk y = true) : PyData.strOk (x ++ y) = true := by
  unfold PyData.strOk at hx hy ⊢
  rw [PySem.Str.cps_append, Array.all_append, hx, hy]
  rfl
theorem ok_from : ∀ (ts : List Str) (k : Nat) (acc : Str), PyData.strOk acc = true → (∀ t ∈ ts, PyData.strOk t = true) → PyData.strOk (textFrom k acc ts) = true
  | [], _, _, h, _ => h
  | t :: ts, k, acc, h, ht => by
    unfold textFrom
    exact ok_from ts _ _ (ok_append (ok_append h (ok_of _)) (ht t List.mem_cons_self)) fun x hx => ht x (List.mem_cons_of_mem _ hx)
theorem ok_join (sep : Str) (hs : PyData.strOk sep = true) : ∀ ts : List Str, (∀ t ∈ ts, PyData.strOk t = true) → PyData.strOk (Str.join sep ts) = true
  | [], _ => by simp [Str.join, Str.empty, PyData.strOk]
  | [x], h => h x List.mem_cons_self
  | x :: y :: r, h => ok_append (ok_append (h x List.mem_cons_self) hs) (ok_join sep hs (y :: r) fun z hz => h z (List.mem_cons_of_mem _ hz))
mutual
theorem shown_ok : ∀ d : PyData, plain d = true → PyData.strOk d.shown = true
  | .none, _ => ok_of _
  | .bool b, _ => by cases b <;> exact ok_of _
  | .int i, _ => ok_of _
  | .list xs, h => by
    simp only [PyData.shown, listText]
    exact ok_append (ok_from _ _ _ (ok_of _) (shown_oks xs (by simpa only [plain] using h))) (ok_of _)
  | .tuple xs, h => by
    simp only [PyData.shown, tupleText]
    refine ok_append (ok_append (ok_of _) (ok_join _ (ok_of _) _ (shown_oks xs (by simpa only [plain] using h)))) ?_
    split <;> exact ok_of _
  | .str _, h => by simp only [plain] at h; cases h
  | .dict _, h => by simp only [plain] at h; cases h
theorem shown_oks : ∀ xs : List PyData, plainAll xs = true → ∀ t ∈ PyData.shownAll xs, PyData.strOk t = true
  | [], _, _, h => by simp only [PyData.shownAll] at h; cases h
  | x :: xs, hp, t, h => by
    simp only [plainAll, Bool.and_eq_true] at hp
    simp only [PyData.shownAll, List.mem_cons] at h
    rcases h with rfl | h
    · exact shown_ok x hp.1
    · exact shown_oks xs hp.2 t h
end
/-- small enough to be shown -/
structure Fit (d : D) (a b : Nat) : Prop where
  pu : d.pure = true
  pl : plain d.py = true
  sh : d.py.showable = true
  la : d.py.canLay0 = true
  si : d.py.intsShort 13 = true
  de : d.py.depth ≤ a
  we : d.py.weight ≤ b
structure Fits (l : List D) (a b : Nat) : Prop where
  pu : D.pureAll l = true
  pl : plainAll (D.pyAll l) = true
  sh : PyData.showableAll (D.pyAll l) = true
  la : PyData.canLayAll0 (D.pyAll l) = true
  si : PyData.intsShortAll 13 (D.pyAll l) = true
  de : PyData.depthAll (D.pyAll l) ≤ a
  we : PyData.weightAll (D.pyAll l) ≤ l.length * (b + 1)
theorem Fits.of {a b : Nat} : ∀ {l : List D}, (∀ d ∈ l, Fit d a b) → Fits l a b
  | [], _ => ⟨rfl, by simp [D.pyAll, plainAll], by simp [D.pyAll, PyData.showableAll], by simp [D.pyAll, PyData.canLayAll0], by simp [D.pyAll, PyData.intsShortAll], by simp [D.pyAll, PyData.depthAll], by simp [D.pyAll, PyData.weightAll]⟩
  | d :: r, h => by
    have h1 := h d List.mem_cons_self
    have h2 := Fits.of (l := r) fun x hx => h x (List.mem_cons_of_mem _ hx)
    refine ⟨?_, ?_, ?_, ?_, ?_, ?_, ?_⟩
    · simp [D.pureAll, h1.pu, h2.pu]
    · simp [D.pyAll, plainAll, h1.pl, h2.pl]
    · simp [D.pyAll, PyData.showableAll, h1.sh, h2.sh]
    · simp [D.pyAll, PyData.canLayAll0, h1.la, h2.la]
    · simp [D.pyAll, PyData.intsShortAll, h1.si, h2.si]
    · simp only [D.pyAll, PyData.depthAll]
      exact Nat.max_le.mpr ⟨h1.de, h2.de⟩
    · have e1 := h1.we
      have e2 := h2.we
      simp only [D.pyAll, PyData.weightAll, List.length_cons, Nat.succ_mul]
      omega
theorem Fit.lst {l : List D} {a b : Nat} (h : ∀ d ∈ l, Fit d a b) : Fit (.lst l) (a + 1) (l.length * (b + 1)) := by
  have f := Fits.of h
  exact ⟨f.pu, by simp only [D.py, plain]; exact f.pl, by simp only [D.py, PyData.showable]; exact f.sh, by simp only [D.py, PyData.canLay0]; exact f.la, by simp only [D.py, PyData.intsShort]; exact f.si, by simp only [D.py, PyData.depth]; have := f.de; omega, by simp only [D.py, PyData.weight]; exact f.we⟩
theorem Fit.tup {l : List D} {a b : Nat} (h : ∀ d ∈ l, Fit d a b) : Fit (.tup l) (a + 1) (l.length * (b + 1)) := by
  have f := Fits.of h
  exact ⟨f.pu, by simp only [D.py, plain]; exact f.pl, by simp only [D.py, PyData.showable]; exact f.sh, by simp only [D.py, PyData.canLay0]; exact f.la, by simp only [D.py, PyData.intsShort]; exact f.si, by simp only [D.py, PyData.depth]; have := f.de; omega, by simp only [D.py, PyData.weight]; exact f.we⟩
theorem Fit.int {i : Int} (h : -1000000000 ≤ i ∧ i ≤ 1000000000) : Fit (.int i) 0 31 := by
  have n : i.natAbs ≤ 1000000000 := by omega
  have l : i.natAbs.log2 < 30 := by
    by_cases z : i.natAbs = 0
    · rw [z]; decide
    · exact (Nat.log2_lt z).mpr (by omega)
  refine ⟨rfl, rfl, ?_, rfl, ?_, Nat.le_refl _, ?_⟩
  · simp only [D.py, PyData.showable, decide_eq_true_eq]; omega
  · simp only [D.py, PyData.intsShort, decide_eq_true_eq]; exact PyData.shown_int_le (by omega)
  · simp only [D.py, PyData.weight]; split <;> omega
theorem Fit.bl (c : Bool) : Fit (.bl c) 0 31 := ⟨rfl, rfl, rfl, rfl, rfl, Nat.le_refl _, by simp [D.py, PyData.weight]⟩
theorem Fit.non : Fit .non 0 31 := ⟨rfl, rfl, rfl, rfl, rfl, Nat.le_refl _, by simp [D.py, PyData.weight]⟩
/-- it can be shown -/
structure Sh (d : D) : Prop where
  ok : showOk d = true
  st : PyData.strOk d.py.shown = true
theorem Fit.ok {d : D} {a b : Nat} (h : Fit d a b) (ha : a ≤ 60) (hb : b ≤ 1048576) : Sh d := by
  have de := h.de
  have we := h.we
  have l : PyData.layable0 d.py = true := by
    unfold PyData.layable0
    simp only [Bool.and_eq_true, decide_eq_true_eq]
    refine ⟨⟨h.la, by omega⟩, by omega⟩
  have f := PyData.shown_fits_of_layable0 (B := 13) (by decide) (by decide) l h.si
  have k : showOk d = true := by
    unfold showOk
    simp only [Bool.and_eq_true, decide_eq_true_eq]
    exact ⟨⟨⟨h.pu, h.sh⟩, by omega⟩, f⟩
  exact ⟨k, shown_ok _ h.pl⟩
theorem dr_pure {st : Sto} {d : D} (h : d.pure = true) : dr st d = d := by
  cases d <;> first | rfl | cases h
theorem Sh.repr {d : D} {bx : Sto} (h : Sh d) : cRepr bx [d] = some (.str d.py.shown) := by
  have k := h.ok
  have p : d.pure = true := by
    unfold showOk at k
    simp only [Bool.and_eq_true] at k
    exact k.1.1.1
  unfold cRepr
  dsimp only
  rw [dr_pure p]
  unfold showOk at k
  rw [if_pos k]
theorem Sh.non : Sh .non := Fit.non.ok (by decide) (by decide)
theorem Sh.bl (b : Bool) : Sh (.bl b) := (Fit.bl b).ok (by decide) (by decide)
theorem Sh.int {i : Int} (h : -1000000000 ≤ i ∧ i ≤ 1000000000) : Sh (.int i) := (Fit.int h).ok (by decide) (by decide)
theorem ev_eqS {x : Str} {bx : Sto} (hx : PyData.strOk x = true) : cEqD bx (.str x) (.str x) = some (.bl true) := by
  simp [cEqD, eqOk, dr, D.pure, D.py, SeqAt.shaped, PyData.canLay0, PyData.depth, PyData.eqv, hx]
theorem ev_neS {x : Str} {bx : Sto} (hx : PyData.strOk x = true) : cNeD bx (.str x) (.str x) = some (.bl false) := by
  simp [cNeD, eqOk, dr, D.pure, D.py, SeqAt.shaped, PyData.canLay0, PyData.depth, PyData.eqv, hx]
theorem ev_said {x y : Str} {bx : Sto} (hx : PyData.strOk x = true) (hy : PyData.strOk y = true) : cEqD bx (.tup [.str y, .str x, .bl true]) (.tup [.str y, .str x, .bl true]) = some (.bl true) := by
  simp [cEqD, eqOk, dr, D.pure, D.pureAll, D.py, D.pyAll, SeqAt.shaped, PyData.canLay0, PyData.canLayAll0, PyData.depth, PyData.depthAll, PyData.eqv, PyData.eqvAll, hx, hy]
theorem ev_neSaid {x y : Str} {bx : Sto} (hx : PyData.strOk x = true) (hy : PyData.strOk y = true) : cNeD bx (.tup [.str y, .str x, .bl true]) (.tup [.str y, .str x, .bl true]) = some (.bl false) := by
  simp [cNeD, eqOk, dr, D.pure, D.pureAll, D.py, D.pyAll, SeqAt.shaped, PyData.canLay0, PyData.canLayAll0, PyData.depth, PyData.depthAll, PyData.eqv, PyData.eqvAll, hx, hy]
/-- what is asked for, and refused -/
theorem W_check {F : Fn D} {δ : List (Option D)} {bx : Sto} {i : Nat} {d : D} {Q : Bool → Sto → Prop} {E : Str → D → Sto → Prop} (h : F δ bx = .err "Refused" d bx) (f : Sh d) (hi : δ[i]? = some (some d)) (q : Q false bx) :
    W (fB (f2 cNeD (fHeard F) (fA cTup (fCons (pur (.str "refused")) (fCons (fA cRepr (fCons (fVar i) (pur []))) (fCons (pur (.bl true)) (pur [])))))) δ bx) Q E := by
  rw [W_B, W_f2, W_heard, h]
  refine ⟨rfl, f.ok, ?_⟩
  simp only [W_fA, W_cons, W_pur, W_var, hi, f.repr, Option.some.injEq, exists_eq_left']
  refine ⟨_, ev_tup (by show 3 ≤ 1000; decide), _, ev_neSaid f.st (ok_of "refused"), _, rfl, q⟩
end Ms

end
section
set_option Elab.async false
set_option linter.all false
set_option maxRecDepth 100000
set_option maxHeartbeats 4000000
/-! Lists that are shown alike are alike, where their items are of a few kinds. -/
namespace Ms
open PySem PySem.Spec PyProof.Rows L2
abbrev cds (x : Str) : List Nat := x.cps.toList
def jn : List (List Nat) → List Nat
  | [] => []
  | t :: r => 44 :: 32 :: (t ++ jn r)
theorem cds_append (x y : Str) : cds (x ++ y) = cds x ++ cds y := by
  unfold cds
  rw [PySem.Str.cps_append, Array.toList_append]
theorem from_cds : ∀ (ts : List Str) (k : Nat) (acc : Str), 0 < k → cds (textFrom k acc ts) = cds acc ++ jn (ts.map cds)
  | [], _, _, _ => by simp [textFrom, jn]
  | t :: ts, k, acc, hk => by
    unfold textFrom
    rw [from_cds ts (k + 1) _ (Nat.succ_pos k), cds_append, cds_append, if_pos hk]
    have e : cds ((", " : String) : Str) = [44, 32] := by decide +kernel
    rw [e]
    simp [jn]
def body : List (List Nat) → List Nat
  | [] => []
  | t :: r => t ++ jn r
theorem list_cds (ts : List Str) : cds (listText ts) = 91 :: (body (ts.map cds) ++ [93]) := by
  unfold listText
  rw [cds_append]
  have e1 : cds (("]" : String) : Str) = [93] := by decide +kernel
  have e2 : cds (("[" : String) : Str) = [91] := by decide +kernel
  rw [e1]
  cases ts with
  | nil =>
    show cds (("[" : String) : Str) ++ [93] = _
    rw [e2]
    rfl
  | cons t r =>
    show cds (textFrom 1 (("[" : String) ++ (if 0 > 0 then ", " else "" : String) ++ t) r) ++ [93] = _
    rw [from_cds r 1 _ Nat.one_pos, cds_append, cds_append, e2]
    have e3 : cds (((if 0 > 0 then ", " else "" : String) : Str)) = [] := by decide +kernel
    rw [e3]
    simp [body]
/-- no sign that parts -/
def free (t : List Nat) : Prop := ∀ c ∈ t, c ≠ 44 ∧ c ≠ 93
theorem part_eq : ∀ {t u x y : List Nat} {p q : Nat}, free t → free u → (p = 44 ∨ p = 93) → (q = 44 ∨ q = 93) → t ++ p :: x = u ++ q :: y → t = u ∧ p :: x = q :: y
  | [], [], _, _, _, _, _, _, _, _, h => ⟨rfl, h⟩
  | [], b :: u, _, _, p, _, _, fu, hp, _, h => by
    have e : p = b := (List.cons.inj h).1
    have := fu b List.mem_cons_self
    omega
  | a :: t, [], _, _, _, q, ft, _, _, hq, h => by
    have e : a = q := (List.cons.inj h).1
    have := ft a List.mem_cons_self
    omega
  | a :: t, b :: u, _, _, _, _, ft, fu, hp, hq, h => by
    obtain ⟨e1, e2⟩ := List.cons.inj h
    obtain ⟨r1, r2⟩ := part_eq (fun c hc => ft c (List.mem_cons_of_mem _ hc)) (fun c hc => fu c (List.mem_cons_of_mem _ hc)) hp hq e2
    exact ⟨by rw [e1, r1], r2⟩
theorem jn_head (r : List (List Nat)) : ∃ p x, jn r ++ [93] = p :: x ∧ (p = 44 ∨ p = 93) := by
  cases r with
  | nil => exact ⟨93, [], rfl, .inr rfl⟩
  | cons t r => exact ⟨44, _, rfl, .inl rfl⟩
theorem jn_inj : ∀ {r s : List (List Nat)}, (∀ t ∈ r, free t) → (∀ t ∈ s, free t) → jn r ++ [93] = jn s ++ [93] → r = s
  | [], [], _, _, _ => rfl
  | [], _ :: _, _, _, h => by simp [jn] at h
  | _ :: _, [], _, _, h => by simp [jn] at h
  | t :: r, u :: s, hr, hs, h => by
    have h' : t ++ (jn r ++ [93]) = u ++ (jn s ++ [93]) := by
      simp only [jn, List.cons_append, List.append_assoc] at h
      exact (List.cons.inj (List.cons.inj h).2).2
    obtain ⟨p, x, e1, hp⟩ := jn_head r
    obtain ⟨q, y, e2, hq⟩ := jn_head s
    rw [e1, e2] at h'
    obtain ⟨a, b⟩ := part_eq (hr t List.mem_cons_self) (hs u List.mem_cons_self) hp hq h'
    rw [← e1, ← e2] at b
    rw [a, jn_inj (fun t ht => hr t (List.mem_cons_of_mem _ ht)) (fun t ht => hs t (List.mem_cons_of_mem _ ht)) b]
theorem list_inj {ts us : List Str} (ht : ∀ t ∈ ts, free (cds t)) (hu : ∀ t ∈ us, free (cds t)) (h0 : ts ≠ []) (h1 : us ≠ []) (h : listText ts = listText us) : ts = us := by
  have e := congrArg cds h
  rw [list_cds, list_cds] at e
  have e2 := (List.cons.inj e).2
  have key : ts.map cds = us.map cds := by
    match ts, us, h0, h1, ht, hu, e2 with
    | t :: r, u :: s, _, _, ht, hu, e2 =>
      simp only [List.map_cons, body, List.append_assoc] at e2
      obtain ⟨p, x, g1, hp⟩ := jn_head (r.map cds)
      obtain ⟨q, y, g2, hq⟩ := jn_head (s.map cds)
      rw [g1, g2] at e2
      obtain ⟨a, b⟩ := part_eq (ht t List.mem_cons_self) (hu u List.mem_cons_self) hp hq e2
      rw [← g1, ← g2] at b
      have := jn_inj (fun z hz => by obtain ⟨w, hw, rfl⟩ := List.mem_map.mp hz; exact ht w (List.mem_cons_of_mem _ hw)) (fun z hz => by obtain ⟨w, hw, rfl⟩ := List.mem_map.mp hz; exact hu w (List.mem_cons_of_mem _ hw)) b
      rw [List.map_cons, List.map_cons, a, this]
  have inj : ∀ {a b : List Str}, a.map cds = b.map cds → a = b := by
    intro a
    induction a with
    | nil => intro b h; cases b with
      | nil => rfl
      | cons _ _ => cases h
    | cons x r ih => intro b h; cases b with
      | nil => cases h
      | cons y s =>
        obtain ⟨e1, e2⟩ := List.cons.inj h
        rw [ih e2]
        congr 1
        exact str_eq_of_lists e1
  exact inj key
/-- what is shown, item by item -/
theorem pyAll_shown (l : List D) : PyData.shownAll (D.pyAll l) = l.map fun d => d.py.shown := by
  induction l with
  | nil => rfl
  | cons d r ih => simp only [D.pyAll, PyData.shownAll, List.map_cons, ih]
/-- items of some kinds, told apart by what is shown -/
structure Kinds (M : D → Prop) : Prop where
  fr : ∀ d, M d → free (cds d.py.shown)
  inj : ∀ d e, M d → M e → d.py.shown = e.py.shown → d = e
theorem Kinds.lst {M : D → Prop} (k : Kinds M) {l m : List D} (hl : ∀ d ∈ l, M d) (hm : ∀ d ∈ m, M d) (h0 : l ≠ []) (h1 : m ≠ []) (h : (D.lst l).py.shown = (D.lst m).py.shown) : l = m := by
  simp only [D.py, PyData.shown, pyAll_shown] at h
  have e := list_inj (fun t ht => by obtain ⟨d, hd, rfl⟩ := List.mem_map.mp ht; exact k.fr d (hl d hd)) (fun t ht => by obtain ⟨d, hd, rfl⟩ := List.mem_map.mp ht; exact k.fr d (hm d hd)) (by simpa using h0) (by simpa using h1) h
  clear h h0 h1
  induction l generalizing m with
  | nil => cases m with
    | nil => rfl
    | cons _ _ => cases e
  | cons x r ih => cases m with
    | nil => cases e
    | cons y s =>
      obtain ⟨e1, e2⟩ := List.cons.inj e
      rw [k.inj x y (hl x List.mem_cons_self) (hm y List.mem_cons_self) e1, ih (fun d hd => hl d (List.mem_cons_of_mem _ hd)) (fun d hd => hm d (List.mem_cons_of_mem _ hd)) e2]
end Ms

end
section
set_option Elab.async false
set_option linter.all false
set_option maxRecDepth 100000
set_option maxHeartbeats 4000000
/-! What many laws want of the mathematics over mirrors. -/
namespace Ms
open PySem PySem.Spec PyProof.Rows L2
theorem W.eq {α : Type} {r : Res α} {x : α} {bx : Sto} (h : W r (fun a b => a = x ∧ b = bx) NoE) : r = .ok x bx := by
  cases r with
  | ok a b => obtain ⟨rfl, rfl⟩ := h; rfl
  | err _ _ _ => exact h.elim
  | bad => exact h.elim
theorem W.eqE {r : Res D} {c : Str} {x : D} {bx : Sto} (h : W r (fun _ _ => False) (fun c' d b => c' = c ∧ d = x ∧ b = bx)) : r = .err c x bx := by
  cases r with
  | ok a b => exact h.elim
  | err _ _ _ => obtain ⟨rfl, rfl, rfl⟩ := h; rfl
  | bad => exact h.elim
theorem eNat (a b : Nat) : ((a : Int) == (b : Int)) = (a == b) := by
  rw [Bool.eq_iff_iff, beq_iff_eq, beq_iff_eq]
  exact ⟨fun h => by omega, fun h => by omega⟩
theorem pure_cl {d : D} (h : d.pure = true) : d.cl = true := by cases d <;> first | rfl | cases h
theorem pureAll_mem {d : D} : ∀ {l : List D}, D.pureAll l = true → d ∈ l → d.pure = true
  | x :: r, h, hd => by
    have h' := Bool.and_eq_true_iff.mp (show (x.pure && D.pureAll r) = true from h)
    rcases List.mem_cons.mp hd with rfl | hd
    · exact h'.1
    · exact pureAll_mem h'.2 hd
structure Sm (d : D) : Prop where
  pu : d.pure = true
  la : d.py.canLay0 = true
  de : d.py.depth ≤ 2
theorem sm_all : ∀ {l : List D}, (∀ d ∈ l, Sm d) → D.pureAll l = true ∧ PyData.canLayAll0 (D.pyAll l) = true ∧ PyData.depthAll (D.pyAll l) ≤ 2
  | [], _ => ⟨rfl, by simp [D.pyAll, PyData.canLayAll0], by simp [D.pyAll, PyData.depthAll]⟩
  | d :: r, h => by
    have h1 := h d List.mem_cons_self
    obtain ⟨a, b, c⟩ := sm_all (l := r) fun x hx => h x (List.mem_cons_of_mem _ hx)
    refine ⟨by simp [D.pureAll, h1.pu, a], by simp [D.pyAll, PyData.canLayAll0, h1.la, b], ?_⟩
    simp only [D.pyAll, PyData.depthAll]
    exact Nat.max_le.mpr ⟨h1.de, c⟩
theorem eq_nil {l : List D} {bx : Sto} (h : ∀ d ∈ l, Sm d) : cEqD bx (.lst l) (.lst []) = some (.bl l.isEmpty) := by
  obtain ⟨a, b, c⟩ := sm_all h
  have sh : SeqAt.shaped (D.lst l).py = true := by
    unfold SeqAt.shaped
    simp only [D.py, PyData.canLay0, PyData.depth, b, Bool.true_and, decide_eq_true_eq]
    omega
  have ok : eqOk (.lst l) (.lst []) = true := by
    unfold eqOk
    rw [sh]
    simp [D.pure, a, D.pureAll, D.py, D.pyAll, SeqAt.shaped, PyData.canLay0, PyData.canLayAll0, PyData.depth, PyData.depthAll]
  have e : PyData.eqv (D.lst l).py (D.lst []).py = l.isEmpty := by
    cases l with
    | nil => simp [D.py, D.pyAll, PyData.eqv, PyData.eqvAll]
    | cons x r => simp [D.py, D.pyAll, PyData.eqv, PyData.eqvAll]
  show (if eqOk (.lst l) (.lst []) = true then some (D.bl (PyData.eqv (D.lst l).py (D.lst []).py)) else none) = _
  rw [if_pos ok, e]
theorem ne_nil {l : List D} {bx : Sto} (h : ∀ d ∈ l, Sm d) : cNeD bx (.lst l) (.lst []) = some (.bl (!l.isEmpty)) := by
  have e := eq_nil (bx := bx) h
  have z : (if eqOk (.lst l) (.lst []) = true then some (D.bl (PyData.eqv (D.lst l).py (D.lst []).py)) else none) = some (D.bl l.isEmpty) := e
  show (if eqOk (.lst l) (.lst []) = true then some (D.bl (!PyData.eqv (D.lst l).py (D.lst []).py)) else none) = _
  by_cases q : eqOk (.lst l) (.lst []) = true
  · rw [if_pos q] at z ⊢
    have := D.bl.inj (Option.some.inj z)
    rw [this]
  · rw [if_neg q] at z
    cases z
theorem Sm.int {i : Int} : Sm (.int i) := ⟨rfl, rfl, Nat.zero_le _⟩
theorem Sm.bl {b : Bool} : Sm (.bl b) := ⟨rfl, rfl, Nat.zero_le _⟩
theorem Sm.non : Sm .non := ⟨rfl, rfl, Nat.zero_le _⟩
theorem filt_nil {l : List D} {c : D → Bool} : (l.filter c).isEmpty = l.all fun d => !c d := by
  rw [Bool.eq_iff_iff, List.isEmpty_iff, List.filter_eq_nil_iff, List.all_eq_true]
  exact ⟨fun h d hd => by simpa using h d hd, fun h d hd => by simpa using h d hd⟩
abbrev Bx (b : Nat) (st : Sto) : Prop := ∃ g r : Int, st[b]? = some (.lst [.int g, .int r])
theorem ext_set {b c : Nat} {st bx : Sto} {x : Cell} (h : Ext b st bx) (hc : st.length ≤ c) (hb : b < st.length) : Ext b st (bx.set c x) := by
  refine ⟨by rw [List.length_set]; exact h.ln, ?_, fun k q1 q2 => ?_⟩
  · obtain ⟨g, r, e⟩ := h.bx
    exact ⟨g, r, by rw [List.getElem?_set_ne (by omega)]; exact e⟩
  · rw [List.getElem?_set_ne (by omega)]
    exact h.sm k q1 q2
theorem pureAll_of : ∀ {l : List D}, (∀ d ∈ l, d.pure = true) → D.pureAll l = true
  | [], _ => rfl
  | d :: r, h => by
    show (d.pure && D.pureAll r) = true
    rw [h d List.mem_cons_self, pureAll_of fun x hx => h x (List.mem_cons_of_mem _ hx)]
    rfl
theorem ne_nilT {l : List D} {bx : Sto} (h : ∀ d ∈ l, Sm d) : cNeD bx (.tup l) (.tup []) = some (.bl (!l.isEmpty)) := by
  obtain ⟨a, b, c⟩ := sm_all h
  have sh : SeqAt.shaped (D.tup l).py = true := by
    unfold SeqAt.shaped
    simp only [D.py, PyData.canLay0, PyData.depth, b, Bool.true_and, decide_eq_true_eq]
    omega
  have ok : eqOk (.tup l) (.tup []) = true := by
    unfold eqOk
    rw [sh]
    simp [D.pure, a, D.pureAll, D.py, D.pyAll, SeqAt.shaped, PyData.canLay0, PyData.canLayAll0, PyData.depth, PyData.depthAll]
  have e : PyData.eqv (D.tup l).py (D.tup []).py = l.isEmpty := by
    cases l with
    | nil => simp [D.py, D.pyAll, PyData.eqv, PyData.eqvAll]
    | cons x r => simp [D.py, D.pyAll, PyData.eqv, PyData.eqvAll]
  show (if eqOk (.tup l) (.tup []) = true then some (D.bl (!PyData.eqv (D.tup l).py (D.tup []).py)) else none) = _
  rw [if_pos ok, e]
theorem ne_nilR {l : List D} {bx : Sto} {c : Nat} (hc : bx[c]? = some (.lst l)) (h : ∀ d ∈ l, Sm d) : cNeD bx (.ref c) (.lst []) = some (.bl (!l.isEmpty)) := by
  have e : cNeD bx (.ref c) (.lst []) = cNeD bx (.lst l) (.lst []) := by
    unfold cNeD
    simp only [dr, hc]
    rfl
  rw [e]
  exact ne_nil h
/-- kept shut while it is applied -/
structure Th (p : Prop) : Prop where
  h : p
theorem atI_last {l : List D} (h : l ≠ []) : ∃ d, d ∈ l ∧ atI l (-1) = some d := by
  have hp : 0 < l.length := List.length_pos_iff.mpr h
  have hi : l.length - 1 < l.length := by omega
  refine ⟨l[l.length - 1], List.getElem_mem hi, ?_⟩
  unfold atI ixN
  rw [if_neg (by decide), if_pos (by omega)]
  have e : (-1 + (l.length : Int)).toNat = l.length - 1 := by omega
  rw [e]
  exact List.getElem?_eq_getElem hi
theorem W_tru {F : Fn D} {δ : List (Option D)} {bx : Sto} {Q : Bool → Sto → Prop} {E : Str → D → Sto → Prop} : W (fTru F δ bx) Q E ↔ W (F δ bx) (fun d bx' => ∃ b, cTru bx' d = some b ∧ Q b bx') E := by
  unfold fTru
  rw [W_bnd]
  exact iff_of_eq (congrArg (fun k => W (F δ bx) k E) (funext fun d => funext fun bx' => propext W_lft))
theorem ev_truB {b : Bool} {bx : Sto} : cTru bx (.bl b) = some b := rfl
theorem W_lam {n : Nat} {δ : List (Option D)} {bx : Sto} {Q : D → Sto → Prop} {E : Str → D → Sto → Prop} : W (fLam n δ bx) Q E ↔ Q (.ref bx.length) (bx ++ [.lam n]) := Iff.rfl
theorem W_hideR {r : Res D} {Q : D → Sto → Prop} (h : W r (fun d st => Q d (hide st)) NoE) : W (hideR r) Q NoE := by
  cases r with
  | ok d st => exact h
  | err c d st => exact h.elim
  | bad => exact h.elim
theorem hide_bx {b : Nat} {st : Sto} (h : Bx b st) : Bx b (hide st) := by
  obtain ⟨g, r, e⟩ := h
  exact ⟨g, r, by unfold hide; rw [List.getElem?_map, e]; rfl⟩
theorem heardG_ref {F : Fn D} {δ : List (Option D)} {bx : Sto} {d : D} (h : F δ bx = .err "Refused" d bx) (f : Sh d) : fHeardG hResR F δ bx = .ok (.tup [.str "refused", .str d.py.shown, .bl true]) bx := by
  unfold fHeardG
  rw [h]
  unfold hResR
  dsimp only
  rw [if_pos rfl, if_pos f.ok]
theorem heardVB_ref {is : List Nat} {F : Fn D} {B : Nat → Fn D} {δ : List (Option D)} {bx : Sto} {d : D} {k n : Nat} (hF : F δ bx = .ok (.ref k) bx) (hk : bx[k]? = some (.lam n)) (h : B n (unset is δ) bx = .err "Refused" d bx) (f : Sh d) : fHeardVB hResR is F B δ bx = .ok (.tup [.str "refused", .str d.py.shown, .bl true]) bx := by
  unfold fHeardVB bnd
  rw [hF]
  dsimp only
  rw [hk]
  dsimp only
  rw [h]
  unfold hResR
  dsimp only
  rw [if_pos rfl, if_pos f.ok]
theorem sh_by {d : D} (h : showOk d = true) (k : PyData.strOk d.py.shown = true) : Sh d := ⟨h, k⟩
theorem said_ne {x : Str} {bx : Sto} (h : PyData.strOk x = true) : cNeD bx (.tup [.str "refused", .str x, .bl true]) (.tup [.str "refused", .str x, .bl true]) = some (.bl false) := ev_neSaid h (ok_of "refused")
theorem said_eq {x : Str} {bx : Sto} (h : PyData.strOk x = true) : cEqD bx (.tup [.str "refused", .str x, .bl true]) (.tup [.str "refused", .str x, .bl true]) = some (.bl true) := ev_said h (ok_of "refused")
theorem at_end {bx : Sto} {x : Cell} {k : Nat} (h : k = bx.length) : (bx ++ [x])[k]? = some x := by
  rw [h, List.getElem?_append_right (Nat.le_refl _), Nat.sub_self]
  rfl
theorem at_old {bx : Sto} {x y : Cell} {k : Nat} (h : bx[k]? = some y) : (bx ++ [x])[k]? = some y := by
  rw [List.getElem?_append_left (List.getElem?_eq_some_iff.mp h).1]
  exact h
theorem at_ne {bx : Sto} {x y : Cell} {k j : Nat} (h : bx[k]? = some y) (n : j ≠ k) : (bx.set j x)[k]? = some y := by
  rw [List.getElem?_set_ne n]
  exact h
theorem Fit.mono {d : D} {a b a' b' : Nat} (h : Fit d a b) (ha : a ≤ a') (hb : b ≤ b') : Fit d a' b' := ⟨h.pu, h.pl, h.sh, h.la, h.si, Nat.le_trans h.de ha, Nat.le_trans h.we hb⟩
theorem sh_two {p : Bool} : Sh (.lst [.bl p, .bl p]) := (Fit.lst (a := 0) (b := 31) (by
  simp only [List.mem_cons, List.not_mem_nil, or_false, forall_eq_or_imp, forall_eq]
  exact ⟨Fit.bl _, Fit.bl _⟩)).ok (by decide) (by show 2 * 32 ≤ 1048576; decide)
end Ms

end
section
set_option Elab.async false
set_option linter.all false
set_option maxRecDepth 100000
set_option maxHeartbeats 4000000
/-! What can be shown, texts within. -/
namespace Ms
open PySem PySem.Spec PyProof.Rows L2
structure Fw (d : D) (a b : Nat) : Prop where
  pu : d.pure = true
  st : PyData.strOk d.py.shown = true
  sh : d.py.showable = true
  la : d.py.canLay0 = true
  si : d.py.intsShort 13 = true
  de : d.py.depth ≤ a
  we : d.py.weight ≤ b
structure Fws (l : List D) (a b : Nat) : Prop where
  pu : D.pureAll l = true
  st : ∀ t ∈ PyData.shownAll (D.pyAll l), PyData.strOk t = true
  sh : PyData.showableAll (D.pyAll l) = true
  la : PyData.canLayAll0 (D.pyAll l) = true
  si : PyData.intsShortAll 13 (D.pyAll l) = true
  de : PyData.depthAll (D.pyAll l) ≤ a
  we : PyData.weightAll (D.pyAll l) ≤ l.length * (b + 1)
theorem Fws.of {a b : Nat} : ∀ {l : List D}, (∀ d ∈ l, Fw d a b) → Fws l a b
  | [], _ => ⟨rfl, by simp [D.pyAll, PyData.shownAll], by simp [D.pyAll, PyData.showableAll], by simp [D.pyAll, PyData.canLayAll0], by simp [D.pyAll, PyData.intsShortAll], by simp [D.pyAll, PyData.depthAll], by simp [D.pyAll, PyData.weightAll]⟩
  | d :: r, h => by
    have h1 := h d List.mem_cons_self
    have h2 := Fws.of (l := r) fun x hx => h x (List.mem_cons_of_mem _ hx)
    refine ⟨?_, ?_, ?_, ?_, ?_, ?_, ?_⟩
    · simp [D.pureAll, h1.pu, h2.pu]
    · intro t ht
      simp only [D.pyAll, PyData.shownAll, List.mem_cons] at ht
      rcases ht with rfl | ht
      · exact h1.st
      · exact h2.st t ht
    · simp [D.pyAll, PyData.showableAll, h1.sh, h2.sh]
    · simp [D.pyAll, PyData.canLayAll0, h1.la, h2.la]
    · simp [D.pyAll, PyData.intsShortAll, h1.si, h2.si]
    · simp only [D.pyAll, PyData.depthAll]
      exact Nat.max_le.mpr ⟨h1.de, h2.de⟩
    · have e1 := h1.we
      have e2 := h2.we
      simp only [D.pyAll, PyData.weightAll, List.length_cons, Nat.succ_mul]
      omega
theorem Fw.lst {l : List D} {a b : Nat} (h : ∀ d ∈ l, Fw d a b) : Fw (.lst l) (a + 1) (l.length * (b + 1)) := by
  have f := Fws.of h
  refine ⟨f.pu, ?_, by simp only [D.py, PyData.showable]; exact f.sh, by simp only [D.py, PyData.canLay0]; exact f.la, by simp only [D.py, PyData.intsShort]; exact f.si, by simp only [D.py, PyData.depth]; have := f.de; omega, by simp only [D.py, PyData.weight]; exact f.we⟩
  simp only [D.py, PyData.shown, listText]
  exact ok_append (ok_from _ _ _ (ok_of _) f.st) (ok_of _)
theorem Fw.tup {l : List D} {a b : Nat} (h : ∀ d ∈ l, Fw d a b) : Fw (.tup l) (a + 1) (l.length * (b + 1)) := by
  have f := Fws.of h
  refine ⟨f.pu, ?_, by simp only [D.py, PyData.showable]; exact f.sh, by simp only [D.py, PyData.canLay0]; exact f.la, by simp only [D.py, PyData.intsShort]; exact f.si, by simp only [D.py, PyData.depth]; have := f.de; omega, by simp only [D.py, PyData.weight]; exact f.we⟩
  simp only [D.py, PyData.shown, tupleText]
  refine ok_append (ok_append (ok_of _) (ok_join _ (ok_of _) _ f.st)) ?_
  split <;> exact ok_of _
theorem Fw.ok {d : D} {a b : Nat} (h : Fw d a b) (ha : a ≤ 60) (hb : b ≤ 1048576) : Sh d := by
  have de := h.de
  have we := h.we
  have l : PyData.layable0 d.py = true := by
    unfold PyData.layable0
    simp only [Bool.and_eq_true, decide_eq_true_eq]
    refine ⟨⟨h.la, by omega⟩, by omega⟩
  have f := PyData.shown_fits_of_layable0 (B := 13) (by decide) (by decide) l h.si
  have k : showOk d = true := by
    unfold showOk
    simp only [Bool.and_eq_true, decide_eq_true_eq]
    exact ⟨⟨⟨h.pu, h.sh⟩, by omega⟩, f⟩
  exact ⟨k, h.st⟩
theorem Fit.fw {d : D} {a b : Nat} (h : Fit d a b) : Fw d a b := ⟨h.pu, shown_ok _ h.pl, h.sh, h.la, h.si, h.de, h.we⟩
theorem Fw.mono {d : D} {a b a' b' : Nat} (h : Fw d a b) (ha : a ≤ a') (hb : b ≤ b') : Fw d a' b' := ⟨h.pu, h.st, h.sh, h.la, h.si, Nat.le_trans h.de ha, Nat.le_trans h.we hb⟩
/-- one text, by looking -/
def fwB (d : D) (b : Nat) : Bool := d.pure && PyData.strOk d.py.shown && d.py.showable && d.py.canLay0 && d.py.intsShort 13 && decide (d.py.depth ≤ 0) && decide (d.py.weight ≤ b)
theorem Fw.by {d : D} {b : Nat} (h : fwB d b = true) : Fw d 0 b := by
  unfold fwB at h
  simp only [Bool.and_eq_true, decide_eq_true_eq] at h
  exact ⟨h.1.1.1.1.1.1, h.1.1.1.1.1.2, h.1.1.1.1.2, h.1.1.1.2, h.1.1.2, h.1.2, h.2⟩
theorem ev_neSaid2 {x : Str} {bx : Sto} (hx : PyData.strOk x = true) : cNeD bx (.tup [.str x, .bl true]) (.tup [.str x, .bl true]) = some (.bl false) := by
  simp [cNeD, eqOk, dr, D.pure, D.pureAll, D.py, D.pyAll, SeqAt.shaped, PyData.canLay0, PyData.canLayAll0, PyData.depth, PyData.depthAll, PyData.eqv, PyData.eqvAll, hx]
theorem heardVB_refN {is : List Nat} {F : Fn D} {B : Nat → Fn D} {δ : List (Option D)} {bx bx' : Sto} {d : D} {k n : Nat} (hF : F δ bx = .ok (.ref k) bx) (hk : bx[k]? = some (.lam n)) (h : B n (unset is δ) bx = .err "Refused" d bx') (f : Sh d) : fHeardVB hResN is F B δ bx = .ok (.tup [.str d.py.shown, .bl true]) bx' := by
  unfold fHeardVB bnd
  rw [hF]
  dsimp only
  rw [hk]
  dsimp only
  rw [h]
  unfold hResN
  dsimp only
  rw [if_pos rfl, if_pos f.ok]
end Ms

end
section
set_option Elab.async false
set_option linter.all false
set_option maxRecDepth 100000
set_option maxHeartbeats 4000000
/-! A list of the frame's lambdas. -/
namespace Ms
open PySem PySem.Spec PyProof.Rows L2
structure Asks (N : Nat → Prop) (c : Nat) (s : Sto) (l : List D) : Prop where
  at_ : s[c]? = some (.lst l)
  all : ∀ d ∈ l, ∃ k n, d = .ref k ∧ k ≠ c ∧ s[k]? = some (.lam n) ∧ N n
theorem asks_new {N : Nat → Prop} {n : Nat} {δ : List (Option D)} {s : Sto} {Q : D → Sto → Prop} {E : Str → D → Sto → Prop} (hn : N n) (k : Asks N (s.length + 1) (s ++ [.lam n] ++ [.lst [.ref s.length]]) [.ref s.length] → Q (.ref (s.length + 1)) (s ++ [.lam n] ++ [.lst [.ref s.length]])) : W (fNew (fCons (fLam n) (pur [])) δ s) Q E := by
  simp only [W_new, W_cons, W_lam, W_pur]
  refine ⟨by simp, ?_⟩
  have e : (s ++ [Cell.lam n]).length = s.length + 1 := by rw [List.length_append]; rfl
  rw [e]
  refine k ⟨at_end (by rw [List.length_append]; rfl), fun d hd => ?_⟩
  cases List.mem_singleton.mp hd
  exact ⟨s.length, n, rfl, by omega, at_old (at_end rfl), hn⟩
theorem asks_app {N : Nat → Prop} {c n i : Nat} {s : Sto} {l : List D} {δ : List (Option D)} {N' : List (Option D) → Sto → Prop} {Rt : D → Sto → Prop} {E : Str → D → Sto → Prop} (h : Asks N c s l) (hn : N n) (hi : δ[i]? = some (some (.ref c))) (hl : l.length < 1000)
    (k : Asks N c ((s ++ [Cell.lam n]).set c (Cell.lst (l ++ [D.ref s.length]))) (l ++ [D.ref s.length]) → N' δ ((s ++ [Cell.lam n]).set c (Cell.lst (l ++ [D.ref s.length])))) : WS (sApp (fVar i) (fLam n) δ s) N' Rt E := by
  have lt := (List.getElem?_eq_some_iff.mp h.at_).1
  rw [WS_app]
  simp only [W_var, hi, Option.some.injEq, exists_eq_left']
  refine ⟨c, l, rfl, h.at_, ?_⟩
  rw [W_lam]
  refine ⟨l, at_old h.at_, by omega, k ⟨List.getElem?_set_self (by rw [List.length_append]; omega), fun d hd => ?_⟩⟩
  rcases List.mem_append.mp hd with q | q
  · obtain ⟨j, m, e1, e2, e3, e4⟩ := h.all d q
    exact ⟨j, m, e1, e2, at_ne (at_old e3) (Ne.symm e2), e4⟩
  · cases List.mem_singleton.mp q
    exact ⟨s.length, n, rfl, by omega, at_ne (at_end rfl) (by omega), hn⟩
theorem ext_more {b c : Nat} {s0 s : Sto} {x y : Cell} (h : Ext b s0 s) (hc : s0.length ≤ c) (hb : b < s0.length) : Ext b s0 ((s ++ [x]).set c y) := by
  refine ext_set ⟨by rw [List.length_append]; have := h.ln; omega, ?_, fun k q1 q2 => ?_⟩ hc hb
  · obtain ⟨g, r, e⟩ := h.bx
    exact ⟨g, r, at_old e⟩
  · have := h.ln
    rw [List.getElem?_append_left (by omega)]
    exact h.sm k q1 q2
theorem ext_plus {b : Nat} {s0 s ys : Sto} (h : Ext b s0 s) : Ext b s0 (s ++ ys) := by
  have := h.ln
  refine ⟨by rw [List.length_append]; omega, ?_, fun k q1 q2 => ?_⟩
  · obtain ⟨g, r, e⟩ := h.bx
    exact ⟨g, r, by rw [List.getElem?_append_left (List.getElem?_eq_some_iff.mp e).1]; exact e⟩
  · rw [List.getElem?_append_left (by omega)]
    exact h.sm k q1 q2
/-- all of them refuse the same -/
theorem asks_none {N : Nat → Prop} {c i : Nat} {s : Sto} {l : List D} {x : D} {δ : List (Option D)} {B : Nat → Fn D} {G : Fn D} (h : Asks N c s l) (hx : Sh x) (hi : i < δ.length) (hlen : (δ.set i none).length = δ.length)
    (hB : ∀ n d, N n → B n (unset [i] ((unset [i] δ).set i (some d))) (s.set c .dead) = .err "Refused" x (s.set c .dead))
    (hG : ∀ d, G ((unset [i] δ).set i (some d)) (s.set c .dead) = .ok (.tup [.str x.py.shown, .bl true]) (s.set c .dead)) (acc : List D) :
    lcGo (bOne i) (unset [i] δ) (fB (f2 cNeD (fHeardVB hResN [i] (fVar i) B) G)) (fVar i) l (s.set c .dead) acc = .ok acc (s.set c .dead) := by
  rw [lc_pure (c := fun _ => false) (f := fun d => d)]
  · rw [List.filter_eq_nil_iff.mpr (fun _ _ => by simp), List.map_nil, List.append_nil]
  · intro d hd
    obtain ⟨k, n, rfl, e2, e3, e4⟩ := h.all d hd
    refine ⟨_, rfl, W.eq ?_, fun q => (nomatch q)⟩
    have lk : ((unset [i] δ).set i (some (.ref k)))[i]? = some (some (.ref k)) := List.getElem?_set_self (by show i < (δ.set i none).length; rw [hlen]; exact hi)
    have fv : fVar i ((unset [i] δ).set i (some (.ref k))) (s.set c .dead) = .ok (.ref k) (s.set c .dead) := W.eq (by rw [W_var]; exact ⟨_, lk, rfl, rfl⟩)
    have hv : fHeardVB hResN [i] (fVar i) B ((unset [i] δ).set i (some (.ref k))) (s.set c .dead) = .ok (.tup [.str x.py.shown, .bl true]) (s.set c .dead) := heardVB_refN fv (at_ne e3 (Ne.symm e2)) (hB n _ e4) hx
    rw [W_B, W_f2, hv]
    simp only [W_ok]
    rw [hG]
    exact ⟨_, ev_neSaid2 hx.st, false, rfl, rfl, rfl⟩
theorem ev_slL {l : List D} {a b : Option Int} {bx : Sto} : cSl bx (.lst l) a b = some (.lst (Ms.cutD l a b)) := rfl
theorem ev_slT {l : List D} {a b : Option Int} {bx : Sto} : cSl bx (.tup l) a b = some (.tup (Ms.cutD l a b)) := rfl
end Ms

end
section
set_option Elab.async false
set_option linter.all false
set_option maxRecDepth 100000
set_option maxHeartbeats 4000000
namespace K23
open PySem PySem.Spec PyProof.Rows L2 Ms
theorem m_int {d : D} {bx : Sto} (h : d.cl = true) : m_is_integer [d] bx = .ok (.bl (isI d)) bx := W.eq (by
  unfold m_is_integer S_is_integer N_is_integer
  simp only [WS_seq, WS_if, WS_set, WS_ret, WS_drop, WS_raise, WS_next, WS_unp, WS_par, WS_for, W_B, W_f1, W_f2, W_fA, W_cons, W_pur, W_var, W_not, W_ifT, W_ifB, W_call, W_callK, W_chain, W_wk, W_sl, W_po, W_poN, W_ok, W_err, W_noErr, W_fnD, ev_plus, ev_sub, ev_iB, ev_toB, ev_not, ev_neg, ev_isN, ev_notN, ev_isB, ev_int, ev_abs, ev_max, ev_min, ev_eqI, ev_neI, Ms.isNon, Option.some.injEq, exists_eq_left', List.getElem?_cons_zero, List.getElem?_cons_succ, List.set_cons_zero, List.set_cons_succ, List.map_cons, List.map_nil, List.cons_append, List.nil_append, List.length_cons, List.length_nil, List.reduceReplicate, Nat.reduceAdd, Nat.reduceSub, Bool.not_true, Bool.not_false, Bool.false_eq_true, Bool.true_eq_false, if_true, if_false, decide_true, decide_false, D.int.injEq, D.bl.injEq, D.ref.injEq, exists_and_left, isi_int h, isi_bool h]
  cases d <;> first | (cases h; done) | simp [WS_seq, WS_if, WS_set, WS_ret, WS_drop, WS_raise, WS_next, WS_unp, WS_par, WS_for, W_B, W_f1, W_f2, W_fA, W_cons, W_pur, W_var, W_not, W_ifT, W_ifB, W_call, W_callK, W_chain, W_wk, W_sl, W_po, W_poN, W_ok, W_err, W_noErr, W_fnD, ev_plus, ev_sub, ev_iB, ev_toB, ev_not, ev_neg, ev_isN, ev_notN, ev_isB, ev_int, ev_abs, ev_max, ev_min, ev_eqI, ev_neI, Ms.isNon, Option.some.injEq, exists_eq_left', List.getElem?_cons_zero, List.getElem?_cons_succ, List.set_cons_zero, List.set_cons_succ, List.map_cons, List.map_nil, List.cons_append, List.nil_append, List.length_cons, List.length_nil, List.reduceReplicate, Nat.reduceAdd, Nat.reduceSub, Bool.not_true, Bool.not_false, Bool.false_eq_true, Bool.true_eq_false, if_true, if_false, decide_true, decide_false, D.int.injEq, D.bl.injEq, D.ref.injEq, exists_and_left, isi_bool h, isI])
def inR : D → Int → Int → Bool
  | .int i, a, b => decide (a ≤ i) && decide (i ≤ b)
  | _, _, _ => false
theorem m_within {d : D} {a b : Int} {bx : Sto} (h : d.cl = true) : m_is_within [d, .int a, .int b] bx = .ok (.bl (inR d a b)) bx := W.eq (by
  unfold m_is_within S_is_within N_is_within
  simp only [WS_seq, WS_if, WS_set, WS_ret, WS_drop, WS_raise, WS_next, WS_unp, WS_par, WS_for, W_B, W_f1, W_f2, W_fA, W_cons, W_pur, W_var, W_not, W_ifT, W_ifB, W_call, W_callK, W_chain, W_wk, W_sl, W_po, W_poN, W_ok, W_err, W_noErr, W_fnD, ev_plus, ev_sub, ev_iB, ev_toB, ev_not, ev_neg, ev_isN, ev_notN, ev_isB, ev_int, ev_abs, ev_max, ev_min, ev_eqI, ev_neI, Ms.isNon, Option.some.injEq, exists_eq_left', List.getElem?_cons_zero, List.getElem?_cons_succ, List.set_cons_zero, List.set_cons_succ, List.map_cons, List.map_nil, List.cons_append, List.nil_append, List.length_cons, List.length_nil, List.reduceReplicate, Nat.reduceAdd, Nat.reduceSub, Bool.not_true, Bool.not_false, Bool.false_eq_true, Bool.true_eq_false, if_true, if_false, decide_true, decide_false, D.int.injEq, D.bl.injEq, D.ref.injEq, exists_and_left, m_int h]
  cases d with
  | int i =>
    by_cases q : a ≤ i
    · simp [WS_seq, WS_if, WS_set, WS_ret, WS_drop, WS_raise, WS_next, WS_unp, WS_par, WS_for, W_B, W_f1, W_f2, W_fA, W_cons, W_pur, W_var, W_not, W_ifT, W_ifB, W_call, W_callK, W_chain, W_wk, W_sl, W_po, W_poN, W_ok, W_err, W_noErr, W_fnD, ev_plus, ev_sub, ev_iB, ev_toB, ev_not, ev_neg, ev_isN, ev_notN, ev_isB, ev_int, ev_abs, ev_max, ev_min, ev_eqI, ev_neI, Ms.isNon, Option.some.injEq, exists_eq_left', List.getElem?_cons_zero, List.getElem?_cons_succ, List.set_cons_zero, List.set_cons_succ, List.map_cons, List.map_nil, List.cons_append, List.nil_append, List.length_cons, List.length_nil, List.reduceReplicate, Nat.reduceAdd, Nat.reduceSub, Bool.not_true, Bool.not_false, Bool.false_eq_true, Bool.true_eq_false, if_true, if_false, decide_true, decide_false, D.int.injEq, D.bl.injEq, D.ref.injEq, exists_and_left, isI, inR, q]
      try (intros; omega)
    · simp [WS_seq, WS_if, WS_set, WS_ret, WS_drop, WS_raise, WS_next, WS_unp, WS_par, WS_for, W_B, W_f1, W_f2, W_fA, W_cons, W_pur, W_var, W_not, W_ifT, W_ifB, W_call, W_callK, W_chain, W_wk, W_sl, W_po, W_poN, W_ok, W_err, W_noErr, W_fnD, ev_plus, ev_sub, ev_iB, ev_toB, ev_not, ev_neg, ev_isN, ev_notN, ev_isB, ev_int, ev_abs, ev_max, ev_min, ev_eqI, ev_neI, Ms.isNon, Option.some.injEq, exists_eq_left', List.getElem?_cons_zero, List.getElem?_cons_succ, List.set_cons_zero, List.set_cons_succ, List.map_cons, List.map_nil, List.cons_append, List.nil_append, List.length_cons, List.length_nil, List.reduceReplicate, Nat.reduceAdd, Nat.reduceSub, Bool.not_true, Bool.not_false, Bool.false_eq_true, Bool.true_eq_false, if_true, if_false, decide_true, decide_false, D.int.injEq, D.bl.injEq, D.ref.injEq, exists_and_left, isI, inR, q]
  | _ => first | (cases h; done) | simp [WS_seq, WS_if, WS_set, WS_ret, WS_drop, WS_raise, WS_next, WS_unp, WS_par, WS_for, W_B, W_f1, W_f2, W_fA, W_cons, W_pur, W_var, W_not, W_ifT, W_ifB, W_call, W_callK, W_chain, W_wk, W_sl, W_po, W_poN, W_ok, W_err, W_noErr, W_fnD, ev_plus, ev_sub, ev_iB, ev_toB, ev_not, ev_neg, ev_isN, ev_notN, ev_isB, ev_int, ev_abs, ev_max, ev_min, ev_eqI, ev_neI, Ms.isNon, Option.some.injEq, exists_eq_left', List.getElem?_cons_zero, List.getElem?_cons_succ, List.set_cons_zero, List.set_cons_succ, List.map_cons, List.map_nil, List.cons_append, List.nil_append, List.length_cons, List.length_nil, List.reduceReplicate, Nat.reduceAdd, Nat.reduceSub, Bool.not_true, Bool.not_false, Bool.false_eq_true, Bool.true_eq_false, if_true, if_false, decide_true, decide_false, D.int.injEq, D.bl.injEq, D.ref.injEq, exists_and_left, isI, inR])
theorem m_below {d : D} {b : Int} {bx : Sto} (h : d.cl = true) : m_is_below [d, .int b] bx = .ok (.bl (inR d 0 (b - 1))) bx := W.eq (by
  unfold m_is_below S_is_below N_is_below
  simp only [WS_seq, WS_if, WS_set, WS_ret, WS_drop, WS_raise, WS_next, WS_unp, WS_par, WS_for, W_B, W_f1, W_f2, W_fA, W_cons, W_pur, W_var, W_not, W_ifT, W_ifB, W_call, W_callK, W_chain, W_wk, W_sl, W_po, W_poN, W_ok, W_err, W_noErr, W_fnD, ev_plus, ev_sub, ev_iB, ev_toB, ev_not, ev_neg, ev_isN, ev_notN, ev_isB, ev_int, ev_abs, ev_max, ev_min, ev_eqI, ev_neI, Ms.isNon, Option.some.injEq, exists_eq_left', List.getElem?_cons_zero, List.getElem?_cons_succ, List.set_cons_zero, List.set_cons_succ, List.map_cons, List.map_nil, List.cons_append, List.nil_append, List.length_cons, List.length_nil, List.reduceReplicate, Nat.reduceAdd, Nat.reduceSub, Bool.not_true, Bool.not_false, Bool.false_eq_true, Bool.true_eq_false, if_true, if_false, decide_true, decide_false, D.int.injEq, D.bl.injEq, D.ref.injEq, exists_and_left, m_int h]
  cases d with
  | int i =>
    have e : decide (i ≤ b - 1) = decide (i < b) := by congr 1; exact propext ⟨fun h => by omega, fun h => by omega⟩
    by_cases q : 0 ≤ i
    · simp [WS_seq, WS_if, WS_set, WS_ret, WS_drop, WS_raise, WS_next, WS_unp, WS_par, WS_for, W_B, W_f1, W_f2, W_fA, W_cons, W_pur, W_var, W_not, W_ifT, W_ifB, W_call, W_callK, W_chain, W_wk, W_sl, W_po, W_poN, W_ok, W_err, W_noErr, W_fnD, ev_plus, ev_sub, ev_iB, ev_toB, ev_not, ev_neg, ev_isN, ev_notN, ev_isB, ev_int, ev_abs, ev_max, ev_min, ev_eqI, ev_neI, Ms.isNon, Option.some.injEq, exists_eq_left', List.getElem?_cons_zero, List.getElem?_cons_succ, List.set_cons_zero, List.set_cons_succ, List.map_cons, List.map_nil, List.cons_append, List.nil_append, List.length_cons, List.length_nil, List.reduceReplicate, Nat.reduceAdd, Nat.reduceSub, Bool.not_true, Bool.not_false, Bool.false_eq_true, Bool.true_eq_false, if_true, if_false, decide_true, decide_false, D.int.injEq, D.bl.injEq, D.ref.injEq, exists_and_left, isI, inR, q, e]
      try (intros; omega)
    · simp [WS_seq, WS_if, WS_set, WS_ret, WS_drop, WS_raise, WS_next, WS_unp, WS_par, WS_for, W_B, W_f1, W_f2, W_fA, W_cons, W_pur, W_var, W_not, W_ifT, W_ifB, W_call, W_callK, W_chain, W_wk, W_sl, W_po, W_poN, W_ok, W_err, W_noErr, W_fnD, ev_plus, ev_sub, ev_iB, ev_toB, ev_not, ev_neg, ev_isN, ev_notN, ev_isB, ev_int, ev_abs, ev_max, ev_min, ev_eqI, ev_neI, Ms.isNon, Option.some.injEq, exists_eq_left', List.getElem?_cons_zero, List.getElem?_cons_succ, List.set_cons_zero, List.set_cons_succ, List.map_cons, List.map_nil, List.cons_append, List.nil_append, List.length_cons, List.length_nil, List.reduceReplicate, Nat.reduceAdd, Nat.reduceSub, Bool.not_true, Bool.not_false, Bool.false_eq_true, Bool.true_eq_false, if_true, if_false, decide_true, decide_false, D.int.injEq, D.bl.injEq, D.ref.injEq, exists_and_left, isI, inR, q, e]
  | _ => first | (cases h; done) | simp [WS_seq, WS_if, WS_set, WS_ret, WS_drop, WS_raise, WS_next, WS_unp, WS_par, WS_for, W_B, W_f1, W_f2, W_fA, W_cons, W_pur, W_var, W_not, W_ifT, W_ifB, W_call, W_callK, W_chain, W_wk, W_sl, W_po, W_poN, W_ok, W_err, W_noErr, W_fnD, ev_plus, ev_sub, ev_iB, ev_toB, ev_not, ev_neg, ev_isN, ev_notN, ev_isB, ev_int, ev_abs, ev_max, ev_min, ev_eqI, ev_neI, Ms.isNon, Option.some.injEq, exists_eq_left', List.getElem?_cons_zero, List.getElem?_cons_succ, List.set_cons_zero, List.set_cons_succ, List.map_cons, List.map_nil, List.cons_append, List.nil_append, List.length_cons, List.length_nil, List.reduceReplicate, Nat.reduceAdd, Nat.reduceSub, Bool.not_true, Bool.not_false, Bool.false_eq_true, Bool.true_eq_false, if_true, if_false, decide_true, decide_false, D.int.injEq, D.bl.injEq, D.ref.injEq, exists_and_left, isI, inR])
theorem m_seq {d : D} {bx : Sto} (h : d.cl = true) : m_is_sequence [d] bx = .ok (.bl (isS d)) bx := W.eq (by
  unfold m_is_sequence S_is_sequence N_is_sequence
  simp only [WS_seq, WS_if, WS_set, WS_ret, WS_drop, WS_raise, WS_next, WS_unp, WS_par, WS_for, W_B, W_f1, W_f2, W_fA, W_cons, W_pur, W_var, W_not, W_ifT, W_ifB, W_call, W_callK, W_chain, W_wk, W_sl, W_po, W_poN, W_ok, W_err, W_noErr, W_fnD, ev_plus, ev_sub, ev_iB, ev_toB, ev_not, ev_neg, ev_isN, ev_notN, ev_isB, ev_int, ev_abs, ev_max, ev_min, ev_eqI, ev_neI, Ms.isNon, Option.some.injEq, exists_eq_left', List.getElem?_cons_zero, List.getElem?_cons_succ, List.set_cons_zero, List.set_cons_succ, List.map_cons, List.map_nil, List.cons_append, List.nil_append, List.length_cons, List.length_nil, List.reduceReplicate, Nat.reduceAdd, Nat.reduceSub, Bool.not_true, Bool.not_false, Bool.false_eq_true, Bool.true_eq_false, if_true, if_false, decide_true, decide_false, D.int.injEq, D.bl.injEq, D.ref.injEq, exists_and_left, isi_seq h]
  simp [WS_seq, WS_if, WS_set, WS_ret, WS_drop, WS_raise, WS_next, WS_unp, WS_par, WS_for, W_B, W_f1, W_f2, W_fA, W_cons, W_pur, W_var, W_not, W_ifT, W_ifB, W_call, W_callK, W_chain, W_wk, W_sl, W_po, W_poN, W_ok, W_err, W_noErr, W_fnD, ev_plus, ev_sub, ev_iB, ev_toB, ev_not, ev_neg, ev_isN, ev_notN, ev_isB, ev_int, ev_abs, ev_max, ev_min, ev_eqI, ev_neI, Ms.isNon, Option.some.injEq, exists_eq_left', List.getElem?_cons_zero, List.getElem?_cons_succ, List.set_cons_zero, List.set_cons_succ, List.map_cons, List.map_nil, List.cons_append, List.nil_append, List.length_cons, List.length_nil, List.reduceReplicate, Nat.reduceAdd, Nat.reduceSub, Bool.not_true, Bool.not_false, Bool.false_eq_true, Bool.true_eq_false, if_true, if_false, decide_true, decide_false, D.int.injEq, D.bl.injEq, D.ref.injEq, exists_and_left])
def hasP : D → Nat → Bool
  | .lst l, n => l.length == n
  | .tup l, n => l.length == n
  | _, _ => false
theorem m_has {d : D} {n : Nat} {bx : Sto} (h : d.cl = true) : m_has_parts [d, .int n] bx = .ok (.bl (hasP d n)) bx := W.eq (by
  unfold m_has_parts S_has_parts N_has_parts
  simp only [WS_seq, WS_if, WS_set, WS_ret, WS_drop, WS_raise, WS_next, WS_unp, WS_par, WS_for, W_B, W_f1, W_f2, W_fA, W_cons, W_pur, W_var, W_not, W_ifT, W_ifB, W_call, W_callK, W_chain, W_wk, W_sl, W_po, W_poN, W_ok, W_err, W_noErr, W_fnD, ev_plus, ev_sub, ev_iB, ev_toB, ev_not, ev_neg, ev_isN, ev_notN, ev_isB, ev_int, ev_abs, ev_max, ev_min, ev_eqI, ev_neI, Ms.isNon, Option.some.injEq, exists_eq_left', List.getElem?_cons_zero, List.getElem?_cons_succ, List.set_cons_zero, List.set_cons_succ, List.map_cons, List.map_nil, List.cons_append, List.nil_append, List.length_cons, List.length_nil, List.reduceReplicate, Nat.reduceAdd, Nat.reduceSub, Bool.not_true, Bool.not_false, Bool.false_eq_true, Bool.true_eq_false, if_true, if_false, decide_true, decide_false, D.int.injEq, D.bl.injEq, D.ref.injEq, exists_and_left, m_seq h]
  cases d <;> first
    | (cases h; done)
    | simp [WS_seq, WS_if, WS_set, WS_ret, WS_drop, WS_raise, WS_next, WS_unp, WS_par, WS_for, W_B, W_f1, W_f2, W_fA, W_cons, W_pur, W_var, W_not, W_ifT, W_ifB, W_call, W_callK, W_chain, W_wk, W_sl, W_po, W_poN, W_ok, W_err, W_noErr, W_fnD, ev_plus, ev_sub, ev_iB, ev_toB, ev_not, ev_neg, ev_isN, ev_notN, ev_isB, ev_int, ev_abs, ev_max, ev_min, ev_eqI, ev_neI, Ms.isNon, Option.some.injEq, exists_eq_left', List.getElem?_cons_zero, List.getElem?_cons_succ, List.set_cons_zero, List.set_cons_succ, List.map_cons, List.map_nil, List.cons_append, List.nil_append, List.length_cons, List.length_nil, List.reduceReplicate, Nat.reduceAdd, Nat.reduceSub, Bool.not_true, Bool.not_false, Bool.false_eq_true, Bool.true_eq_false, if_true, if_false, decide_true, decide_false, D.int.injEq, D.bl.injEq, D.ref.injEq, exists_and_left, isS, hasP, ev_len vs_lst, ev_len vs_tup, eNat])
theorem within_ok {d : D} {a b : Int} {bx : Sto} (h : d.cl = true) (k : inR d a b = true) : m_need_within [d, .int a, .int b] bx = .ok .non bx := W.eq (by
  unfold m_need_within S_need_within N_need_within
  simp only [WS_seq, WS_if, WS_set, WS_ret, WS_drop, WS_raise, WS_next, WS_unp, WS_par, WS_for, W_B, W_f1, W_f2, W_fA, W_cons, W_pur, W_var, W_not, W_ifT, W_ifB, W_call, W_callK, W_chain, W_wk, W_sl, W_po, W_poN, W_ok, W_err, W_noErr, W_fnD, ev_plus, ev_sub, ev_iB, ev_toB, ev_not, ev_neg, ev_isN, ev_notN, ev_isB, ev_int, ev_abs, ev_max, ev_min, ev_eqI, ev_neI, Ms.isNon, Option.some.injEq, exists_eq_left', List.getElem?_cons_zero, List.getElem?_cons_succ, List.set_cons_zero, List.set_cons_succ, List.map_cons, List.map_nil, List.cons_append, List.nil_append, List.length_cons, List.length_nil, List.reduceReplicate, Nat.reduceAdd, Nat.reduceSub, Bool.not_true, Bool.not_false, Bool.false_eq_true, Bool.true_eq_false, if_true, if_false, decide_true, decide_false, D.int.injEq, D.bl.injEq, D.ref.injEq, exists_and_left, m_within h, k, and_self])
theorem within_bad {d : D} {a b : Int} {bx : Sto} (h : d.cl = true) (k : inR d a b = false) : m_need_within [d, .int a, .int b] bx = .err "Refused" d bx := W.eqE (by
  unfold m_need_within S_need_within N_need_within
  simp only [WS_seq, WS_if, WS_set, WS_ret, WS_drop, WS_raise, WS_next, WS_unp, WS_par, WS_for, W_B, W_f1, W_f2, W_fA, W_cons, W_pur, W_var, W_not, W_ifT, W_ifB, W_call, W_callK, W_chain, W_wk, W_sl, W_po, W_poN, W_ok, W_err, W_noErr, W_fnD, ev_plus, ev_sub, ev_iB, ev_toB, ev_not, ev_neg, ev_isN, ev_notN, ev_isB, ev_int, ev_abs, ev_max, ev_min, ev_eqI, ev_neI, Ms.isNon, Option.some.injEq, exists_eq_left', List.getElem?_cons_zero, List.getElem?_cons_succ, List.set_cons_zero, List.set_cons_succ, List.map_cons, List.map_nil, List.cons_append, List.nil_append, List.length_cons, List.length_nil, List.reduceReplicate, Nat.reduceAdd, Nat.reduceSub, Bool.not_true, Bool.not_false, Bool.false_eq_true, Bool.true_eq_false, if_true, if_false, decide_true, decide_false, D.int.injEq, D.bl.injEq, D.ref.injEq, exists_and_left, m_within h, k, and_self])
/-- a list, as a list or a tuple -/
def Seq2 (d : D) (l : List D) : Prop := d = .lst l ∨ d = .tup l
theorem Seq2.cl {d : D} {l : List D} (h : Seq2 d l) : d.cl = true := by rcases h with rfl | rfl <;> rfl
theorem Seq2.vs {d : D} {l : List D} (h : Seq2 d l) (bx : Sto) : vs bx d = some l := by rcases h with rfl | rfl <;> rfl
theorem Seq2.wlk {d : D} {l : List D} (h : Seq2 d l) : wlk d = some l := by rcases h with rfl | rfl <;> rfl
theorem Seq2.isS {d : D} {l : List D} (h : Seq2 d l) : isS d = true := by rcases h with rfl | rfl <;> rfl
theorem Seq2.has {d : D} {l : List D} (h : Seq2 d l) (n : Nat) : hasP d n = (l.length == n) := by rcases h with rfl | rfl <;> rfl
theorem Seq2.tupOf {d : D} {l : List D} (h : Seq2 d l) (bx : Sto) : cTupOf bx [d] = some (.tup l) := by rcases h with rfl | rfl <;> rfl
def rg (lo : Int) (n : Nat) : List Int := (List.range n).map fun (i : Nat) => lo + (i : Int)
theorem rgl_eq {lo : Int} {n : Nat} : rgl lo n = (rg lo n).map D.int := by
  unfold rgl rg
  rw [List.map_map]
  rfl
theorem mem_rg {lo x : Int} {n : Nat} : x ∈ rg lo n ↔ lo ≤ x ∧ x < lo + n := by
  unfold rg
  rw [List.mem_map]
  constructor
  · rintro ⟨i, hi, rfl⟩
    have := List.mem_range.mp hi
    omega
  · rintro ⟨h1, h2⟩
    exact ⟨(x - lo).toNat, List.mem_range.mpr (by omega), by omega⟩
theorem rg_len {lo : Int} {n : Nat} : (rg lo n).length = n := by simp [rg]
theorem rg_sorted {lo : Int} {n : Nat} : (rg lo n).Pairwise (· < ·) := by
  unfold rg
  rw [List.pairwise_map]
  exact List.pairwise_lt_range.imp fun h => by omega
theorem rg_take {lo : Int} {n k : Nat} (h : k ≤ n) : (rg lo n).take k = rg lo k := by
  unfold rg
  rw [← List.map_take, List.take_range, Nat.min_eq_left h]
/-- a comprehension over whole numbers -/
theorem filt_ints {l : List Int} {c : D → Bool} {f : D → D} {p : Int → Bool} {g : Int → Int} (hc : ∀ i, c (.int i) = p i) (hf : ∀ i, f (.int i) = .int (g i)) : ((l.map D.int).filter c).map f = ((l.filter p).map g).map D.int := by
  rw [List.filter_map, List.map_map, List.map_map]
  have e : (c ∘ D.int) = p := funext hc
  rw [e]
  exact List.map_congr_left fun i _ => hf i
theorem lcI {j : Nat} {δ : List (Option D)} {bx : Sto} {C : Fn Bool} {F : Fn D} {l : List Int} {p : Int → Bool} {g : Int → Int} (h : ∀ w ∈ l, C (δ.set j (some (.int w))) bx = .ok (p w) bx ∧ (p w = true → F (δ.set j (some (.int w))) bx = .ok (.int (g w)) bx)) :
    lcGo (bOne j) δ C F (l.map D.int) bx [] = .ok (((l.filter p).map g).map D.int) bx := by
  rw [lc_pure (c := fun d => match d with | .int w => p w | _ => false) (f := fun d => match d with | .int w => .int (g w) | _ => .non) fun d hd => ⟨_, rfl, by
    obtain ⟨w, hw, rfl⟩ := List.mem_map.mp hd
    exact h w hw⟩]
  rw [List.nil_append, filt_ints (p := p) (g := g) (fun _ => rfl) (fun _ => rfl)]
theorem lcI1 {j : Nat} {δ : List (Option D)} {bx : Sto} {F : Fn D} {l : List Int} {g : Int → Int} (h : ∀ w ∈ l, F (δ.set j (some (.int w))) bx = .ok (.int (g w)) bx) :
    lcGo (bOne j) δ (pur true) F (l.map D.int) bx [] = .ok ((l.map g).map D.int) bx := by
  rw [lcI (p := fun _ => true) (g := g) fun w hw => ⟨rfl, fun _ => h w hw⟩]
  have ef : (l.filter fun _ => true) = l := List.filter_eq_self.mpr fun _ _ => rfl
  rw [ef]
theorem take_succ {α : Type} {l : List α} {i : Nat} {x : α} (h : l[i]? = some x) : l.take (i + 1) = l.take i ++ [x] := by rw [List.take_add_one, h]; rfl
theorem take_ok {b : Nat} {st : Sto} {n : Int} (hb : Bx b st) (hn : 0 < n) (hn2 : n < 1073741824) : W (m__law_take [.ref b, .int n] st) (fun r st' => ∃ i, r = .int i ∧ 0 ≤ i ∧ i < n ∧ Ext b st st' ∧ st'.length = st.length) NoE := by
  unfold m__law_take
  rw [W_noErr, W_fnD]
  exact take_WS (c1 := 39373) (c2 := 71) (m1 := 2147483647) (c3 := 40692) (c4 := 37) (m2 := 2147483563) (c5 := 2147483629) (c6 := 8233) (by decide) (by decide) (by decide) (by decide) (by decide) (by decide) hb hn hn2 fun i st' h1 h2 h3 h4 => ⟨i, rfl, h1, h2, h3, h4⟩
theorem box_ok {ns : List Int} {k : Nat} {st : Sto} : W (m__law_box [.scr ns, .int k] st) (fun r st' => r = .ref st.length ∧ ∃ g r : Int, st' = st ++ [.lst [.int g, .int r]]) NoE := by
  unfold m__law_box
  rw [W_noErr, W_fnD]
  exact box_WS (A := 5197) (B := 509) (M := 2147483563) (C := 50131) (M2 := 2147483563) (C2 := 58231) (B2 := 811) (M3 := 2147483563) (by decide) (by decide) (by decide) (by decide) (by decide) (by decide) (by decide) fun g r => ⟨rfl, g, r, rfl⟩
theorem pick_ok {b : Nat} {st : Sto} {d : D} {l : List D} (hb : Bx b st) (hd : d = .lst l ∨ d = .tup l) (hl : l ≠ []) (hl2 : l.length < 1073741824) : W (m__law_pick [.ref b, d] st) (fun r st' => r ∈ l ∧ Ext b st st' ∧ st'.length = st.length) NoE := by
  have hp : 0 < l.length := List.length_pos_iff.mpr hl
  unfold m__law_pick S__law_pick N__law_pick
  have v : ∀ bx, vs bx d = some l := fun bx => by rcases hd with rfl | rfl <;> rfl
  simp only [WS_seq, WS_if, WS_set, WS_ret, WS_drop, WS_raise, WS_next, WS_unp, WS_par, WS_for, W_B, W_f1, W_f2, W_fA, W_cons, W_pur, W_var, W_not, W_ifT, W_ifB, W_call, W_callK, W_chain, W_wk, W_sl, W_po, W_poN, W_ok, W_err, W_noErr, W_fnD, ev_plus, ev_sub, ev_iB, ev_toB, ev_not, ev_neg, ev_isN, ev_notN, ev_isB, ev_int, ev_abs, ev_max, ev_min, ev_eqI, ev_neI, Ms.isNon, Option.some.injEq, exists_eq_left', List.getElem?_cons_zero, List.getElem?_cons_succ, List.set_cons_zero, List.set_cons_succ, List.map_cons, List.map_nil, List.cons_append, List.nil_append, List.length_cons, List.length_nil, List.reduceReplicate, Nat.reduceAdd, Nat.reduceSub, Bool.not_true, Bool.not_false, Bool.false_eq_true, Bool.true_eq_false, if_true, if_false, decide_true, decide_false, D.int.injEq, D.bl.injEq, D.ref.injEq, exists_and_left, ev_len (v _)]
  refine (take_ok hb (by omega) (by omega)).to fun r st' ⟨i, e, h0, h1, h2, h3⟩ => ?_
  subst e
  have hi : i.toNat < l.length := by omega
  have e : atI l i = some l[i.toNat] := atI_int h0 (List.getElem?_eq_getElem hi)
  simp only [ev_ix (v _), e, Option.some.injEq, exists_eq_left']
  exact ⟨List.getElem_mem hi, h2, h3⟩


/-! ### what is heard -/
theorem hrdRef {F : Fn D} {δ : List (Option D)} {bx bx' : Sto} {d : D} (h : F δ bx = .err "Refused" d bx') (f : Sh d) : fHeardG (hResL .rep CLS) F δ bx = .ok (.tup [.str "refused", .str d.py.shown, .bl true]) bx' := by
  unfold fHeardG
  rw [h]
  unfold hResL
  dsimp only
  rw [show CLS.find? (fun k => k.cn == ("Refused" : Str)) = some ⟨"Refused", "refused", true, true⟩ from rfl]
  dsimp only
  rw [if_pos f.ok]
  rfl

theorem code_ok {c n : Int} (h1 : 2 ≤ c) (h2 : c ≤ 8) (h3 : 1 ≤ n) (h4 : n ≤ c) (bx : Sto) : m_need_code [.int c, .int n] bx = .ok .non bx := W.eq (by
  have a : inR (.int c) 2 8 = true := by unfold inR; simp; omega
  have b : inR (.int n) 1 c = true := by unfold inR; simp; omega
  unfold m_need_code S_need_code N_need_code
  simp only [WS_seq, WS_if, WS_set, WS_ret, WS_drop, WS_raise, WS_next, WS_unp, WS_par, WS_for, W_B, W_f1, W_f2, W_fA, W_cons, W_pur, W_var, W_not, W_ifT, W_ifB, W_call, W_callK, W_chain, W_wk, W_sl, W_po, W_poN, W_ok, W_err, W_noErr, W_fnD, ev_plus, ev_sub, ev_iB, ev_toB, ev_not, ev_neg, ev_isN, ev_notN, ev_isB, ev_int, ev_abs, ev_max, ev_min, ev_eqI, ev_neI, Ms.isNon, Option.some.injEq, exists_eq_left', List.getElem?_cons_zero, List.getElem?_cons_succ, List.set_cons_zero, List.set_cons_succ, List.map_cons, List.map_nil, List.cons_append, List.nil_append, List.length_cons, List.length_nil, List.reduceReplicate, Nat.reduceAdd, Nat.reduceSub, Bool.not_true, Bool.not_false, Bool.false_eq_true, Bool.true_eq_false, if_true, if_false, decide_true, decide_false, D.int.injEq, D.bl.injEq, D.ref.injEq, exists_and_left, within_ok (d := .int c) rfl a, within_ok (d := .int n) rfl b, and_self])
theorem code_bad1 {c n : D} (hc : c.cl = true) (h : inR c 2 8 = false) (bx : Sto) : m_need_code [c, n] bx = .err "Refused" c bx := W.eqE (by
  unfold m_need_code S_need_code N_need_code
  simp only [WS_seq, WS_if, WS_set, WS_ret, WS_drop, WS_raise, WS_next, WS_unp, WS_par, WS_for, W_B, W_f1, W_f2, W_fA, W_cons, W_pur, W_var, W_not, W_ifT, W_ifB, W_call, W_callK, W_chain, W_wk, W_sl, W_po, W_poN, W_ok, W_err, W_noErr, W_fnD, ev_plus, ev_sub, ev_iB, ev_toB, ev_not, ev_neg, ev_isN, ev_notN, ev_isB, ev_int, ev_abs, ev_max, ev_min, ev_eqI, ev_neI, Ms.isNon, Option.some.injEq, exists_eq_left', List.getElem?_cons_zero, List.getElem?_cons_succ, List.set_cons_zero, List.set_cons_succ, List.map_cons, List.map_nil, List.cons_append, List.nil_append, List.length_cons, List.length_nil, List.reduceReplicate, Nat.reduceAdd, Nat.reduceSub, Bool.not_true, Bool.not_false, Bool.false_eq_true, Bool.true_eq_false, if_true, if_false, decide_true, decide_false, D.int.injEq, D.bl.injEq, D.ref.injEq, exists_and_left, within_bad hc h, and_self])
theorem code_bad2 {c : Int} {n : D} (h1 : 2 ≤ c) (h2 : c ≤ 8) (hn : n.cl = true) (h : inR n 1 c = false) (bx : Sto) : m_need_code [.int c, n] bx = .err "Refused" n bx := W.eqE (by
  have a : inR (.int c) 2 8 = true := by unfold inR; simp; omega
  unfold m_need_code S_need_code N_need_code
  simp only [WS_seq, WS_if, WS_set, WS_ret, WS_drop, WS_raise, WS_next, WS_unp, WS_par, WS_for, W_B, W_f1, W_f2, W_fA, W_cons, W_pur, W_var, W_not, W_ifT, W_ifB, W_call, W_callK, W_chain, W_wk, W_sl, W_po, W_poN, W_ok, W_err, W_noErr, W_fnD, ev_plus, ev_sub, ev_iB, ev_toB, ev_not, ev_neg, ev_isN, ev_notN, ev_isB, ev_int, ev_abs, ev_max, ev_min, ev_eqI, ev_neI, Ms.isNon, Option.some.injEq, exists_eq_left', List.getElem?_cons_zero, List.getElem?_cons_succ, List.set_cons_zero, List.set_cons_succ, List.map_cons, List.map_nil, List.cons_append, List.nil_append, List.length_cons, List.length_nil, List.reduceReplicate, Nat.reduceAdd, Nat.reduceSub, Bool.not_true, Bool.not_false, Bool.false_eq_true, Bool.true_eq_false, if_true, if_false, decide_true, decide_false, D.int.injEq, D.bl.injEq, D.ref.injEq, exists_and_left, within_ok (d := .int c) rfl a, within_bad hn h, and_self])
/-! ### cells -/
def isC : D → Bool
  | .int i => decide (0 ≤ i) && decide (i < 257)
  | _ => false
theorem cell_test {d : D} {bx : Sto} (h : d.cl = true) (δ : List (Option D)) (hd : δ[2]? = some (some d)) {Q : Bool → Sto → Prop} {E : Str → D → Sto → Prop} (q : Q (!isC d) bx) :
    W ((fIfT (fNot (fB (f1 (cIsi "int") (fVar 2)))) (pur true) (fIfT (fB (f1 (cIsi "bool") (fVar 2))) (pur true) (fIfT (fB (f2 (iB fun i j => decide (i < j)) (fVar 2) (pur (.int 0)))) (pur true) (fB (f2 (iB fun i j => decide (j ≤ i)) (fVar 2) (pur (.int 257))))))) δ bx) Q E := by
  cases d with
  | int i =>
    have c1 : isC (.int i) = (decide (0 ≤ i) && decide (i < 257)) := rfl
    rw [c1] at q
    by_cases a : i < 0
    · have e : (!(decide (0 ≤ i) && decide (i < 257))) = true := by simp; omega
      rw [e] at q
      simp only [WS_seq, WS_if, WS_set, WS_ret, WS_drop, WS_raise, WS_next, WS_unp, WS_par, WS_for, W_B, W_f1, W_f2, W_fA, W_cons, W_pur, W_var, W_not, W_ifT, W_ifB, W_call, W_callK, W_chain, W_wk, W_sl, W_po, W_poN, W_ok, W_err, W_noErr, W_fnD, ev_plus, ev_sub, ev_iB, ev_toB, ev_not, ev_neg, ev_isN, ev_notN, ev_isB, ev_int, ev_abs, ev_max, ev_min, ev_eqI, ev_neI, Ms.isNon, Option.some.injEq, exists_eq_left', List.getElem?_cons_zero, List.getElem?_cons_succ, List.set_cons_zero, List.set_cons_succ, List.map_cons, List.map_nil, List.cons_append, List.nil_append, List.length_cons, List.length_nil, List.reduceReplicate, Nat.reduceAdd, Nat.reduceSub, Bool.not_true, Bool.not_false, Bool.false_eq_true, Bool.true_eq_false, if_true, if_false, decide_true, decide_false, D.int.injEq, D.bl.injEq, D.ref.injEq, exists_and_left, hd, isi_int h, isi_bool h, a, q]
    · have e : (!(decide (0 ≤ i) && decide (i < 257))) = decide ((257 : Int) ≤ i) := by
        rw [Bool.eq_iff_iff]
        simp
        omega
      rw [e] at q
      simp only [WS_seq, WS_if, WS_set, WS_ret, WS_drop, WS_raise, WS_next, WS_unp, WS_par, WS_for, W_B, W_f1, W_f2, W_fA, W_cons, W_pur, W_var, W_not, W_ifT, W_ifB, W_call, W_callK, W_chain, W_wk, W_sl, W_po, W_poN, W_ok, W_err, W_noErr, W_fnD, ev_plus, ev_sub, ev_iB, ev_toB, ev_not, ev_neg, ev_isN, ev_notN, ev_isB, ev_int, ev_abs, ev_max, ev_min, ev_eqI, ev_neI, Ms.isNon, Option.some.injEq, exists_eq_left', List.getElem?_cons_zero, List.getElem?_cons_succ, List.set_cons_zero, List.set_cons_succ, List.map_cons, List.map_nil, List.cons_append, List.nil_append, List.length_cons, List.length_nil, List.reduceReplicate, Nat.reduceAdd, Nat.reduceSub, Bool.not_true, Bool.not_false, Bool.false_eq_true, Bool.true_eq_false, if_true, if_false, decide_true, decide_false, D.int.injEq, D.bl.injEq, D.ref.injEq, exists_and_left, hd, isi_int h, isi_bool h, a, q]
  | ref _ => cases h
  | fn _ => cases h
  | scr _ => cases h
  | _ => simp [WS_seq, WS_if, WS_set, WS_ret, WS_drop, WS_raise, WS_next, WS_unp, WS_par, WS_for, W_B, W_f1, W_f2, W_fA, W_cons, W_pur, W_var, W_not, W_ifT, W_ifB, W_call, W_callK, W_chain, W_wk, W_sl, W_po, W_poN, W_ok, W_err, W_noErr, W_fnD, ev_plus, ev_sub, ev_iB, ev_toB, ev_not, ev_neg, ev_isN, ev_notN, ev_isB, ev_int, ev_abs, ev_max, ev_min, ev_eqI, ev_neI, Ms.isNon, Option.some.injEq, exists_eq_left', List.getElem?_cons_zero, List.getElem?_cons_succ, List.set_cons_zero, List.set_cons_succ, List.map_cons, List.map_nil, List.cons_append, List.nil_append, List.length_cons, List.length_nil, List.reduceReplicate, Nat.reduceAdd, Nat.reduceSub, Bool.not_true, Bool.not_false, Bool.false_eq_true, Bool.true_eq_false, if_true, if_false, decide_true, decide_false, D.int.injEq, D.bl.injEq, D.ref.injEq, exists_and_left, hd, isi_int h, isi_bool h, isC] at q ⊢; try exact q
theorem cells_ok {d : D} {l : List D} {n : Nat} (h : Seq2 d l) (hn : l.length = n) (hc : ∀ x ∈ l, isC x = true) (bx : Sto) : m_are_cells [d, .int n] bx = .ok (.bl true) bx := W.eq (by
  have hp : m_has_parts [d, .int n] bx = .ok (.bl true) bx := by rw [m_has h.cl, h.has, hn]; simp
  unfold m_are_cells S_are_cells N_are_cells
  rw [W_noErr, W_fnD, WS_seq, WS_if]
  simp only [WS_next, W_B, W_f1, W_f2, W_fA, W_cons, W_pur, W_var, W_not, W_ifT, W_ifB, W_call, W_callK, W_chain, W_wk, W_sl, W_po, W_poN, W_ok, W_err, W_noErr, W_fnD, ev_plus, ev_sub, ev_iB, ev_toB, ev_not, ev_neg, ev_isN, ev_notN, ev_isB, ev_int, ev_abs, ev_max, ev_min, ev_eqI, ev_neI, Ms.isNon, Option.some.injEq, exists_eq_left', List.getElem?_cons_zero, List.getElem?_cons_succ, List.set_cons_zero, List.set_cons_succ, List.map_cons, List.map_nil, List.cons_append, List.nil_append, List.length_cons, List.length_nil, List.reduceReplicate, Nat.reduceAdd, Nat.reduceSub, Bool.not_true, Bool.not_false, Bool.false_eq_true, Bool.true_eq_false, if_true, if_false, decide_true, decide_false, D.int.injEq, D.bl.injEq, D.ref.injEq, exists_and_left, hp]
  rw [WS_seq, WS_for]
  simp only [WS_next, W_B, W_f1, W_f2, W_fA, W_cons, W_pur, W_var, W_not, W_ifT, W_ifB, W_call, W_callK, W_chain, W_wk, W_sl, W_po, W_poN, W_ok, W_err, W_noErr, W_fnD, ev_plus, ev_sub, ev_iB, ev_toB, ev_not, ev_neg, ev_isN, ev_notN, ev_isB, ev_int, ev_abs, ev_max, ev_min, ev_eqI, ev_neI, Ms.isNon, Option.some.injEq, exists_eq_left', List.getElem?_cons_zero, List.getElem?_cons_succ, List.set_cons_zero, List.set_cons_succ, List.map_cons, List.map_nil, List.cons_append, List.nil_append, List.length_cons, List.length_nil, List.reduceReplicate, Nat.reduceAdd, Nat.reduceSub, Bool.not_true, Bool.not_false, Bool.false_eq_true, Bool.true_eq_false, if_true, if_false, decide_true, decide_false, D.int.injEq, D.bl.injEq, D.ref.injEq, exists_and_left, h.wlk]
  refine for_rule (fun _ δ st => st = bx ∧ ∃ x2, δ = [some d, some (.int n), x2]) ⟨rfl, _, rfl⟩ ?_ ?_
  · rintro δ st ⟨rfl, x2, rfl⟩
    rw [WS_seq, WS_ret]
    simp only [WS_next, W_B, W_f1, W_f2, W_fA, W_cons, W_pur, W_var, W_not, W_ifT, W_ifB, W_call, W_callK, W_chain, W_wk, W_sl, W_po, W_poN, W_ok, W_err, W_noErr, W_fnD, ev_plus, ev_sub, ev_iB, ev_toB, ev_not, ev_neg, ev_isN, ev_notN, ev_isB, ev_int, ev_abs, ev_max, ev_min, ev_eqI, ev_neI, Ms.isNon, Option.some.injEq, exists_eq_left', List.getElem?_cons_zero, List.getElem?_cons_succ, List.set_cons_zero, List.set_cons_succ, List.map_cons, List.map_nil, List.cons_append, List.nil_append, List.length_cons, List.length_nil, List.reduceReplicate, Nat.reduceAdd, Nat.reduceSub, Bool.not_true, Bool.not_false, Bool.false_eq_true, Bool.true_eq_false, if_true, if_false, decide_true, decide_false, D.int.injEq, D.bl.injEq, D.ref.injEq, exists_and_left, and_self]
  · rintro i x δ st hx ⟨rfl, x2, rfl⟩
    have cx := hc x (List.mem_of_getElem? hx)
    have clx : x.cl = true := by cases x <;> first | rfl | cases cx
    refine ⟨_, rfl, ?_⟩
    rw [WS_seq, WS_if]
    refine cell_test clx _ rfl ?_
    rw [cx]
    simp only [WS_seq, WS_if, WS_set, WS_ret, WS_drop, WS_raise, WS_next, WS_unp, WS_par, WS_for, W_B, W_f1, W_f2, W_fA, W_cons, W_pur, W_var, W_not, W_ifT, W_ifB, W_call, W_callK, W_chain, W_wk, W_sl, W_po, W_poN, W_ok, W_err, W_noErr, W_fnD, ev_plus, ev_sub, ev_iB, ev_toB, ev_not, ev_neg, ev_isN, ev_notN, ev_isB, ev_int, ev_abs, ev_max, ev_min, ev_eqI, ev_neI, Ms.isNon, Option.some.injEq, exists_eq_left', List.getElem?_cons_zero, List.getElem?_cons_succ, List.set_cons_zero, List.set_cons_succ, List.map_cons, List.map_nil, List.cons_append, List.nil_append, List.length_cons, List.length_nil, List.reduceReplicate, Nat.reduceAdd, Nat.reduceSub, Bool.not_true, Bool.not_false, Bool.false_eq_true, Bool.true_eq_false, if_true, if_false, decide_true, decide_false, D.int.injEq, D.bl.injEq, D.ref.injEq, exists_and_left]
    exact ⟨trivial, _, rfl⟩)
theorem cells_bad {d : D} {n : Nat} (h : d.cl = true) (hk : hasP d n = false) (bx : Sto) : m_are_cells [d, .int n] bx = .ok (.bl false) bx := W.eq (by
  unfold m_are_cells S_are_cells N_are_cells
  simp only [WS_seq, WS_if, WS_set, WS_ret, WS_drop, WS_raise, WS_next, WS_unp, WS_par, WS_for, W_B, W_f1, W_f2, W_fA, W_cons, W_pur, W_var, W_not, W_ifT, W_ifB, W_call, W_callK, W_chain, W_wk, W_sl, W_po, W_poN, W_ok, W_err, W_noErr, W_fnD, ev_plus, ev_sub, ev_iB, ev_toB, ev_not, ev_neg, ev_isN, ev_notN, ev_isB, ev_int, ev_abs, ev_max, ev_min, ev_eqI, ev_neI, Ms.isNon, Option.some.injEq, exists_eq_left', List.getElem?_cons_zero, List.getElem?_cons_succ, List.set_cons_zero, List.set_cons_succ, List.map_cons, List.map_nil, List.cons_append, List.nil_append, List.length_cons, List.length_nil, List.reduceReplicate, Nat.reduceAdd, Nat.reduceSub, Bool.not_true, Bool.not_false, Bool.false_eq_true, Bool.true_eq_false, if_true, if_false, decide_true, decide_false, D.int.injEq, D.bl.injEq, D.ref.injEq, exists_and_left, m_has h, hk, and_self])
theorem cells_bad1 {d x : D} {r : List D} {n : Nat} (h : Seq2 d (x :: r)) (hn : (x :: r).length = n) (hx : x.cl = true) (hc : isC x = false) (bx : Sto) : m_are_cells [d, .int n] bx = .ok (.bl false) bx := W.eq (by
  have hp : m_has_parts [d, .int n] bx = .ok (.bl true) bx := by rw [m_has h.cl, h.has, hn]; simp
  unfold m_are_cells S_are_cells N_are_cells
  rw [W_noErr, W_fnD, WS_seq, WS_if]
  simp only [WS_next, W_B, W_f1, W_f2, W_fA, W_cons, W_pur, W_var, W_not, W_ifT, W_ifB, W_call, W_callK, W_chain, W_wk, W_sl, W_po, W_poN, W_ok, W_err, W_noErr, W_fnD, ev_plus, ev_sub, ev_iB, ev_toB, ev_not, ev_neg, ev_isN, ev_notN, ev_isB, ev_int, ev_abs, ev_max, ev_min, ev_eqI, ev_neI, Ms.isNon, Option.some.injEq, exists_eq_left', List.getElem?_cons_zero, List.getElem?_cons_succ, List.set_cons_zero, List.set_cons_succ, List.map_cons, List.map_nil, List.cons_append, List.nil_append, List.length_cons, List.length_nil, List.reduceReplicate, Nat.reduceAdd, Nat.reduceSub, Bool.not_true, Bool.not_false, Bool.false_eq_true, Bool.true_eq_false, if_true, if_false, decide_true, decide_false, D.int.injEq, D.bl.injEq, D.ref.injEq, exists_and_left, hp]
  rw [WS_seq, WS_for]
  simp only [WS_next, W_B, W_f1, W_f2, W_fA, W_cons, W_pur, W_var, W_not, W_ifT, W_ifB, W_call, W_callK, W_chain, W_wk, W_sl, W_po, W_poN, W_ok, W_err, W_noErr, W_fnD, ev_plus, ev_sub, ev_iB, ev_toB, ev_not, ev_neg, ev_isN, ev_notN, ev_isB, ev_int, ev_abs, ev_max, ev_min, ev_eqI, ev_neI, Ms.isNon, Option.some.injEq, exists_eq_left', List.getElem?_cons_zero, List.getElem?_cons_succ, List.set_cons_zero, List.set_cons_succ, List.map_cons, List.map_nil, List.cons_append, List.nil_append, List.length_cons, List.length_nil, List.reduceReplicate, Nat.reduceAdd, Nat.reduceSub, Bool.not_true, Bool.not_false, Bool.false_eq_true, Bool.true_eq_false, if_true, if_false, decide_true, decide_false, D.int.injEq, D.bl.injEq, D.ref.injEq, exists_and_left, h.wlk]
  have e : ∀ (S : Sn) δ st N R, WS (forL (bOne 2) S (x :: r) δ st) N R NoE ↔ WS (S (δ.set 2 (some x)) st) (fun δ' st' => WS (forL (bOne 2) S r δ' st') N R NoE) R NoE := by
    intro S δ st N R
    show WS (match S (δ.set 2 (some x)) st with | .nx δ' bx' => forL (bOne 2) S r δ' bx' | .rt d bx' => .rt d bx' | .er c d bx' => .er c d bx' | .bad => .bad) N R NoE ↔ _
    cases S (δ.set 2 (some x)) st <;> rfl
  rw [e, WS_seq, WS_if]
  refine cell_test hx _ rfl ?_
  rw [hc]
  simp only [WS_seq, WS_if, WS_set, WS_ret, WS_drop, WS_raise, WS_next, WS_unp, WS_par, WS_for, W_B, W_f1, W_f2, W_fA, W_cons, W_pur, W_var, W_not, W_ifT, W_ifB, W_call, W_callK, W_chain, W_wk, W_sl, W_po, W_poN, W_ok, W_err, W_noErr, W_fnD, ev_plus, ev_sub, ev_iB, ev_toB, ev_not, ev_neg, ev_isN, ev_notN, ev_isB, ev_int, ev_abs, ev_max, ev_min, ev_eqI, ev_neI, Ms.isNon, Option.some.injEq, exists_eq_left', List.getElem?_cons_zero, List.getElem?_cons_succ, List.set_cons_zero, List.set_cons_succ, List.map_cons, List.map_nil, List.cons_append, List.nil_append, List.length_cons, List.length_nil, List.reduceReplicate, Nat.reduceAdd, Nat.reduceSub, Bool.not_true, Bool.not_false, Bool.false_eq_true, Bool.true_eq_false, if_true, if_false, decide_true, decide_false, D.int.injEq, D.bl.injEq, D.ref.injEq, exists_and_left, and_self])
end K23

end
section
set_option Elab.async false
set_option linter.all false
set_option maxRecDepth 100000
set_option maxHeartbeats 4000000
namespace K23
open PySem PySem.Spec PyProof.Rows L2 Ms
open Poly (dot inv tb share shares wts lp knowns newton subsF chips In8 nthD firsts)
abbrev inr (a : Int) : Prop := -(2 ^ 64) < a ∧ a < 2 ^ 64
/-! ### the program's weights -/
def SHo (S : List Int) (a one : Int) (bx : Sto) (sh : D) (cb : Nat) (T : List Int × (Int × Int)) (δ : List (Option D)) (st : Sto) : Prop := st = bx ∧ tb a one T.1 T.2 = tb a one S (1, 1) ∧ (0 ≤ T.2.1 ∧ T.2.1 < 257 ∧ 0 ≤ T.2.2 ∧ T.2.2 < 257) ∧ ∃ x6, δ = [some (.lst (S.map D.int)), some (.int a), some (.ref cb), some (.int one), some (.int T.2.1), some (.int T.2.2), x6]
def SHi (S : List Int) (a : Int) (bx : Sto) (i : Nat) (δ : List (Option D)) (st : Sto) : Prop := st = bx ++ [.lst (((S.take i).map (share S a)).map D.int)] ∧ ∃ x3 x4 x5 x6, δ = [some (.lst (S.map D.int)), some (.int a), some (.ref bx.length), x3, x4, x5, x6]
theorem map_get {S : List Int} {i : Nat} {d : D} (h : (S.map D.int)[i]? = some d) : ∃ y, S[i]? = some y ∧ d = .int y := by
  rw [List.getElem?_map] at h
  cases hq : S[i]? with
  | none => rw [hq] at h; cases h
  | some y => rw [hq] at h; exact ⟨y, rfl, (Option.some.inj h).symm⟩
theorem shares_ok {S : List Int} {a : Int} (h8 : S.length ≤ 8) (hS : ∀ y ∈ S, In8 y) (ha : In8 a) (bx : Sto) : W (m__shares [.lst (S.map D.int), .int a] bx) (fun r st => r = .lst ((shares S a).map D.int) ∧ st = bx ++ [.dead]) NoE := by
  unfold m__shares S__shares N__shares
  rw [W_noErr, W_fnD, WS_seq, WS_set]
  simp only [WS_next, W_B, W_f1, W_f2, W_fA, W_cons, W_pur, W_var, W_not, W_ifT, W_ifB, W_call, W_callK, W_chain, W_wk, W_sl, W_po, W_poN, W_ok, W_err, W_noErr, W_fnD, ev_plus, ev_sub, ev_iB, ev_toB, ev_not, ev_neg, ev_isN, ev_notN, ev_isB, ev_int, ev_abs, ev_max, ev_min, ev_eqI, ev_neI, Ms.isNon, Option.some.injEq, exists_eq_left', List.getElem?_cons_zero, List.getElem?_cons_succ, List.set_cons_zero, List.set_cons_succ, List.map_cons, List.map_nil, List.cons_append, List.nil_append, List.length_cons, List.length_nil, List.reduceReplicate, Nat.reduceAdd, Nat.reduceSub, Bool.not_true, Bool.not_false, Bool.false_eq_true, Bool.true_eq_false, if_true, if_false, decide_true, decide_false, D.int.injEq, D.bl.injEq, D.ref.injEq, exists_and_left, W_new]
  refine ⟨by decide, ?_⟩
  rw [WS_seq, WS_for]
  have wl : wlk (.lst (S.map D.int)) = some (S.map D.int) := rfl
  simp only [WS_next, W_B, W_f1, W_f2, W_fA, W_cons, W_pur, W_var, W_not, W_ifT, W_ifB, W_call, W_callK, W_chain, W_wk, W_sl, W_po, W_poN, W_ok, W_err, W_noErr, W_fnD, ev_plus, ev_sub, ev_iB, ev_toB, ev_not, ev_neg, ev_isN, ev_notN, ev_isB, ev_int, ev_abs, ev_max, ev_min, ev_eqI, ev_neI, Ms.isNon, Option.some.injEq, exists_eq_left', List.getElem?_cons_zero, List.getElem?_cons_succ, List.set_cons_zero, List.set_cons_succ, List.map_cons, List.map_nil, List.cons_append, List.nil_append, List.length_cons, List.length_nil, List.reduceReplicate, Nat.reduceAdd, Nat.reduceSub, Bool.not_true, Bool.not_false, Bool.false_eq_true, Bool.true_eq_false, if_true, if_false, decide_true, decide_false, D.int.injEq, D.bl.injEq, D.ref.injEq, exists_and_left, wl]
  refine for_rule (fun i δ st => SHi S a bx i δ st) ⟨rfl, _, _, _, _, rfl⟩ ?_ ?_
  · rintro δ st ⟨rfl, x3, x4, x5, x6, rfl⟩
    rw [WS_seq, WS_frz]
    refine ⟨bx.length, _, rfl, at_end rfl, ?_⟩
    rw [WS_seq, WS_ret]
    simp only [WS_next, W_B, W_f1, W_f2, W_fA, W_cons, W_pur, W_var, W_not, W_ifT, W_ifB, W_call, W_callK, W_chain, W_wk, W_sl, W_po, W_poN, W_ok, W_err, W_noErr, W_fnD, ev_plus, ev_sub, ev_iB, ev_toB, ev_not, ev_neg, ev_isN, ev_notN, ev_isB, ev_int, ev_abs, ev_max, ev_min, ev_eqI, ev_neI, Ms.isNon, Option.some.injEq, exists_eq_left', List.getElem?_cons_zero, List.getElem?_cons_succ, List.set_cons_zero, List.set_cons_succ, List.map_cons, List.map_nil, List.cons_append, List.nil_append, List.length_cons, List.length_nil, List.reduceReplicate, Nat.reduceAdd, Nat.reduceSub, Bool.not_true, Bool.not_false, Bool.false_eq_true, Bool.true_eq_false, if_true, if_false, decide_true, decide_false, D.int.injEq, D.bl.injEq, D.ref.injEq, exists_and_left, List.length_map, List.take_length]
    exact ⟨rfl, by simp⟩
  · rintro i d δ st hd ⟨rfl, x3, x4, x5, x6, rfl⟩
    obtain ⟨one, hone, rfl⟩ := map_get hd
    have o8 := hS one (List.mem_of_getElem? hone)
    refine ⟨_, rfl, ?_⟩
    rw [WS_seq, WS_set]
    simp only [WS_next, W_B, W_f1, W_f2, W_fA, W_cons, W_pur, W_var, W_not, W_ifT, W_ifB, W_call, W_callK, W_chain, W_wk, W_sl, W_po, W_poN, W_ok, W_err, W_noErr, W_fnD, ev_plus, ev_sub, ev_iB, ev_toB, ev_not, ev_neg, ev_isN, ev_notN, ev_isB, ev_int, ev_abs, ev_max, ev_min, ev_eqI, ev_neI, Ms.isNon, Option.some.injEq, exists_eq_left', List.getElem?_cons_zero, List.getElem?_cons_succ, List.set_cons_zero, List.set_cons_succ, List.map_cons, List.map_nil, List.cons_append, List.nil_append, List.length_cons, List.length_nil, List.reduceReplicate, Nat.reduceAdd, Nat.reduceSub, Bool.not_true, Bool.not_false, Bool.false_eq_true, Bool.true_eq_false, if_true, if_false, decide_true, decide_false, D.int.injEq, D.bl.injEq, D.ref.injEq, exists_and_left]
    rw [WS_seq, WS_set]
    simp only [WS_next, W_B, W_f1, W_f2, W_fA, W_cons, W_pur, W_var, W_not, W_ifT, W_ifB, W_call, W_callK, W_chain, W_wk, W_sl, W_po, W_poN, W_ok, W_err, W_noErr, W_fnD, ev_plus, ev_sub, ev_iB, ev_toB, ev_not, ev_neg, ev_isN, ev_notN, ev_isB, ev_int, ev_abs, ev_max, ev_min, ev_eqI, ev_neI, Ms.isNon, Option.some.injEq, exists_eq_left', List.getElem?_cons_zero, List.getElem?_cons_succ, List.set_cons_zero, List.set_cons_succ, List.map_cons, List.map_nil, List.cons_append, List.nil_append, List.length_cons, List.length_nil, List.reduceReplicate, Nat.reduceAdd, Nat.reduceSub, Bool.not_true, Bool.not_false, Bool.false_eq_true, Bool.true_eq_false, if_true, if_false, decide_true, decide_false, D.int.injEq, D.bl.injEq, D.ref.injEq, exists_and_left]
    rw [WS_seq, WS_for]
    simp only [WS_next, W_B, W_f1, W_f2, W_fA, W_cons, W_pur, W_var, W_not, W_ifT, W_ifB, W_call, W_callK, W_chain, W_wk, W_sl, W_po, W_poN, W_ok, W_err, W_noErr, W_fnD, ev_plus, ev_sub, ev_iB, ev_toB, ev_not, ev_neg, ev_isN, ev_notN, ev_isB, ev_int, ev_abs, ev_max, ev_min, ev_eqI, ev_neI, Ms.isNon, Option.some.injEq, exists_eq_left', List.getElem?_cons_zero, List.getElem?_cons_succ, List.set_cons_zero, List.set_cons_succ, List.map_cons, List.map_nil, List.cons_append, List.nil_append, List.length_cons, List.length_nil, List.reduceReplicate, Nat.reduceAdd, Nat.reduceSub, Bool.not_true, Bool.not_false, Bool.false_eq_true, Bool.true_eq_false, if_true, if_false, decide_true, decide_false, D.int.injEq, D.bl.injEq, D.ref.injEq, exists_and_left, wl]
    generalize hbx1 : bx ++ [Cell.lst (((S.take i).map (share S a)).map D.int)] = bx1
    refine for_rule (fun j δ st => ∃ T, SHo S a one bx1 (.non) bx.length T δ st ∧ T.1 = S.drop j) ⟨(S, (1, 1)), ⟨rfl, rfl, (show (0 : Int) ≤ 1 ∧ (1 : Int) < 257 ∧ (0 : Int) ≤ 1 ∧ (1 : Int) < 257 by decide), _, rfl⟩, by simp⟩ ?_ ?_
    · rintro δ st ⟨T, ⟨rfl, t1, ⟨t2, t3, t4, t5⟩, x6, rfl⟩, t6⟩
      rw [List.length_map, List.drop_length] at t6
      rw [t6] at t1
      have t1 : T.2 = tb a one S (1, 1) := t1
      have g1 : st[bx.length]? = some (.lst (((S.take i).map (share S a)).map D.int)) := by rw [← hbx1]; exact at_end rfl
      rw [WS_seq, WS_app]
      have iv : inr (inv (T.2.2 % 257)) := by
        unfold inv
        have := Int.emod_nonneg ((T.2.2 % 257) ^ 255) (show (257 : Int) ≠ 0 by decide)
        have := Int.emod_lt_of_pos ((T.2.2 % 257) ^ 255) (show (0 : Int) < 257 by decide)
        exact ⟨by omega, by omega⟩
      have m257 : T.2.2 % 257 = T.2.2 := Int.emod_eq_of_lt t4 t5
      simp only [WS_next, W_B, W_f1, W_f2, W_fA, W_cons, W_pur, W_var, W_not, W_ifT, W_ifB, W_call, W_callK, W_chain, W_wk, W_sl, W_po, W_poN, W_ok, W_err, W_noErr, W_fnD, ev_plus, ev_sub, ev_iB, ev_toB, ev_not, ev_neg, ev_isN, ev_notN, ev_isB, ev_int, ev_abs, ev_max, ev_min, ev_eqI, ev_neI, Ms.isNon, Option.some.injEq, exists_eq_left', List.getElem?_cons_zero, List.getElem?_cons_succ, List.set_cons_zero, List.set_cons_succ, List.map_cons, List.map_nil, List.cons_append, List.nil_append, List.length_cons, List.length_nil, List.reduceReplicate, Nat.reduceAdd, Nat.reduceSub, Bool.not_true, Bool.not_false, Bool.false_eq_true, Bool.true_eq_false, if_true, if_false, decide_true, decide_false, D.int.injEq, D.bl.injEq, D.ref.injEq, exists_and_left, ev_pow3, ev_mulR iv, ev_mod (show (0 : Int) < 257 by decide)]
      refine ⟨_, g1, _, g1, by rw [List.length_map, List.length_map, List.length_take]; omega, ?_⟩
      refine ⟨?_, _, _, _, _, rfl⟩
      rw [← hbx1, List.set_append_right _ _ (Nat.le_refl _), Nat.sub_self, List.set_cons_zero]
      have e : share S a one = T.2.1 * inv (T.2.2 % 257) % 257 := by
        rw [m257]
        unfold share
        rw [← t1]
      rw [← e, List.take_add_one, hone]
      simp
    · rintro j d δ st hd2 ⟨T, ⟨rfl, t1, ⟨t2, t3, t4, t5⟩, x6, rfl⟩, t6⟩
      obtain ⟨o, ho, rfl⟩ := map_get hd2
      have q8 := hS o (List.mem_of_getElem? ho)
      have dj : S.drop j = o :: S.drop (j + 1) := by
        obtain ⟨hlt, e⟩ := List.getElem?_eq_some_iff.mp ho
        rw [← e]
        exact List.drop_eq_getElem_cons hlt
      refine ⟨_, rfl, ?_⟩
      rw [WS_seq, WS_if]
      simp only [WS_next, W_B, W_f1, W_f2, W_fA, W_cons, W_pur, W_var, W_not, W_ifT, W_ifB, W_call, W_callK, W_chain, W_wk, W_sl, W_po, W_poN, W_ok, W_err, W_noErr, W_fnD, ev_plus, ev_sub, ev_iB, ev_toB, ev_not, ev_neg, ev_isN, ev_notN, ev_isB, ev_int, ev_abs, ev_max, ev_min, ev_eqI, ev_neI, Ms.isNon, Option.some.injEq, exists_eq_left', List.getElem?_cons_zero, List.getElem?_cons_succ, List.set_cons_zero, List.set_cons_succ, List.map_cons, List.map_nil, List.cons_append, List.nil_append, List.length_cons, List.length_nil, List.reduceReplicate, Nat.reduceAdd, Nat.reduceSub, Bool.not_true, Bool.not_false, Bool.false_eq_true, Bool.true_eq_false, if_true, if_false, decide_true, decide_false, D.int.injEq, D.bl.injEq, D.ref.injEq, exists_and_left]
      rw [t6, dj] at t1
      have r1 : inr (a - o) := by unfold In8 at ha q8; exact ⟨by omega, by omega⟩
      have r2 : inr (one - o) := by unfold In8 at o8 q8; exact ⟨by omega, by omega⟩
      by_cases q : o = one
      · have qb : (!(o == one)) = false := by simp [q]
        simp only [WS_seq, WS_if, WS_set, WS_ret, WS_drop, WS_raise, WS_next, WS_unp, WS_par, WS_for, W_B, W_f1, W_f2, W_fA, W_cons, W_pur, W_var, W_not, W_ifT, W_ifB, W_call, W_callK, W_chain, W_wk, W_sl, W_po, W_poN, W_ok, W_err, W_noErr, W_fnD, ev_plus, ev_sub, ev_iB, ev_toB, ev_not, ev_neg, ev_isN, ev_notN, ev_isB, ev_int, ev_abs, ev_max, ev_min, ev_eqI, ev_neI, Ms.isNon, Option.some.injEq, exists_eq_left', List.getElem?_cons_zero, List.getElem?_cons_succ, List.set_cons_zero, List.set_cons_succ, List.map_cons, List.map_nil, List.cons_append, List.nil_append, List.length_cons, List.length_nil, List.reduceReplicate, Nat.reduceAdd, Nat.reduceSub, Bool.not_true, Bool.not_false, Bool.false_eq_true, Bool.true_eq_false, if_true, if_false, decide_true, decide_false, D.int.injEq, D.bl.injEq, D.ref.injEq, exists_and_left, qb]
        have t1' : tb a one (S.drop (j + 1)) T.2 = tb a one S (1, 1) := by
          rw [← t1]
          show _ = tb a one (S.drop (j + 1)) (if o = one then T.2 else _)
          rw [if_pos q]
        exact ⟨(S.drop (j + 1), T.2), ⟨rfl, t1', ⟨t2, t3, t4, t5⟩, _, rfl⟩, rfl⟩
      · have qb : (!(o == one)) = true := by simp [q]
        simp only [WS_seq, WS_if, WS_set, WS_ret, WS_drop, WS_raise, WS_next, WS_unp, WS_par, WS_for, W_B, W_f1, W_f2, W_fA, W_cons, W_pur, W_var, W_not, W_ifT, W_ifB, W_call, W_callK, W_chain, W_wk, W_sl, W_po, W_poN, W_ok, W_err, W_noErr, W_fnD, ev_plus, ev_sub, ev_iB, ev_toB, ev_not, ev_neg, ev_isN, ev_notN, ev_isB, ev_int, ev_abs, ev_max, ev_min, ev_eqI, ev_neI, Ms.isNon, Option.some.injEq, exists_eq_left', List.getElem?_cons_zero, List.getElem?_cons_succ, List.set_cons_zero, List.set_cons_succ, List.map_cons, List.map_nil, List.cons_append, List.nil_append, List.length_cons, List.length_nil, List.reduceReplicate, Nat.reduceAdd, Nat.reduceSub, Bool.not_true, Bool.not_false, Bool.false_eq_true, Bool.true_eq_false, if_true, if_false, decide_true, decide_false, D.int.injEq, D.bl.injEq, D.ref.injEq, exists_and_left, qb, ev_mulR r1, ev_mulR r2, ev_mod (show (0 : Int) < 257 by decide)]
        have t1' : tb a one (S.drop (j + 1)) (T.2.1 * (a - o) % 257, T.2.2 * (one - o) % 257) = tb a one S (1, 1) := by
          rw [← t1]
          show _ = tb a one (S.drop (j + 1)) (if o = one then T.2 else _)
          rw [if_neg q]
        have e1 := Int.emod_nonneg (T.2.1 * (a - o)) (show (257 : Int) ≠ 0 by decide)
        have e2 := Int.emod_lt_of_pos (T.2.1 * (a - o)) (show (0 : Int) < 257 by decide)
        have e3 := Int.emod_nonneg (T.2.2 * (one - o)) (show (257 : Int) ≠ 0 by decide)
        have e4 := Int.emod_lt_of_pos (T.2.2 * (one - o)) (show (0 : Int) < 257 by decide)
        exact ⟨(S.drop (j + 1), (T.2.1 * (a - o) % 257, T.2.2 * (one - o) % 257)), ⟨rfl, t1', ⟨e1, e2, e3, e4⟩, _, rfl⟩, rfl⟩
end K23

end
section
set_option Elab.async false
set_option linter.all false
set_option maxRecDepth 100000
set_option maxHeartbeats 4000000
namespace K23
open PySem PySem.Spec PyProof.Rows L2 Ms
open Poly (dot inv tb share shares wts lp knowns newton subsF chips In8 nthD firsts)
theorem ev_inI {a : Int} {S : List Int} {bx : Sto} : cIn false bx (.int a) (.lst (S.map D.int)) = some (.bl (decide (a ∈ S))) := by
  have fl : (S.map D.int).all D.flat = true := List.all_eq_true.mpr fun d hd => by
    obtain ⟨k, _, rfl⟩ := List.mem_map.mp hd
    rfl
  have an : ((S.map D.int).any fun y => eqF y (.int a)) = decide (a ∈ S) := by
    rw [Bool.eq_iff_iff, List.any_eq_true, decide_eq_true_eq]
    constructor
    · rintro ⟨d, hd, e⟩
      obtain ⟨k, hk, rfl⟩ := List.mem_map.mp hd
      have : k = a := by simpa [eqF] using e
      rw [← this]; exact hk
    · intro h
      exact ⟨.int a, List.mem_map.mpr ⟨a, h, rfl⟩, by simp [eqF]⟩
  show (if (D.flat (.int a) && (S.map D.int).all D.flat) = true then some (D.bl (if false = true then _ else ((S.map D.int).any fun y => eqF y (.int a)))) else none) = _
  rw [fl, an]
  simp [D.flat]
/-- lines of one cell each: at the chips S the values val -/
structure Lines (L : D) (S : List Int) (val : Int → Int) : Prop where
  sq : ∃ l, Seq2 L l ∧ ∀ x ∈ S, l[x.toNat]? = some (.tup [.int (val x)])
  sub : S ∈ subsF chips
  rng : ∀ x ∈ S, 0 ≤ val x ∧ val x < 257
theorem subs8 {S : List Int} (hS : S ∈ subsF chips) : S.length ≤ 8 := by
  have h : ∀ S ∈ subsF chips, S.length ≤ 8 := by decide +kernel
  exact h S hS
theorem subs_in8 {S : List Int} (h : S ∈ subsF chips) : ∀ y ∈ S, In8 y := fun y hy => Poly.chips_in y ((Poly.subs_mem h).1 y hy)
theorem Lines.ix {L : D} {S : List Int} {val : Int → Int} (h : Lines L S val) {x : Int} (hx : x ∈ S) (bx : Sto) : cIx bx L (.int x) = some (.tup [.int (val x)]) := by
  obtain ⟨l, h1, h2⟩ := h.sq
  rw [ev_ix (h1.vs bx)]
  exact atI_int (subs_in8 h.sub x hx).1 (h2 x hx)
theorem dot_ind : ∀ {S : List Int} {a : Int} {f : Int → Int}, S.Nodup → a ∈ S → dot (S.map fun x => if x = a then 1 else 0) (S.map f) = f a
  | y :: r, a, f, nd, h => by
    obtain ⟨n1, n2⟩ := List.nodup_cons.mp nd
    show (if y = a then 1 else 0) * f y + dot (r.map fun x => if x = a then 1 else 0) (r.map f) = f a
    by_cases q : y = a
    · subst q
      have z : ∀ (l : List Int), y ∉ l → dot (l.map fun x => if x = y then 1 else 0) (l.map f) = 0 := by
        intro l
        induction l with
        | nil => intro _; rfl
        | cons w t ih =>
          intro hw
          have a1 : y ≠ w := fun e => hw (e ▸ List.mem_cons_self)
          have a2 : y ∉ t := fun e => hw (List.mem_cons_of_mem _ e)
          show (if w = y then 1 else 0) * f w + dot (t.map fun x => if x = y then 1 else 0) (t.map f) = 0
          rw [ih a2, if_neg (Ne.symm a1)]
          simp
      rw [z r n1, if_pos rfl]
      omega
    · have hr : a ∈ r := by
        rcases List.mem_cons.mp h with h | h
        · exact absurd h.symm q
        · exact h
      rw [dot_ind n2 hr, if_neg q]
      omega
theorem dot_take {v w : List Int} (h : v.length = w.length) {i : Nat} {a b : Int} (ha : v[i]? = some a) (hb : w[i]? = some b) : dot (v.take (i + 1)) (w.take (i + 1)) = dot (v.take i) (w.take i) + a * b := by
  have key : ∀ (v w : List Int) (a b : Int), v.length = w.length → dot (v ++ [a]) (w ++ [b]) = dot v w + a * b := by
    intro v
    induction v with
    | nil =>
      intro w a b h
      cases w with
      | nil => simp [dot]
      | cons _ _ => simp at h
    | cons x r ih =>
      intro w a b h
      cases w with
      | nil => simp at h
      | cons y s =>
        have := ih s a b (by simpa using h)
        simp only [List.cons_append, dot, this]
        omega
  rw [List.take_add_one, List.take_add_one, ha, hb]
  exact key _ _ _ _ (by rw [List.length_take, List.length_take, h])
def LA (L : D) (S : List Int) (a : Int) (v : List Int) (bx : Sto) (i : Nat) (δ : List (Option D)) (st : Sto) : Prop := st = bx ∧ ∃ x4 x5 x6 x7, δ = [some L, some (.lst (S.map D.int)), some (.int a), some (.lst [.int (dot ((shares S a).take i) (v.take i))]), x4, x5, x6, x7]
theorem zip_ints : ∀ (a b : List Int), zipD (a.map D.int) (b.map D.int) = (a.zip b).map fun p => .tup [.int p.1, .int p.2]
  | [], _ => by simp [zipD]
  | _ :: _, [] => by simp [zipD]
  | x :: r, y :: s => by
    show D.tup [.int x, .int y] :: zipD (r.map D.int) (s.map D.int) = _
    rw [zip_ints r s]
    rfl
theorem line_ok {L : D} {S : List Int} {val : Int → Int} {a : Int} (h : Lines L S val) (hne : S ≠ []) (ha : In8 a) (bx : Sto) :
    W (m__line_at [L, .lst (S.map D.int), .int a] bx) (fun r st => r = .tup [.int (dot (wts S a) (S.map val) % 257)] ∧ ∃ ys, st = bx ++ ys) NoE := by
  have nd : S.Nodup := (Poly.subs_mem h.sub).2 (by decide)
  have h8 := subs8 h.sub
  have in8 := subs_in8 h.sub
  unfold m__line_at S__line_at N__line_at
  rw [W_noErr, W_fnD, WS_seq, WS_if]
  simp only [WS_next, W_B, W_f1, W_f2, W_fA, W_cons, W_pur, W_var, W_not, W_ifT, W_ifB, W_call, W_callK, W_chain, W_wk, W_sl, W_po, W_poN, W_ok, W_err, W_noErr, W_fnD, ev_plus, ev_sub, ev_iB, ev_toB, ev_not, ev_neg, ev_isN, ev_notN, ev_isB, ev_int, ev_abs, ev_max, ev_min, ev_eqI, ev_neI, Ms.isNon, Option.some.injEq, exists_eq_left', List.getElem?_cons_zero, List.getElem?_cons_succ, List.set_cons_zero, List.set_cons_succ, List.map_cons, List.map_nil, List.cons_append, List.nil_append, List.length_cons, List.length_nil, List.reduceReplicate, Nat.reduceAdd, Nat.reduceSub, Bool.not_true, Bool.not_false, Bool.false_eq_true, Bool.true_eq_false, if_true, if_false, decide_true, decide_false, D.int.injEq, D.bl.injEq, D.ref.injEq, exists_and_left, ev_inI]
  by_cases q : a ∈ S
  · have e : dot (wts S a) (S.map val) % 257 = val a := by
      unfold wts
      rw [if_pos q, dot_ind nd q]
      have := h.rng a q
      exact Int.emod_eq_of_lt this.1 this.2
    rw [e]
    simp only [WS_seq, WS_if, WS_set, WS_ret, WS_drop, WS_raise, WS_next, WS_unp, WS_par, WS_for, W_B, W_f1, W_f2, W_fA, W_cons, W_pur, W_var, W_not, W_ifT, W_ifB, W_call, W_callK, W_chain, W_wk, W_sl, W_po, W_poN, W_ok, W_err, W_noErr, W_fnD, ev_plus, ev_sub, ev_iB, ev_toB, ev_not, ev_neg, ev_isN, ev_notN, ev_isB, ev_int, ev_abs, ev_max, ev_min, ev_eqI, ev_neI, Ms.isNon, Option.some.injEq, exists_eq_left', List.getElem?_cons_zero, List.getElem?_cons_succ, List.set_cons_zero, List.set_cons_succ, List.map_cons, List.map_nil, List.cons_append, List.nil_append, List.length_cons, List.length_nil, List.reduceReplicate, Nat.reduceAdd, Nat.reduceSub, Bool.not_true, Bool.not_false, Bool.false_eq_true, Bool.true_eq_false, if_true, if_false, decide_true, decide_false, D.int.injEq, D.bl.injEq, D.ref.injEq, exists_and_left, q, h.ix q]
    exact ⟨trivial, [], by simp⟩
  · obtain ⟨s0, S', hS⟩ : ∃ s0 S', S = s0 :: S' := by
      cases S with
      | nil => exact absurd rfl hne
      | cons x r => exact ⟨x, r, rfl⟩
    have m0 : s0 ∈ S := by rw [hS]; exact List.mem_cons_self
    have c0 : ∀ bx, cIx bx (.lst (S.map D.int)) (.int 0) = some (.int s0) := fun bx => by
      rw [ev_ix vs_lst]
      exact atI_nat (k := 0) (by rw [hS]; rfl)
    simp only [q, decide_false, Bool.false_eq_true, if_false, WS_next]
    rw [WS_seq, WS_set]
    have rp : ∀ bx : Sto, cRep (bx ++ [.lst [.int 0]]) (.ref bx.length) (.int 1) = some (.lst [.int 0]) := fun bx => by
      have e : (bx ++ [Cell.lst [.int 0]])[bx.length]? = some (.lst [.int 0]) := at_end rfl
      show (match (bx ++ [Cell.lst [D.int 0]])[bx.length]? with
        | some (.lst l) => if -(2 ^ 63) ≤ (1 : Int) ∧ (1 : Int) < 2 ^ 63 ∧ l.length * (1 : Int).toNat ≤ 1000000 then some (D.lst (List.replicate (1 : Int).toNat l).flatten) else none
        | _ => none) = _
      rw [e]
      exact if_pos ⟨by decide, by decide, by decide⟩
    have ln1 : ∀ (bx : Sto) (i : Int), cLen bx [D.tup [.int i]] = some (.int 1) := fun bx i => ev_len vs_tup
    simp only [WS_next, W_B, W_f1, W_f2, W_fA, W_cons, W_pur, W_var, W_not, W_ifT, W_ifB, W_call, W_callK, W_chain, W_wk, W_sl, W_po, W_poN, W_ok, W_err, W_noErr, W_fnD, ev_plus, ev_sub, ev_iB, ev_toB, ev_not, ev_neg, ev_isN, ev_notN, ev_isB, ev_int, ev_abs, ev_max, ev_min, ev_eqI, ev_neI, Ms.isNon, Option.some.injEq, exists_eq_left', List.getElem?_cons_zero, List.getElem?_cons_succ, List.set_cons_zero, List.set_cons_succ, List.map_cons, List.map_nil, List.cons_append, List.nil_append, List.length_cons, List.length_nil, List.reduceReplicate, Nat.reduceAdd, Nat.reduceSub, Bool.not_true, Bool.not_false, Bool.false_eq_true, Bool.true_eq_false, if_true, if_false, decide_true, decide_false, D.int.injEq, D.bl.injEq, D.ref.injEq, exists_and_left, W_new, c0, h.ix m0, ln1, rp]
    refine ⟨by decide, ?_⟩
    rw [WS_seq, WS_for, W_zipX]
    simp only [WS_next, W_B, W_f1, W_f2, W_fA, W_cons, W_pur, W_var, W_not, W_ifT, W_ifB, W_call, W_callK, W_chain, W_wk, W_sl, W_po, W_poN, W_ok, W_err, W_noErr, W_fnD, ev_plus, ev_sub, ev_iB, ev_toB, ev_not, ev_neg, ev_isN, ev_notN, ev_isB, ev_int, ev_abs, ev_max, ev_min, ev_eqI, ev_neI, Ms.isNon, Option.some.injEq, exists_eq_left', List.getElem?_cons_zero, List.getElem?_cons_succ, List.set_cons_zero, List.set_cons_succ, List.map_cons, List.map_nil, List.cons_append, List.nil_append, List.length_cons, List.length_nil, List.reduceReplicate, Nat.reduceAdd, Nat.reduceSub, Bool.not_true, Bool.not_false, Bool.false_eq_true, Bool.true_eq_false, if_true, if_false, decide_true, decide_false, D.int.injEq, D.bl.injEq, D.ref.injEq, exists_and_left]
    refine (shares_ok h8 in8 ha _).to fun r st ⟨e1, e2⟩ => ?_
    subst e1 e2
    refine ⟨_, _, .inl rfl, ?_⟩
    have ls : (shares S a).length = S.length := by simp [shares]
    have zl : (zipD ((shares S a).map D.int) (S.map D.int)).length = S.length := by rw [zip_len, List.length_map, List.length_map, ls, Nat.min_self]
    generalize hbx : bx ++ [Cell.lst [D.int 0]] ++ [Cell.dead] = bx'
    have hb' : ∃ ys, bx' = bx ++ ys := ⟨_, by rw [← hbx, List.append_assoc]⟩
    refine for_rule (fun i δ st => LA L S a (S.map val) bx' i δ st) ⟨rfl, none, none, none, none, rfl⟩ ?_ ?_
    · rintro δ st ⟨rfl, x4, x5, x6, x7, rfl⟩
      have tk : (shares S a).take S.length = shares S a := List.take_of_length_le (by omega)
      have tk2 : (S.map val).take S.length = S.map val := List.take_of_length_le (by simp)
      rw [zl, tk, tk2]
      rw [WS_seq, WS_ret, W_fA, W_cons, W_lc, W_lcA]
      have wl : ∀ i : Int, wlk (.lst [.int i]) = some ([i].map D.int) := fun _ => rfl
      simp only [WS_next, W_B, W_f1, W_f2, W_fA, W_cons, W_pur, W_var, W_not, W_ifT, W_ifB, W_call, W_callK, W_chain, W_wk, W_sl, W_po, W_poN, W_ok, W_err, W_noErr, W_fnD, ev_plus, ev_sub, ev_iB, ev_toB, ev_not, ev_neg, ev_isN, ev_notN, ev_isB, ev_int, ev_abs, ev_max, ev_min, ev_eqI, ev_neI, Ms.isNon, Option.some.injEq, exists_eq_left', List.getElem?_cons_zero, List.getElem?_cons_succ, List.set_cons_zero, List.set_cons_succ, List.map_cons, List.map_nil, List.cons_append, List.nil_append, List.length_cons, List.length_nil, List.reduceReplicate, Nat.reduceAdd, Nat.reduceSub, Bool.not_true, Bool.not_false, Bool.false_eq_true, Bool.true_eq_false, if_true, if_false, decide_true, decide_false, D.int.injEq, D.bl.injEq, D.ref.injEq, exists_and_left, wl]
      refine ⟨by decide, ?_⟩
      rw [show [D.int (dot (shares S a) (S.map val))] = [dot (shares S a) (S.map val)].map D.int from rfl, lcI1 (g := fun i => i % 257) fun w hw => W.eq (by
        simp only [unset, List.foldl_cons, List.foldl_nil, WS_next, W_B, W_f1, W_f2, W_fA, W_cons, W_pur, W_var, W_not, W_ifT, W_ifB, W_call, W_callK, W_chain, W_wk, W_sl, W_po, W_poN, W_ok, W_err, W_noErr, W_fnD, ev_plus, ev_sub, ev_iB, ev_toB, ev_not, ev_neg, ev_isN, ev_notN, ev_isB, ev_int, ev_abs, ev_max, ev_min, ev_eqI, ev_neI, Ms.isNon, Option.some.injEq, exists_eq_left', List.getElem?_cons_zero, List.getElem?_cons_succ, List.set_cons_zero, List.set_cons_succ, List.map_cons, List.map_nil, List.cons_append, List.nil_append, List.length_cons, List.length_nil, List.reduceReplicate, Nat.reduceAdd, Nat.reduceSub, Bool.not_true, Bool.not_false, Bool.false_eq_true, Bool.true_eq_false, if_true, if_false, decide_true, decide_false, D.int.injEq, D.bl.injEq, D.ref.injEq, exists_and_left, ev_mod (show (0 : Int) < 257 by decide), and_self]), W_ok]
      have w1 : wts S a = shares S a := by unfold wts; rw [if_neg q]
      rw [w1]
      exact ⟨_, ev_tupOfL, rfl, hb'⟩
    · rintro i d δ st hd ⟨rfl, x4, x5, x6, x7, rfl⟩
      obtain ⟨p, q2, rfl, hp, hq⟩ := Ms.zip_get hd
      obtain ⟨sh, hsh, rfl⟩ := map_get hp
      obtain ⟨ch, hch, rfl⟩ := map_get hq
      have mc := List.mem_of_getElem? hch
      have rv := h.rng ch mc
      have r1 : inr (val ch) := ⟨by omega, by omega⟩
      refine ⟨_, rfl, ?_⟩
      rw [WS_seq, WS_set, W_lc, W_lcA, W_zipX]
      simp only [WS_next, W_B, W_f1, W_f2, W_fA, W_cons, W_pur, W_var, W_not, W_ifT, W_ifB, W_call, W_callK, W_chain, W_wk, W_sl, W_po, W_poN, W_ok, W_err, W_noErr, W_fnD, ev_plus, ev_sub, ev_iB, ev_toB, ev_not, ev_neg, ev_isN, ev_notN, ev_isB, ev_int, ev_abs, ev_max, ev_min, ev_eqI, ev_neI, Ms.isNon, Option.some.injEq, exists_eq_left', List.getElem?_cons_zero, List.getElem?_cons_succ, List.set_cons_zero, List.set_cons_succ, List.map_cons, List.map_nil, List.cons_append, List.nil_append, List.length_cons, List.length_nil, List.reduceReplicate, Nat.reduceAdd, Nat.reduceSub, Bool.not_true, Bool.not_false, Bool.false_eq_true, Bool.true_eq_false, if_true, if_false, decide_true, decide_false, D.int.injEq, D.bl.injEq, D.ref.injEq, exists_and_left, h.ix mc]
      refine ⟨[.int (dot ((shares S a).take i) ((S.map val).take i))], [.int (val ch)], .inr (.inr rfl), ?_⟩
      have zz : ∀ t : Int, zipD [D.int t] [D.int (val ch)] = [D.tup [.int t, .int (val ch)]] := fun _ => rfl
      rw [zz]
      refine ⟨by show 1 ≤ 1000000; decide, ?_⟩
      rw [lc_pure (c := fun _ => true) (f := fun d => match d with | .tup [.int t, .int v] => .int (t + sh * v) | _ => .non) fun x hx => ⟨[some L, some (.lst (S.map D.int)), some (.int a), some (.lst [.int (dot ((shares S a).take i) ((S.map val).take i))]), some (.int sh), some (.int ch), some (.int (dot ((shares S a).take i) ((S.map val).take i))), some (.int (val ch))], by
        have := List.mem_singleton.mp hx
        subst this
        rfl, rfl, fun _ => W.eq (by
        have := List.mem_singleton.mp hx
        subst this
        simp only [WS_next, W_B, W_f1, W_f2, W_fA, W_cons, W_pur, W_var, W_not, W_ifT, W_ifB, W_call, W_callK, W_chain, W_wk, W_sl, W_po, W_poN, W_ok, W_err, W_noErr, W_fnD, ev_plus, ev_sub, ev_iB, ev_toB, ev_not, ev_neg, ev_isN, ev_notN, ev_isB, ev_int, ev_abs, ev_max, ev_min, ev_eqI, ev_neI, Ms.isNon, Option.some.injEq, exists_eq_left', List.getElem?_cons_zero, List.getElem?_cons_succ, List.set_cons_zero, List.set_cons_succ, List.map_cons, List.map_nil, List.cons_append, List.nil_append, List.length_cons, List.length_nil, List.reduceReplicate, Nat.reduceAdd, Nat.reduceSub, Bool.not_true, Bool.not_false, Bool.false_eq_true, Bool.true_eq_false, if_true, if_false, decide_true, decide_false, D.int.injEq, D.bl.injEq, D.ref.injEq, exists_and_left, ev_mulR r1, and_self])⟩, W_ok]
      refine ⟨rfl, some (.int sh), some (.int ch), x6, x7, ?_⟩
      have dt := dot_take (v := shares S a) (w := S.map val) (by rw [ls, List.length_map]) hsh (show (S.map val)[i]? = some (val ch) by rw [List.getElem?_map, hch]; rfl)
      rw [dt]
      rfl
end K23

end
section
set_option Elab.async false
set_option linter.all false
set_option maxRecDepth 100000
set_option maxHeartbeats 4000000
namespace K23
open PySem PySem.Spec PyProof.Rows L2 Ms
open Poly (dot inv tb share shares wts lp knowns newton subsF chips In8 nthD firsts)
def trn (p : Int × Int) : Int × Int := (p.1 * p.2 % 257, p.2 * p.2 % 257)
def trs : Nat → Int × Int → Int × Int
  | 0, p => p
  | n + 1, p => trn (trs n p)
theorem trs8 : ∀ k : Fin 257, (trs 8 (1, (k.val : Int))).1 = inv (k.val : Int) := by decide +kernel
theorem trs_rng {x : Int} (h0 : 0 ≤ x) (h1 : x < 257) : ∀ n, 0 ≤ (trs n (1, x)).1 ∧ (trs n (1, x)).1 < 257 ∧ 0 ≤ (trs n (1, x)).2 ∧ (trs n (1, x)).2 < 257
  | 0 => ⟨by show (0 : Int) ≤ 1; decide, by show (1 : Int) < 257; decide, h0, h1⟩
  | n + 1 => ⟨Int.emod_nonneg _ (by decide), Int.emod_lt_of_pos _ (by decide), Int.emod_nonneg _ (by decide), Int.emod_lt_of_pos _ (by decide)⟩
theorem inr_small {a : Int} (h0 : 0 ≤ a) (h1 : a < 257) : inr a := ⟨by omega, by omega⟩
theorem turned_ok {x : Int} (h0 : 0 ≤ x) (h1 : x < 257) (bx : Sto) : W (m__law_turned [.int x] bx) (fun r st => r = .int (inv x) ∧ st = bx) NoE := by
  unfold m__law_turned S__law_turned N__law_turned
  rw [W_noErr, W_fnD, WS_seq, WS_par]
  simp only [WS_next, W_B, W_f1, W_f2, W_fA, W_cons, W_pur, W_var, W_not, W_ifT, W_ifB, W_call, W_callK, W_chain, W_wk, W_sl, W_po, W_poN, W_ok, W_err, W_noErr, W_fnD, ev_plus, ev_sub, ev_iB, ev_toB, ev_not, ev_neg, ev_isN, ev_notN, ev_isB, ev_int, ev_abs, ev_max, ev_min, ev_eqI, ev_neI, Ms.isNon, Option.some.injEq, exists_eq_left', List.getElem?_cons_zero, List.getElem?_cons_succ, List.set_cons_zero, List.set_cons_succ, List.map_cons, List.map_nil, List.cons_append, List.nil_append, List.length_cons, List.length_nil, List.reduceReplicate, Nat.reduceAdd, Nat.reduceSub, Bool.not_true, Bool.not_false, Bool.false_eq_true, Bool.true_eq_false, if_true, if_false, decide_true, decide_false, D.int.injEq, D.bl.injEq, D.ref.injEq, exists_and_left, ev_mod (show (0 : Int) < 257 by decide)]
  refine ⟨_, _, rfl, ?_⟩
  rw [WS_seq, WS_for]
  simp only [WS_next, W_B, W_f1, W_f2, W_fA, W_cons, W_pur, W_var, W_not, W_ifT, W_ifB, W_call, W_callK, W_chain, W_wk, W_sl, W_po, W_poN, W_ok, W_err, W_noErr, W_fnD, ev_plus, ev_sub, ev_iB, ev_toB, ev_not, ev_neg, ev_isN, ev_notN, ev_isB, ev_int, ev_abs, ev_max, ev_min, ev_eqI, ev_neI, Ms.isNon, Option.some.injEq, exists_eq_left', List.getElem?_cons_zero, List.getElem?_cons_succ, List.set_cons_zero, List.set_cons_succ, List.map_cons, List.map_nil, List.cons_append, List.nil_append, List.length_cons, List.length_nil, List.reduceReplicate, Nat.reduceAdd, Nat.reduceSub, Bool.not_true, Bool.not_false, Bool.false_eq_true, Bool.true_eq_false, if_true, if_false, decide_true, decide_false, D.int.injEq, D.bl.injEq, D.ref.injEq, exists_and_left, W_rg1]
  refine ⟨_, rfl, by decide, by decide, ?_⟩
  have xm : x % 257 = x := Int.emod_eq_of_lt h0 h1
  rw [xm]
  refine for_rule (fun i δ st => st = bx ∧ ∃ x3, δ = [some (.int x), some (.int (trs i (1, x)).1), some (.int (trs i (1, x)).2), x3]) ⟨rfl, none, rfl⟩ ?_ ?_
  · rintro δ st ⟨rfl, x3, rfl⟩
    rw [WS_seq, WS_ret]
    simp only [WS_next, W_B, W_f1, W_f2, W_fA, W_cons, W_pur, W_var, W_not, W_ifT, W_ifB, W_call, W_callK, W_chain, W_wk, W_sl, W_po, W_poN, W_ok, W_err, W_noErr, W_fnD, ev_plus, ev_sub, ev_iB, ev_toB, ev_not, ev_neg, ev_isN, ev_notN, ev_isB, ev_int, ev_abs, ev_max, ev_min, ev_eqI, ev_neI, Ms.isNon, Option.some.injEq, exists_eq_left', List.getElem?_cons_zero, List.getElem?_cons_succ, List.set_cons_zero, List.set_cons_succ, List.map_cons, List.map_nil, List.cons_append, List.nil_append, List.length_cons, List.length_nil, List.reduceReplicate, Nat.reduceAdd, Nat.reduceSub, Bool.not_true, Bool.not_false, Bool.false_eq_true, Bool.true_eq_false, if_true, if_false, decide_true, decide_false, D.int.injEq, D.bl.injEq, D.ref.injEq, exists_and_left]
    have := trs8 ⟨x.toNat, by omega⟩
    have e : ((x.toNat : Nat) : Int) = x := by omega
    have this : (trs 8 (1, ((x.toNat : Nat) : Int))).1 = inv ((x.toNat : Nat) : Int) := this
    rw [e] at this
    rw [← this]
    exact ⟨rfl, trivial⟩
  · rintro i d δ st hd ⟨rfl, x3, rfl⟩
    obtain ⟨a1, a2, a3, a4⟩ := trs_rng h0 h1 i
    refine ⟨_, rfl, ?_⟩
    rw [WS_seq, WS_set]
    simp only [WS_next, W_B, W_f1, W_f2, W_fA, W_cons, W_pur, W_var, W_not, W_ifT, W_ifB, W_call, W_callK, W_chain, W_wk, W_sl, W_po, W_poN, W_ok, W_err, W_noErr, W_fnD, ev_plus, ev_sub, ev_iB, ev_toB, ev_not, ev_neg, ev_isN, ev_notN, ev_isB, ev_int, ev_abs, ev_max, ev_min, ev_eqI, ev_neI, Ms.isNon, Option.some.injEq, exists_eq_left', List.getElem?_cons_zero, List.getElem?_cons_succ, List.set_cons_zero, List.set_cons_succ, List.map_cons, List.map_nil, List.cons_append, List.nil_append, List.length_cons, List.length_nil, List.reduceReplicate, Nat.reduceAdd, Nat.reduceSub, Bool.not_true, Bool.not_false, Bool.false_eq_true, Bool.true_eq_false, if_true, if_false, decide_true, decide_false, D.int.injEq, D.bl.injEq, D.ref.injEq, exists_and_left, ev_mulR (inr_small a3 a4), ev_mod (show (0 : Int) < 257 by decide)]
    rw [WS_seq, WS_set]
    simp only [WS_next, W_B, W_f1, W_f2, W_fA, W_cons, W_pur, W_var, W_not, W_ifT, W_ifB, W_call, W_callK, W_chain, W_wk, W_sl, W_po, W_poN, W_ok, W_err, W_noErr, W_fnD, ev_plus, ev_sub, ev_iB, ev_toB, ev_not, ev_neg, ev_isN, ev_notN, ev_isB, ev_int, ev_abs, ev_max, ev_min, ev_eqI, ev_neI, Ms.isNon, Option.some.injEq, exists_eq_left', List.getElem?_cons_zero, List.getElem?_cons_succ, List.set_cons_zero, List.set_cons_succ, List.map_cons, List.map_nil, List.cons_append, List.nil_append, List.length_cons, List.length_nil, List.reduceReplicate, Nat.reduceAdd, Nat.reduceSub, Bool.not_true, Bool.not_false, Bool.false_eq_true, Bool.true_eq_false, if_true, if_false, decide_true, decide_false, D.int.injEq, D.bl.injEq, D.ref.injEq, exists_and_left, ev_mulR (inr_small a3 a4), ev_mod (show (0 : Int) < 257 by decide)]
    exact ⟨trivial, _, rfl⟩
/-! ### the law's way -/
def ptsD (pts : List (Int × Int)) : List D := pts.map fun p => .tup [.int p.1, .int p.2]
theorem pts_at {pts : List (Int × Int)} {i : Nat} {p : Int × Int} (h : pts[i]? = some p) (bx : Sto) : cIx bx (.lst (ptsD pts)) (.int (i : Nat)) = some (.tup [.int p.1, .int p.2]) := by
  rw [ev_ix vs_lst]
  refine Ms.atI_nat ?_
  unfold ptsD
  rw [List.getElem?_map, h]
  rfl
theorem lp_rng (x : Int) : ∀ (ks ys : List Int) (p : Int × Int), 0 ≤ p.2 → p.2 < 257 → 0 ≤ (lp x ks ys p).2 ∧ (lp x ks ys p).2 < 257
  | [], _, p, h0, h1 => by simp [lp]; exact ⟨h0, h1⟩
  | _ :: _, [], p, h0, h1 => by simp [lp]; exact ⟨h0, h1⟩
  | k :: ks, y :: ys, p, h0, h1 => lp_rng x ks ys _ (Int.emod_nonneg _ (by decide)) (Int.emod_lt_of_pos _ (by decide))
def kn1 (xs known : List Int) (p : Int × Int) : Int := (p.2 - (lp p.1 known xs (0, 1)).1) * inv (lp p.1 known xs (0, 1)).2 % 257
theorem kn1_rng {xs known : List Int} {p : Int × Int} : 0 ≤ kn1 xs known p ∧ kn1 xs known p < 257 := ⟨Int.emod_nonneg _ (by decide), Int.emod_lt_of_pos _ (by decide)⟩
theorem inv_rng {a : Int} : 0 ≤ inv a ∧ inv a < 257 := ⟨Int.emod_nonneg _ (by decide), Int.emod_lt_of_pos _ (by decide)⟩
theorem lp_drop {x : Int} {ks ys : List Int} {j : Nat} {k y : Int} {p : Int × Int} (hk : ks[j]? = some k) (hy : ys[j]? = some y) : lp x (ks.drop j) (ys.drop j) p = lp x (ks.drop (j + 1)) (ys.drop (j + 1)) (p.1 + k * p.2, p.2 * (x - y) % 257) := by
  obtain ⟨a1, a2⟩ := List.getElem?_eq_some_iff.mp hk
  obtain ⟨b1, b2⟩ := List.getElem?_eq_some_iff.mp hy
  rw [List.drop_eq_getElem_cons a1, List.drop_eq_getElem_cons b1, a2, b2]
  rfl
theorem lp_end {x : Int} {ks ys : List Int} {p : Int × Int} : lp x (ks.drop ks.length) ys p = p := by
  rw [List.drop_length]
  simp [lp]
/-- one loop over the known parts, at x, seen from any frame -/
theorem at_known {known : List Int} (hk : ∀ k ∈ known, 0 ≤ k ∧ k < 257) {j : Nat} {d : D} (hd : (known.map D.int)[j]? = some d) : ∃ k, known[j]? = some k ∧ d = .int k ∧ 0 ≤ k ∧ k < 257 := by
  obtain ⟨k, h1, h2⟩ := map_get hd
  exact ⟨k, h1, h2, hk k (List.mem_of_getElem? h1)⟩
def AT1 (pts : List (Int × Int)) (place : Int) (bx : Sto) (i : Nat) (δ : List (Option D)) (st : Sto) : Prop := ∃ known : List Int, known.length = i ∧ (∀ k ∈ known, 0 ≤ k ∧ k < 257) ∧ knowns (pts.map (·.1)) (pts.drop i) known = knowns (pts.map (·.1)) pts [] ∧ st = bx ++ [.lst (known.map D.int)] ∧
  ∃ x5 x6 x7 x8 x9 x10, δ = [some (.lst (ptsD pts)), some (.int place), some (.int 0), some (.int 1), some (.ref bx.length), x5, x6, x7, x8, x9, x10]
def AT2 (pts : List (Int × Int)) (place : Int) (bx : Sto) (known : List Int) (p : Int × Int) (j : Nat) (δ : List (Option D)) (st : Sto) : Prop := st = bx ++ [.lst (known.map D.int)] ∧ ∃ o a : Int, (0 ≤ a ∧ a < 257) ∧ lp p.1 (known.drop j) ((pts.map (·.1)).drop j) (o, a) = lp p.1 known (pts.map (·.1)) (0, 1) ∧
  ∃ x10, δ = [some (.lst (ptsD pts)), some (.int place), some (.int 0), some (.int 1), some (.ref bx.length), some (.int p.1), some (.int p.2), some (.int p.2), some (.int a), some (.int o), x10]
def AT3 (pts : List (Int × Int)) (place : Int) (bx : Sto) (known : List Int) (j : Nat) (δ : List (Option D)) (st : Sto) : Prop := st = bx ++ [.dead] ∧ ∃ o a : Int, (0 ≤ a ∧ a < 257) ∧ lp place (known.drop j) ((pts.map (·.1)).drop j) (o, a) = lp place known (pts.map (·.1)) (0, 1) ∧
  ∃ x5 x6 x7 x8 x9 x10, δ = [some (.lst (ptsD pts)), some (.int place), some (.int o), some (.int a), some (.lst (known.map D.int)), x5, x6, x7, x8, x9, x10]
theorem at_ok {pts : List (Int × Int)} {place : Int} (h8 : pts.length ≤ 8) (hp : ∀ p ∈ pts, In8 p.1) (hpl : In8 place) (bx : Sto) : W (m__law_at [.lst (ptsD pts), .int place] bx) (fun r st => r = .int (newton pts place) ∧ st = bx ++ [.dead]) NoE := by
  unfold m__law_at S__law_at N__law_at
  rw [W_noErr, W_fnD, WS_seq, WS_par3]
  simp only [WS_next, W_B, W_f1, W_f2, W_fA, W_cons, W_pur, W_var, W_not, W_ifT, W_ifB, W_call, W_callK, W_chain, W_wk, W_sl, W_po, W_poN, W_ok, W_err, W_noErr, W_fnD, ev_plus, ev_sub, ev_iB, ev_toB, ev_not, ev_neg, ev_isN, ev_notN, ev_isB, ev_int, ev_abs, ev_max, ev_min, ev_eqI, ev_neI, Ms.isNon, Option.some.injEq, exists_eq_left', List.getElem?_cons_zero, List.getElem?_cons_succ, List.set_cons_zero, List.set_cons_succ, List.map_cons, List.map_nil, List.cons_append, List.nil_append, List.length_cons, List.length_nil, List.reduceReplicate, Nat.reduceAdd, Nat.reduceSub, Bool.not_true, Bool.not_false, Bool.false_eq_true, Bool.true_eq_false, if_true, if_false, decide_true, decide_false, D.int.injEq, D.bl.injEq, D.ref.injEq, exists_and_left, W_new]
  refine ⟨by decide, _, _, _, rfl, ?_⟩
  rw [WS_seq, WS_for]
  have wl : wlk (.lst (ptsD pts)) = some (ptsD pts) := rfl
  have pl : (ptsD pts).length = pts.length := by simp [ptsD]
  simp only [WS_next, W_B, W_f1, W_f2, W_fA, W_cons, W_pur, W_var, W_not, W_ifT, W_ifB, W_call, W_callK, W_chain, W_wk, W_sl, W_po, W_poN, W_ok, W_err, W_noErr, W_fnD, ev_plus, ev_sub, ev_iB, ev_toB, ev_not, ev_neg, ev_isN, ev_notN, ev_isB, ev_int, ev_abs, ev_max, ev_min, ev_eqI, ev_neI, Ms.isNon, Option.some.injEq, exists_eq_left', List.getElem?_cons_zero, List.getElem?_cons_succ, List.set_cons_zero, List.set_cons_succ, List.map_cons, List.map_nil, List.cons_append, List.nil_append, List.length_cons, List.length_nil, List.reduceReplicate, Nat.reduceAdd, Nat.reduceSub, Bool.not_true, Bool.not_false, Bool.false_eq_true, Bool.true_eq_false, if_true, if_false, decide_true, decide_false, D.int.injEq, D.bl.injEq, D.ref.injEq, exists_and_left, wl]
  refine for_rule (fun i δ st => AT1 pts place bx i δ st) ⟨[], rfl, (fun k h => by cases h), rfl, rfl, _, _, _, _, _, _, rfl⟩ ?_ ?_
  · rintro δ st ⟨known, k1, k2, k3, rfl, x5, x6, x7, x8, x9, x10, rfl⟩
    rw [pl] at k1 k3
    rw [List.drop_length] at k3
    have k3 : known = knowns (pts.map (·.1)) pts [] := k3
    rw [WS_seq, WS_frz]
    refine ⟨bx.length, _, rfl, at_end rfl, ?_⟩
    rw [WS_seq, WS_for]
    simp only [WS_next, W_B, W_f1, W_f2, W_fA, W_cons, W_pur, W_var, W_not, W_ifT, W_ifB, W_call, W_callK, W_chain, W_wk, W_sl, W_po, W_poN, W_ok, W_err, W_noErr, W_fnD, ev_plus, ev_sub, ev_iB, ev_toB, ev_not, ev_neg, ev_isN, ev_notN, ev_isB, ev_int, ev_abs, ev_max, ev_min, ev_eqI, ev_neI, Ms.isNon, Option.some.injEq, exists_eq_left', List.getElem?_cons_zero, List.getElem?_cons_succ, List.set_cons_zero, List.set_cons_succ, List.map_cons, List.map_nil, List.cons_append, List.nil_append, List.length_cons, List.length_nil, List.reduceReplicate, Nat.reduceAdd, Nat.reduceSub, Bool.not_true, Bool.not_false, Bool.false_eq_true, Bool.true_eq_false, if_true, if_false, decide_true, decide_false, D.int.injEq, D.bl.injEq, D.ref.injEq, exists_and_left, W_rg1, ev_len vs_lst, List.length_map]
    refine ⟨_, rfl, by omega, by omega, ?_⟩
    have sd : (bx ++ [Cell.lst (known.map D.int)]).set bx.length .dead = bx ++ [.dead] := by simp
    rw [sd]
    refine for_rule (fun j δ st => AT3 pts place bx known j δ st) ⟨rfl, 0, 1, by decide, rfl, _, _, _, _, _, _, rfl⟩ ?_ ?_
    · rintro δ st ⟨rfl, o, a, ha, hl, x5, x6, x7, x8, x9, x10, rfl⟩
      have hn : (rgl 0 ((known.length : Int)).toNat).length = known.length := by simp [rgl]
      rw [hn, lp_end] at hl
      rw [WS_seq, WS_ret]
      simp only [WS_next, W_B, W_f1, W_f2, W_fA, W_cons, W_pur, W_var, W_not, W_ifT, W_ifB, W_call, W_callK, W_chain, W_wk, W_sl, W_po, W_poN, W_ok, W_err, W_noErr, W_fnD, ev_plus, ev_sub, ev_iB, ev_toB, ev_not, ev_neg, ev_isN, ev_notN, ev_isB, ev_int, ev_abs, ev_max, ev_min, ev_eqI, ev_neI, Ms.isNon, Option.some.injEq, exists_eq_left', List.getElem?_cons_zero, List.getElem?_cons_succ, List.set_cons_zero, List.set_cons_succ, List.map_cons, List.map_nil, List.cons_append, List.nil_append, List.length_cons, List.length_nil, List.reduceReplicate, Nat.reduceAdd, Nat.reduceSub, Bool.not_true, Bool.not_false, Bool.false_eq_true, Bool.true_eq_false, if_true, if_false, decide_true, decide_false, D.int.injEq, D.bl.injEq, D.ref.injEq, exists_and_left, ev_mod (show (0 : Int) < 257 by decide)]
      unfold newton
      rw [← k3, ← hl]
      exact ⟨rfl, trivial⟩
    · rintro j d δ st hd ⟨rfl, o, a, ha, hl, x5, x6, x7, x8, x9, x10, rfl⟩
      have e := rgl_get hd
      rw [Int.zero_add] at e
      subst e
      have jl : j < known.length := by
        have := (List.getElem?_eq_some_iff.mp hd).1
        simpa [rgl] using this
      obtain ⟨k, hk⟩ : ∃ k, known[j]? = some k := ⟨_, List.getElem?_eq_getElem jl⟩
      obtain ⟨p, hpj⟩ : ∃ p, pts[j]? = some p := ⟨_, List.getElem?_eq_getElem (by omega)⟩
      have kr := k2 k (List.mem_of_getElem? hk)
      have p8 := hp p (List.mem_of_getElem? hpj)
      have r1 : inr (place - p.1) := by unfold In8 at p8 hpl; exact ⟨by omega, by omega⟩
      have ixk : cIx (bx ++ [.dead]) (.lst (known.map D.int)) (.int (j : Nat)) = some (.int k) := by
        rw [ev_ix vs_lst]
        exact Ms.atI_nat (by rw [List.getElem?_map, hk]; rfl)
      have ixp : cIx (bx ++ [.dead]) (.tup [.int p.1, .int p.2]) (.int 0) = some (.int p.1) := by rw [ev_ix vs_tup]; rfl
      refine ⟨_, rfl, ?_⟩
      rw [WS_seq, WS_set]
      simp only [WS_next, W_B, W_f1, W_f2, W_fA, W_cons, W_pur, W_var, W_not, W_ifT, W_ifB, W_call, W_callK, W_chain, W_wk, W_sl, W_po, W_poN, W_ok, W_err, W_noErr, W_fnD, ev_plus, ev_sub, ev_iB, ev_toB, ev_not, ev_neg, ev_isN, ev_notN, ev_isB, ev_int, ev_abs, ev_max, ev_min, ev_eqI, ev_neI, Ms.isNon, Option.some.injEq, exists_eq_left', List.getElem?_cons_zero, List.getElem?_cons_succ, List.set_cons_zero, List.set_cons_succ, List.map_cons, List.map_nil, List.cons_append, List.nil_append, List.length_cons, List.length_nil, List.reduceReplicate, Nat.reduceAdd, Nat.reduceSub, Bool.not_true, Bool.not_false, Bool.false_eq_true, Bool.true_eq_false, if_true, if_false, decide_true, decide_false, D.int.injEq, D.bl.injEq, D.ref.injEq, exists_and_left, ixk, ev_mulR (inr_small ha.1 ha.2)]
      rw [WS_seq, WS_set]
      simp only [WS_next, W_B, W_f1, W_f2, W_fA, W_cons, W_pur, W_var, W_not, W_ifT, W_ifB, W_call, W_callK, W_chain, W_wk, W_sl, W_po, W_poN, W_ok, W_err, W_noErr, W_fnD, ev_plus, ev_sub, ev_iB, ev_toB, ev_not, ev_neg, ev_isN, ev_notN, ev_isB, ev_int, ev_abs, ev_max, ev_min, ev_eqI, ev_neI, Ms.isNon, Option.some.injEq, exists_eq_left', List.getElem?_cons_zero, List.getElem?_cons_succ, List.set_cons_zero, List.set_cons_succ, List.map_cons, List.map_nil, List.cons_append, List.nil_append, List.length_cons, List.length_nil, List.reduceReplicate, Nat.reduceAdd, Nat.reduceSub, Bool.not_true, Bool.not_false, Bool.false_eq_true, Bool.true_eq_false, if_true, if_false, decide_true, decide_false, D.int.injEq, D.bl.injEq, D.ref.injEq, exists_and_left, pts_at hpj, ixp, ev_mulR r1, ev_mod (show (0 : Int) < 257 by decide)]
      refine ⟨rfl, o + k * a, a * (place - p.1) % 257, ⟨Int.emod_nonneg _ (by decide), Int.emod_lt_of_pos _ (by decide)⟩, ?_, _, _, _, _, _, _, rfl⟩
      rw [← hl]
      exact (lp_drop (x := place) (p := (o, a)) hk (show (pts.map (·.1))[j]? = some p.1 by rw [List.getElem?_map, hpj]; rfl)).symm
  · rintro i d δ st hd ⟨known, k1, k2, k3, rfl, x5, x6, x7, x8, x9, x10, rfl⟩
    obtain ⟨p, hpi, rfl⟩ : ∃ p, pts[i]? = some p ∧ d = .tup [.int p.1, .int p.2] := by
      unfold ptsD at hd
      rw [List.getElem?_map] at hd
      cases hq : pts[i]? with
      | none => rw [hq] at hd; cases hd
      | some p => rw [hq] at hd; exact ⟨p, rfl, (Option.some.inj hd).symm⟩
    have p8 := hp p (List.mem_of_getElem? hpi)
    have ilt := (List.getElem?_eq_some_iff.mp hpi).1
    refine ⟨_, rfl, ?_⟩
    rw [WS_seq, WS_par3]
    simp only [WS_next, W_B, W_f1, W_f2, W_fA, W_cons, W_pur, W_var, W_not, W_ifT, W_ifB, W_call, W_callK, W_chain, W_wk, W_sl, W_po, W_poN, W_ok, W_err, W_noErr, W_fnD, ev_plus, ev_sub, ev_iB, ev_toB, ev_not, ev_neg, ev_isN, ev_notN, ev_isB, ev_int, ev_abs, ev_max, ev_min, ev_eqI, ev_neI, Ms.isNon, Option.some.injEq, exists_eq_left', List.getElem?_cons_zero, List.getElem?_cons_succ, List.set_cons_zero, List.set_cons_succ, List.map_cons, List.map_nil, List.cons_append, List.nil_append, List.length_cons, List.length_nil, List.reduceReplicate, Nat.reduceAdd, Nat.reduceSub, Bool.not_true, Bool.not_false, Bool.false_eq_true, Bool.true_eq_false, if_true, if_false, decide_true, decide_false, D.int.injEq, D.bl.injEq, D.ref.injEq, exists_and_left]
    refine ⟨_, _, _, rfl, ?_⟩
    rw [WS_seq, WS_for]
    have gk : ∀ l, (bx ++ [Cell.lst l])[bx.length]? = some (.lst l) := fun l => at_end rfl
    have lk : cLen (bx ++ [Cell.lst (known.map D.int)]) [.ref bx.length] = some (.int known.length) := by rw [ev_len (vs_ref (gk _)), List.length_map]
    simp only [WS_next, W_B, W_f1, W_f2, W_fA, W_cons, W_pur, W_var, W_not, W_ifT, W_ifB, W_call, W_callK, W_chain, W_wk, W_sl, W_po, W_poN, W_ok, W_err, W_noErr, W_fnD, ev_plus, ev_sub, ev_iB, ev_toB, ev_not, ev_neg, ev_isN, ev_notN, ev_isB, ev_int, ev_abs, ev_max, ev_min, ev_eqI, ev_neI, Ms.isNon, Option.some.injEq, exists_eq_left', List.getElem?_cons_zero, List.getElem?_cons_succ, List.set_cons_zero, List.set_cons_succ, List.map_cons, List.map_nil, List.cons_append, List.nil_append, List.length_cons, List.length_nil, List.reduceReplicate, Nat.reduceAdd, Nat.reduceSub, Bool.not_true, Bool.not_false, Bool.false_eq_true, Bool.true_eq_false, if_true, if_false, decide_true, decide_false, D.int.injEq, D.bl.injEq, D.ref.injEq, exists_and_left, W_rg1, lk]
    refine ⟨_, rfl, by omega, by omega, ?_⟩
    refine for_rule (fun j δ st => AT2 pts place bx known p j δ st) ⟨rfl, 0, 1, by decide, rfl, _, rfl⟩ ?_ ?_
    · rintro δ st ⟨rfl, o, a, ha, hl, x10, rfl⟩
      have hn : (rgl 0 ((known.length : Int)).toNat).length = known.length := by simp [rgl]
      rw [hn, lp_end] at hl
      rw [WS_seq, WS_app]
      simp only [WS_next, W_B, W_f1, W_f2, W_fA, W_cons, W_pur, W_var, W_not, W_ifT, W_ifB, W_call, W_callK, W_chain, W_wk, W_sl, W_po, W_poN, W_ok, W_err, W_noErr, W_fnD, ev_plus, ev_sub, ev_iB, ev_toB, ev_not, ev_neg, ev_isN, ev_notN, ev_isB, ev_int, ev_abs, ev_max, ev_min, ev_eqI, ev_neI, Ms.isNon, Option.some.injEq, exists_eq_left', List.getElem?_cons_zero, List.getElem?_cons_succ, List.set_cons_zero, List.set_cons_succ, List.map_cons, List.map_nil, List.cons_append, List.nil_append, List.length_cons, List.length_nil, List.reduceReplicate, Nat.reduceAdd, Nat.reduceSub, Bool.not_true, Bool.not_false, Bool.false_eq_true, Bool.true_eq_false, if_true, if_false, decide_true, decide_false, D.int.injEq, D.bl.injEq, D.ref.injEq, exists_and_left]
      refine ⟨_, gk _, ?_⟩
      refine (turned_ok ha.1 ha.2 _).to fun r st ⟨e1, e2⟩ => ?_
      subst e1 e2
      have iv := inv_rng (a := a)
      simp only [WS_next, W_B, W_f1, W_f2, W_fA, W_cons, W_pur, W_var, W_not, W_ifT, W_ifB, W_call, W_callK, W_chain, W_wk, W_sl, W_po, W_poN, W_ok, W_err, W_noErr, W_fnD, ev_plus, ev_sub, ev_iB, ev_toB, ev_not, ev_neg, ev_isN, ev_notN, ev_isB, ev_int, ev_abs, ev_max, ev_min, ev_eqI, ev_neI, Ms.isNon, Option.some.injEq, exists_eq_left', List.getElem?_cons_zero, List.getElem?_cons_succ, List.set_cons_zero, List.set_cons_succ, List.map_cons, List.map_nil, List.cons_append, List.nil_append, List.length_cons, List.length_nil, List.reduceReplicate, Nat.reduceAdd, Nat.reduceSub, Bool.not_true, Bool.not_false, Bool.false_eq_true, Bool.true_eq_false, if_true, if_false, decide_true, decide_false, D.int.injEq, D.bl.injEq, D.ref.injEq, exists_and_left, ev_mulR (inr_small iv.1 iv.2), ev_mod (show (0 : Int) < 257 by decide)]
      refine ⟨_, gk _, by rw [List.length_map]; omega, ?_⟩
      have ek : (p.2 - o) * inv a % 257 = kn1 (pts.map (·.1)) known p := by
        unfold kn1
        rw [← hl]
      rw [ek]
      refine ⟨known ++ [kn1 (pts.map (·.1)) known p], by simp [k1], ?_, ?_, by simp, _, _, _, _, _, _, rfl⟩
      · intro k hk
        rcases List.mem_append.mp hk with hk | hk
        · exact k2 k hk
        · rw [List.mem_singleton.mp hk]; exact kn1_rng
      · rw [← k3, List.drop_eq_getElem_cons ilt]
        have := (List.getElem?_eq_some_iff.mp hpi).2
        rw [this]
        rfl
    · rintro j d δ st hd ⟨rfl, o, a, ha, hl, x10, rfl⟩
      have e := rgl_get hd
      rw [Int.zero_add] at e
      subst e
      have jl : j < known.length := by
        have := (List.getElem?_eq_some_iff.mp hd).1
        simpa [rgl] using this
      obtain ⟨k, hk⟩ : ∃ k, known[j]? = some k := ⟨_, List.getElem?_eq_getElem jl⟩
      obtain ⟨q, hqj⟩ : ∃ q, pts[j]? = some q := ⟨_, List.getElem?_eq_getElem (by omega)⟩
      have q8 := hp q (List.mem_of_getElem? hqj)
      have r1 : inr (p.1 - q.1) := by unfold In8 at p8 q8; exact ⟨by omega, by omega⟩
      have ixk : cIx (bx ++ [.lst (known.map D.int)]) (.ref bx.length) (.int (j : Nat)) = some (.int k) := by
        rw [ev_ix (vs_ref (gk _))]
        exact Ms.atI_nat (by rw [List.getElem?_map, hk]; rfl)
      have ixp : cIx (bx ++ [.lst (known.map D.int)]) (.tup [.int q.1, .int q.2]) (.int 0) = some (.int q.1) := by rw [ev_ix vs_tup]; rfl
      refine ⟨_, rfl, ?_⟩
      rw [WS_seq, WS_set]
      simp only [WS_next, W_B, W_f1, W_f2, W_fA, W_cons, W_pur, W_var, W_not, W_ifT, W_ifB, W_call, W_callK, W_chain, W_wk, W_sl, W_po, W_poN, W_ok, W_err, W_noErr, W_fnD, ev_plus, ev_sub, ev_iB, ev_toB, ev_not, ev_neg, ev_isN, ev_notN, ev_isB, ev_int, ev_abs, ev_max, ev_min, ev_eqI, ev_neI, Ms.isNon, Option.some.injEq, exists_eq_left', List.getElem?_cons_zero, List.getElem?_cons_succ, List.set_cons_zero, List.set_cons_succ, List.map_cons, List.map_nil, List.cons_append, List.nil_append, List.length_cons, List.length_nil, List.reduceReplicate, Nat.reduceAdd, Nat.reduceSub, Bool.not_true, Bool.not_false, Bool.false_eq_true, Bool.true_eq_false, if_true, if_false, decide_true, decide_false, D.int.injEq, D.bl.injEq, D.ref.injEq, exists_and_left, ixk, ev_mulR (inr_small ha.1 ha.2)]
      rw [WS_seq, WS_set]
      simp only [WS_next, W_B, W_f1, W_f2, W_fA, W_cons, W_pur, W_var, W_not, W_ifT, W_ifB, W_call, W_callK, W_chain, W_wk, W_sl, W_po, W_poN, W_ok, W_err, W_noErr, W_fnD, ev_plus, ev_sub, ev_iB, ev_toB, ev_not, ev_neg, ev_isN, ev_notN, ev_isB, ev_int, ev_abs, ev_max, ev_min, ev_eqI, ev_neI, Ms.isNon, Option.some.injEq, exists_eq_left', List.getElem?_cons_zero, List.getElem?_cons_succ, List.set_cons_zero, List.set_cons_succ, List.map_cons, List.map_nil, List.cons_append, List.nil_append, List.length_cons, List.length_nil, List.reduceReplicate, Nat.reduceAdd, Nat.reduceSub, Bool.not_true, Bool.not_false, Bool.false_eq_true, Bool.true_eq_false, if_true, if_false, decide_true, decide_false, D.int.injEq, D.bl.injEq, D.ref.injEq, exists_and_left, pts_at hqj, ixp, ev_mulR r1, ev_mod (show (0 : Int) < 257 by decide)]
      refine ⟨rfl, o + k * a, a * (p.1 - q.1) % 257, ⟨Int.emod_nonneg _ (by decide), Int.emod_lt_of_pos _ (by decide)⟩, ?_, _, rfl⟩
      rw [← hl]
      exact (lp_drop (x := p.1) (p := (o, a)) hk (show (pts.map (·.1))[j]? = some q.1 by rw [List.getElem?_map, hqj]; rfl)).symm
end K23

end
section
set_option Elab.async false
set_option linter.all false
set_option maxRecDepth 100000
set_option maxHeartbeats 4000000
namespace K23
open PySem PySem.Spec PyProof.Rows L2 Ms
open Poly (dot inv tb share shares wts lp knowns newton subsF chips In8 nthD firsts)
theorem Th.to {r : Res D} {Q Q' : D → Sto → Prop} {E : Str → D → Sto → Prop} (h : Th (W r Q NoE)) (k : ∀ a bx, Q a bx → Q' a bx) : W r Q' E := h.h.to k
theorem lc_eff {j : Nat} {δ : List (Option D)} {bx : Sto} {F : Fn D} {l : List Int} {g : Int → D} {E : Str → D → Sto → Prop} (h : ∀ w ∈ l, ∀ bx', W (F (δ.set j (some (.int w))) bx') (fun r st => r = g w ∧ ∃ ys, st = bx' ++ ys) NoE) :
    W (lcGo (bOne j) δ (pur true) F (l.map D.int) bx []) (fun acc st => acc = l.map g ∧ ∃ ys, st = bx ++ ys) E := by
  refine lc_rule (fun i acc st => acc = (l.take i).map g ∧ ∃ ys, st = bx ++ ys) ⟨rfl, [], by simp⟩ ?_ ?_
  · rintro acc st ⟨rfl, ys, rfl⟩
    rw [List.length_map, List.take_length]
    exact ⟨rfl, ys, rfl⟩
  · rintro i d acc st hd ⟨rfl, ys, rfl⟩
    obtain ⟨w, hw, rfl⟩ := map_get hd
    refine ⟨_, rfl, ?_⟩
    rw [W_pur, if_pos rfl]
    refine (h w (List.mem_of_getElem? hw) _).to fun r st ⟨e1, zs, e2⟩ => ?_
    subst e1 e2
    refine ⟨?_, ys ++ zs, List.append_assoc _ _ _⟩
    rw [List.take_add_one, hw]
    simp
theorem rgl_rg {n : Nat} : rgl 0 n = (rg 0 n).map D.int := rgl_eq
theorem firsts_rg {n : Nat} : firsts n = rg 0 n := by
  unfold firsts rg
  exact List.map_congr_left fun i _ => by omega
theorem firsts_sub : ∀ n ≤ 8, firsts n ∈ subsF chips := by decide +kernel
theorem chips_of {a : Int} (h : In8 a) : a ∈ chips := by
  obtain ⟨h0, h7⟩ := h
  have : a = 0 ∨ a = 1 ∨ a = 2 ∨ a = 3 ∨ a = 4 ∨ a = 5 ∨ a = 6 ∨ a = 7 := by omega
  rcases this with rfl | rfl | rfl | rfl | rfl | rfl | rfl | rfl <;> decide
def okC (data : List Int) : Prop := ∀ x ∈ data, 0 ≤ x ∧ x < 257
def valOf (data : List Int) (x : Int) : Int := (data[x.toNat]?).getD 0
theorem map_valOf {data : List Int} : (firsts data.length).map (valOf data) = data := by
  apply List.ext_getElem?
  intro i
  unfold firsts
  rw [List.map_map, List.getElem?_map]
  by_cases h : i < data.length
  · rw [List.getElem?_eq_getElem (by rw [List.length_range]; exact h), List.getElem?_eq_getElem h]
    simp [valOf, List.getElem?_eq_getElem h]
  · rw [List.getElem?_eq_none (by rw [List.length_range]; omega), List.getElem?_eq_none (by omega)]
    rfl
/-- the cell of the data at a chip -/
def cd (data : List Int) (x : Int) : Int := dot (wts (firsts data.length) x) data % 257
theorem cd_rng {data : List Int} {x : Int} : 0 ≤ cd data x ∧ cd data x < 257 := ⟨Int.emod_nonneg _ (by decide), Int.emod_lt_of_pos _ (by decide)⟩
def linD (data : List Int) : List D := data.map fun v => .tup [.int v]
theorem lines_data {data : List Int} (h8 : data.length ≤ 8) (hc : okC data) {L : D} (hL : Seq2 L (linD data)) : Lines L (firsts data.length) (valOf data) := by
  have mem : ∀ x ∈ firsts data.length, ∃ v, data[x.toNat]? = some v := fun x hx => by
    rw [firsts_rg] at hx
    have := mem_rg.mp hx
    exact ⟨_, List.getElem?_eq_getElem (by omega)⟩
  refine ⟨⟨_, hL, fun x hx => ?_⟩, firsts_sub _ h8, fun x hx => ?_⟩
  · obtain ⟨v, hv⟩ := mem x hx
    unfold linD
    rw [List.getElem?_map, hv]
    simp [valOf, hv]
  · obtain ⟨v, hv⟩ := mem x hx
    unfold valOf
    rw [hv]
    exact hc v (List.mem_of_getElem? hv)
theorem codedL_ok {data : List Int} {c : Nat} (h1 : 1 ≤ data.length) (h8 : data.length ≤ 8) (hc : okC data) (c8 : c ≤ 8) (bx : Sto) :
    Th (W (m_coded_lines [.int c, .lst (linD data)] bx) (fun r st => r = .tup ((rg 0 c).map fun x => .tup [.int (cd data x)]) ∧ ∃ ys, st = bx ++ ys) NoE) := by
  constructor
  have hL := lines_data h8 hc (L := .lst (linD data)) (.inl rfl)
  have ne : firsts data.length ≠ [] := fun z => by
    have := congrArg List.length z
    simp only [firsts, List.length_map, List.length_range, List.length_nil] at this
    omega
  have ll : (linD data).length = data.length := by simp [linD]
  have lr : ∀ bx : Sto, cLstRg1 bx (.int data.length) = some (.lst ((firsts data.length).map D.int)) := fun bx => by
    rw [firsts_rg]
    show (if rgOk 0 (data.length : Int) = true then some (D.lst (rgl 0 ((data.length : Int)).toNat)) else none) = _
    rw [if_pos (by unfold rgOk; simp; omega), rgl_rg]
    rfl
  unfold m_coded_lines S_coded_lines N_coded_lines
  rw [W_noErr, W_fnD, WS_seq, WS_ret, W_fA, W_cons, W_lc, W_lcA]
  simp only [WS_next, W_B, W_f1, W_f2, W_fA, W_cons, W_pur, W_var, W_not, W_ifT, W_ifB, W_call, W_callK, W_chain, W_wk, W_sl, W_po, W_poN, W_ok, W_err, W_noErr, W_fnD, ev_plus, ev_sub, ev_iB, ev_toB, ev_not, ev_neg, ev_isN, ev_notN, ev_isB, ev_int, ev_abs, ev_max, ev_min, ev_eqI, ev_neI, Ms.isNon, Option.some.injEq, exists_eq_left', List.getElem?_cons_zero, List.getElem?_cons_succ, List.set_cons_zero, List.set_cons_succ, List.map_cons, List.map_nil, List.cons_append, List.nil_append, List.length_cons, List.length_nil, List.reduceReplicate, Nat.reduceAdd, Nat.reduceSub, Bool.not_true, Bool.not_false, Bool.false_eq_true, Bool.true_eq_false, if_true, if_false, decide_true, decide_false, D.int.injEq, D.bl.injEq, D.ref.injEq, exists_and_left, W_rg1]
  refine ⟨_, rfl, by omega, by omega, ?_⟩
  have tn : ((c : Int)).toNat = c := by omega
  rw [tn, rgl_rg]
  refine ⟨by rw [List.length_map, rg_len]; omega, ?_⟩
  refine (lc_eff (g := fun x => .tup [.int (cd data x)]) fun w hw bx' => ?_).imp (fun acc st ⟨e1, ys, e2⟩ => ?_) (fun _ _ _ z => z)
  · have := mem_rg.mp hw
    simp only [unset, List.foldl_cons, List.foldl_nil, WS_next, W_B, W_f1, W_f2, W_fA, W_cons, W_pur, W_var, W_not, W_ifT, W_ifB, W_call, W_callK, W_chain, W_wk, W_sl, W_po, W_poN, W_ok, W_err, W_noErr, W_fnD, ev_plus, ev_sub, ev_iB, ev_toB, ev_not, ev_neg, ev_isN, ev_notN, ev_isB, ev_int, ev_abs, ev_max, ev_min, ev_eqI, ev_neI, Ms.isNon, Option.some.injEq, exists_eq_left', List.getElem?_cons_zero, List.getElem?_cons_succ, List.set_cons_zero, List.set_cons_succ, List.map_cons, List.map_nil, List.cons_append, List.nil_append, List.length_cons, List.length_nil, List.reduceReplicate, Nat.reduceAdd, Nat.reduceSub, Bool.not_true, Bool.not_false, Bool.false_eq_true, Bool.true_eq_false, if_true, if_false, decide_true, decide_false, D.int.injEq, D.bl.injEq, D.ref.injEq, exists_and_left, ev_len vs_lst, ll, lr]
    refine (line_ok hL ne (a := w) ⟨by omega, by omega⟩ bx').to fun r st ⟨e1, ys, e2⟩ => ?_
    subst e1 e2
    rw [map_valOf]
    exact ⟨rfl, ys, rfl⟩
  · subst e1 e2
    exact ⟨_, ev_tupOfL, rfl, ys, rfl⟩
theorem cellsOf_ok {v : List Int} {L : D} (hL : Seq2 L (linD v)) (h8 : v.length ≤ 8) (bx : Sto) : m__cells_of [L] bx = .ok (.tup (v.map D.int)) bx := W.eq (by
  unfold m__cells_of S__cells_of N__cells_of
  rw [W_noErr, W_fnD, WS_seq, WS_ret, W_fA, W_cons, W_lc, W_lcA]
  simp only [WS_next, W_B, W_f1, W_f2, W_fA, W_cons, W_pur, W_var, W_not, W_ifT, W_ifB, W_call, W_callK, W_chain, W_wk, W_sl, W_po, W_poN, W_ok, W_err, W_noErr, W_fnD, ev_plus, ev_sub, ev_iB, ev_toB, ev_not, ev_neg, ev_isN, ev_notN, ev_isB, ev_int, ev_abs, ev_max, ev_min, ev_eqI, ev_neI, Ms.isNon, Option.some.injEq, exists_eq_left', List.getElem?_cons_zero, List.getElem?_cons_succ, List.set_cons_zero, List.set_cons_succ, List.map_cons, List.map_nil, List.cons_append, List.nil_append, List.length_cons, List.length_nil, List.reduceReplicate, Nat.reduceAdd, Nat.reduceSub, Bool.not_true, Bool.not_false, Bool.false_eq_true, Bool.true_eq_false, if_true, if_false, decide_true, decide_false, D.int.injEq, D.bl.injEq, D.ref.injEq, exists_and_left, hL.wlk]
  refine ⟨by simp [linD]; omega, ?_⟩
  rw [lc_pure (c := fun _ => true) (f := fun d => match d with | .tup [x] => x | _ => .non) fun x hx => ⟨_, rfl, rfl, fun _ => W.eq (by
    obtain ⟨i, _, rfl⟩ := List.mem_map.mp hx
    have ix : cIx bx (.tup [.int i]) (.int 0) = some (.int i) := by rw [ev_ix vs_tup]; rfl
    simp only [unset, List.foldl_cons, List.foldl_nil, WS_next, W_B, W_f1, W_f2, W_fA, W_cons, W_pur, W_var, W_not, W_ifT, W_ifB, W_call, W_callK, W_chain, W_wk, W_sl, W_po, W_poN, W_ok, W_err, W_noErr, W_fnD, ev_plus, ev_sub, ev_iB, ev_toB, ev_not, ev_neg, ev_isN, ev_notN, ev_isB, ev_int, ev_abs, ev_max, ev_min, ev_eqI, ev_neI, Ms.isNon, Option.some.injEq, exists_eq_left', List.getElem?_cons_zero, List.getElem?_cons_succ, List.set_cons_zero, List.set_cons_succ, List.map_cons, List.map_nil, List.cons_append, List.nil_append, List.length_cons, List.length_nil, List.reduceReplicate, Nat.reduceAdd, Nat.reduceSub, Bool.not_true, Bool.not_false, Bool.false_eq_true, Bool.true_eq_false, if_true, if_false, decide_true, decide_false, D.int.injEq, D.bl.injEq, D.ref.injEq, exists_and_left, ix, and_self])⟩, W_ok]
  have ef : ((linD v).filter fun _ => true) = linD v := List.filter_eq_self.mpr fun _ _ => rfl
  rw [ef, List.nil_append]
  have em : (linD v).map (fun d => match d with | .tup [x] => x | _ => .non) = v.map D.int := by
    unfold linD
    rw [List.map_map]
    rfl
  rw [em]
  exact ⟨_, ev_tupOfL, rfl, rfl⟩)
def codeL (data : List Int) (c : Nat) : List Int := (rg 0 c).map (cd data)
theorem coded_ok {data : List Int} {d : D} {c : Nat} (hd : Seq2 d (data.map D.int)) (h1 : 1 ≤ data.length) (c2 : 2 ≤ c) (c8 : c ≤ 8) (hn : data.length ≤ c) (hc : okC data) (bx : Sto) :
    W (m_coded [.int c, .int data.length, d] bx) (fun r st => r = .tup ((codeL data c).map D.int) ∧ ∃ ys, st = bx ++ ys) NoE := by
  have cl : ∀ x ∈ data.map D.int, isC x = true := fun x hx => by
    obtain ⟨i, hi, rfl⟩ := List.mem_map.mp hx
    have := hc i hi
    unfold isC
    simp
    exact this
  unfold m_coded S_coded N_coded
  rw [W_fnD, WS_seq, WS_drop]
  simp only [WS_next, W_B, W_f1, W_f2, W_fA, W_cons, W_pur, W_var, W_not, W_ifT, W_ifB, W_call, W_callK, W_chain, W_wk, W_sl, W_po, W_poN, W_ok, W_err, W_noErr, W_fnD, ev_plus, ev_sub, ev_iB, ev_toB, ev_not, ev_neg, ev_isN, ev_notN, ev_isB, ev_int, ev_abs, ev_max, ev_min, ev_eqI, ev_neI, Ms.isNon, Option.some.injEq, exists_eq_left', List.getElem?_cons_zero, List.getElem?_cons_succ, List.set_cons_zero, List.set_cons_succ, List.map_cons, List.map_nil, List.cons_append, List.nil_append, List.length_cons, List.length_nil, List.reduceReplicate, Nat.reduceAdd, Nat.reduceSub, Bool.not_true, Bool.not_false, Bool.false_eq_true, Bool.true_eq_false, if_true, if_false, decide_true, decide_false, D.int.injEq, D.bl.injEq, D.ref.injEq, exists_and_left, code_ok (c := c) (n := data.length) (by omega) (by omega) (by omega) (by omega)]
  rw [WS_seq, WS_if]
  simp only [WS_next, W_B, W_f1, W_f2, W_fA, W_cons, W_pur, W_var, W_not, W_ifT, W_ifB, W_call, W_callK, W_chain, W_wk, W_sl, W_po, W_poN, W_ok, W_err, W_noErr, W_fnD, ev_plus, ev_sub, ev_iB, ev_toB, ev_not, ev_neg, ev_isN, ev_notN, ev_isB, ev_int, ev_abs, ev_max, ev_min, ev_eqI, ev_neI, Ms.isNon, Option.some.injEq, exists_eq_left', List.getElem?_cons_zero, List.getElem?_cons_succ, List.set_cons_zero, List.set_cons_succ, List.map_cons, List.map_nil, List.cons_append, List.nil_append, List.length_cons, List.length_nil, List.reduceReplicate, Nat.reduceAdd, Nat.reduceSub, Bool.not_true, Bool.not_false, Bool.false_eq_true, Bool.true_eq_false, if_true, if_false, decide_true, decide_false, D.int.injEq, D.bl.injEq, D.ref.injEq, exists_and_left, cells_ok hd (by rw [List.length_map]) cl]
  rw [WS_seq, WS_ret, W_call, W_cons, W_call, W_cons]
  simp only [WS_next, W_B, W_f1, W_f2, W_fA, W_cons, W_pur, W_var, W_not, W_ifT, W_ifB, W_call, W_callK, W_chain, W_wk, W_sl, W_po, W_poN, W_ok, W_err, W_noErr, W_fnD, ev_plus, ev_sub, ev_iB, ev_toB, ev_not, ev_neg, ev_isN, ev_notN, ev_isB, ev_int, ev_abs, ev_max, ev_min, ev_eqI, ev_neI, Ms.isNon, Option.some.injEq, exists_eq_left', List.getElem?_cons_zero, List.getElem?_cons_succ, List.set_cons_zero, List.set_cons_succ, List.map_cons, List.map_nil, List.cons_append, List.nil_append, List.length_cons, List.length_nil, List.reduceReplicate, Nat.reduceAdd, Nat.reduceSub, Bool.not_true, Bool.not_false, Bool.false_eq_true, Bool.true_eq_false, if_true, if_false, decide_true, decide_false, D.int.injEq, D.bl.injEq, D.ref.injEq, exists_and_left]
  rw [W_lc, W_lcA]
  simp only [WS_next, W_B, W_f1, W_f2, W_fA, W_cons, W_pur, W_var, W_not, W_ifT, W_ifB, W_call, W_callK, W_chain, W_wk, W_sl, W_po, W_poN, W_ok, W_err, W_noErr, W_fnD, ev_plus, ev_sub, ev_iB, ev_toB, ev_not, ev_neg, ev_isN, ev_notN, ev_isB, ev_int, ev_abs, ev_max, ev_min, ev_eqI, ev_neI, Ms.isNon, Option.some.injEq, exists_eq_left', List.getElem?_cons_zero, List.getElem?_cons_succ, List.set_cons_zero, List.set_cons_succ, List.map_cons, List.map_nil, List.cons_append, List.nil_append, List.length_cons, List.length_nil, List.reduceReplicate, Nat.reduceAdd, Nat.reduceSub, Bool.not_true, Bool.not_false, Bool.false_eq_true, Bool.true_eq_false, if_true, if_false, decide_true, decide_false, D.int.injEq, D.bl.injEq, D.ref.injEq, exists_and_left, hd.wlk]
  refine ⟨by rw [List.length_map]; omega, ?_⟩
  rw [lc_pure (c := fun _ => true) (f := fun d => .tup [d]) fun x hx => ⟨_, rfl, rfl, fun _ => W.eq (by
    simp only [unset, List.foldl_cons, List.foldl_nil, WS_next, W_B, W_f1, W_f2, W_fA, W_cons, W_pur, W_var, W_not, W_ifT, W_ifB, W_call, W_callK, W_chain, W_wk, W_sl, W_po, W_poN, W_ok, W_err, W_noErr, W_fnD, ev_plus, ev_sub, ev_iB, ev_toB, ev_not, ev_neg, ev_isN, ev_notN, ev_isB, ev_int, ev_abs, ev_max, ev_min, ev_eqI, ev_neI, Ms.isNon, Option.some.injEq, exists_eq_left', List.getElem?_cons_zero, List.getElem?_cons_succ, List.set_cons_zero, List.set_cons_succ, List.map_cons, List.map_nil, List.cons_append, List.nil_append, List.length_cons, List.length_nil, List.reduceReplicate, Nat.reduceAdd, Nat.reduceSub, Bool.not_true, Bool.not_false, Bool.false_eq_true, Bool.true_eq_false, if_true, if_false, decide_true, decide_false, D.int.injEq, D.bl.injEq, D.ref.injEq, exists_and_left]
    exact ⟨_, ev_tup (show [x].length ≤ 1000 by show 1 ≤ 1000; decide), rfl, trivial⟩)⟩, W_ok]
  have ef : ((data.map D.int).filter fun _ => true) = data.map D.int := List.filter_eq_self.mpr fun _ _ => rfl
  have em : (data.map D.int).map (fun d => D.tup [d]) = linD data := by
    unfold linD
    rw [List.map_map]
    rfl
  rw [ef, List.nil_append, em]
  have b8 : data.length ≤ 8 := by omega
  have hk := codedL_ok (data := data) (c := c) h1 b8 hc c8 bx
  revert hk
  generalize m_coded_lines [D.int ↑c, D.lst (linD data)] bx = R
  intro hk
  refine Th.to hk fun r st ⟨e1, ys, e2⟩ => ?_
  subst e1 e2
  have e3 : ((rg 0 c).map fun x => D.tup [.int (cd data x)]) = linD (codeL data c) := by
    unfold linD codeL
    rw [List.map_map]
    rfl
  rw [e3, cellsOf_ok (v := codeL data c) (.inr rfl) (by unfold codeL; rw [List.length_map, rg_len]; exact c8)]
  exact ⟨rfl, ys, rfl⟩
theorem coded_err {c n d e : D} {bx : Sto} (h : m_need_code [c, n] bx = .err "Refused" e bx) : m_coded [c, n, d] bx = .err "Refused" e bx := W.eqE (by
  unfold m_coded S_coded N_coded
  simp only [WS_seq, WS_if, WS_set, WS_ret, WS_drop, WS_raise, WS_next, WS_unp, WS_par, WS_for, W_B, W_f1, W_f2, W_fA, W_cons, W_pur, W_var, W_not, W_ifT, W_ifB, W_call, W_callK, W_chain, W_wk, W_sl, W_po, W_poN, W_ok, W_err, W_noErr, W_fnD, ev_plus, ev_sub, ev_iB, ev_toB, ev_not, ev_neg, ev_isN, ev_notN, ev_isB, ev_int, ev_abs, ev_max, ev_min, ev_eqI, ev_neI, Ms.isNon, Option.some.injEq, exists_eq_left', List.getElem?_cons_zero, List.getElem?_cons_succ, List.set_cons_zero, List.set_cons_succ, List.map_cons, List.map_nil, List.cons_append, List.nil_append, List.length_cons, List.length_nil, List.reduceReplicate, Nat.reduceAdd, Nat.reduceSub, Bool.not_true, Bool.not_false, Bool.false_eq_true, Bool.true_eq_false, if_true, if_false, decide_true, decide_false, D.int.injEq, D.bl.injEq, D.ref.injEq, exists_and_left, h, and_self])
theorem coded_bad {c n : Int} {d : D} {bx : Sto} (h1 : 2 ≤ c) (h2 : c ≤ 8) (h3 : 1 ≤ n) (h4 : n ≤ c) (h : m_are_cells [d, .int n] bx = .ok (.bl false) bx) : m_coded [.int c, .int n, d] bx = .err "Refused" d bx := W.eqE (by
  unfold m_coded S_coded N_coded
  simp only [WS_seq, WS_if, WS_set, WS_ret, WS_drop, WS_raise, WS_next, WS_unp, WS_par, WS_for, W_B, W_f1, W_f2, W_fA, W_cons, W_pur, W_var, W_not, W_ifT, W_ifB, W_call, W_callK, W_chain, W_wk, W_sl, W_po, W_poN, W_ok, W_err, W_noErr, W_fnD, ev_plus, ev_sub, ev_iB, ev_toB, ev_not, ev_neg, ev_isN, ev_notN, ev_isB, ev_int, ev_abs, ev_max, ev_min, ev_eqI, ev_neI, Ms.isNon, Option.some.injEq, exists_eq_left', List.getElem?_cons_zero, List.getElem?_cons_succ, List.set_cons_zero, List.set_cons_succ, List.map_cons, List.map_nil, List.cons_append, List.nil_append, List.length_cons, List.length_nil, List.reduceReplicate, Nat.reduceAdd, Nat.reduceSub, Bool.not_true, Bool.not_false, Bool.false_eq_true, Bool.true_eq_false, if_true, if_false, decide_true, decide_false, D.int.injEq, D.bl.injEq, D.ref.injEq, exists_and_left, code_ok h1 h2 h3 h4, h, and_self])
/-! ### the law's line -/
theorem zip_map_self {f : Int → Int} : ∀ l : List Int, l.zip (l.map f) = l.map fun x => (x, f x)
  | [] => rfl
  | x :: r => by
    show (x, f x) :: r.zip (r.map f) = _
    rw [zip_map_self r]
    rfl
theorem zip_firsts {data : List Int} : (firsts data.length).zip data = (firsts data.length).map fun x => (x, valOf data x) := by
  have := map_valOf (data := data)
  conv => lhs; arg 2; rw [← this]
  exact zip_map_self _
theorem newton_cd {data : List Int} {x : Int} (h8 : data.length ≤ 8) (hx : In8 x) : newton ((firsts data.length).zip data) x = cd data x := Poly.newton_eq (firsts_sub _ h8) (by simp [firsts]) (chips_of hx)
theorem lawLine_ok {data : List Int} {c : Nat} (h8 : data.length ≤ 8) (c8 : c ≤ 8) (bx : Sto) : Th (W (m__law_line [.int data.length, .int c, .lst (data.map D.int)] bx) (fun r st => r = .lst ((codeL data c).map D.int) ∧ ∃ ys, st = bx ++ ys) NoE) := by
  constructor
  unfold m__law_line S__law_line N__law_line
  rw [W_noErr, W_fnD, WS_seq, WS_set, W_lc, W_lcA]
  simp only [WS_next, W_B, W_f1, W_f2, W_fA, W_cons, W_pur, W_var, W_not, W_ifT, W_ifB, W_call, W_callK, W_chain, W_wk, W_sl, W_po, W_poN, W_ok, W_err, W_noErr, W_fnD, ev_plus, ev_sub, ev_iB, ev_toB, ev_not, ev_neg, ev_isN, ev_notN, ev_isB, ev_int, ev_abs, ev_max, ev_min, ev_eqI, ev_neI, Ms.isNon, Option.some.injEq, exists_eq_left', List.getElem?_cons_zero, List.getElem?_cons_succ, List.set_cons_zero, List.set_cons_succ, List.map_cons, List.map_nil, List.cons_append, List.nil_append, List.length_cons, List.length_nil, List.reduceReplicate, Nat.reduceAdd, Nat.reduceSub, Bool.not_true, Bool.not_false, Bool.false_eq_true, Bool.true_eq_false, if_true, if_false, decide_true, decide_false, D.int.injEq, D.bl.injEq, D.ref.injEq, exists_and_left, W_rg1]
  refine ⟨_, rfl, by omega, by omega, ?_⟩
  have tn : ((data.length : Int)).toNat = data.length := by omega
  rw [tn, rgl_rg, ← firsts_rg]
  refine ⟨by rw [List.length_map, firsts_rg, rg_len]; omega, ?_⟩
  have ix : ∀ x ∈ firsts data.length, cIx bx (.lst (data.map D.int)) (.int x) = some (.int (valOf data x)) := fun x hx => by
    rw [firsts_rg] at hx
    have hm := mem_rg.mp hx
    have hlt : x.toNat < data.length := by omega
    rw [ev_ix vs_lst]
    refine atI_int hm.1 ?_
    rw [List.getElem?_map, List.getElem?_eq_getElem hlt]
    simp [valOf, List.getElem?_eq_getElem hlt]
  rw [lc_pure (c := fun _ => true) (f := fun d => match d with | .int x => .tup [.int x, .int (valOf data x)] | _ => .non) fun x hx => ⟨_, rfl, rfl, fun _ => W.eq (by
    obtain ⟨i, hi, rfl⟩ := List.mem_map.mp hx
    simp only [unset, List.foldl_cons, List.foldl_nil, WS_next, W_B, W_f1, W_f2, W_fA, W_cons, W_pur, W_var, W_not, W_ifT, W_ifB, W_call, W_callK, W_chain, W_wk, W_sl, W_po, W_poN, W_ok, W_err, W_noErr, W_fnD, ev_plus, ev_sub, ev_iB, ev_toB, ev_not, ev_neg, ev_isN, ev_notN, ev_isB, ev_int, ev_abs, ev_max, ev_min, ev_eqI, ev_neI, Ms.isNon, Option.some.injEq, exists_eq_left', List.getElem?_cons_zero, List.getElem?_cons_succ, List.set_cons_zero, List.set_cons_succ, List.map_cons, List.map_nil, List.cons_append, List.nil_append, List.length_cons, List.length_nil, List.reduceReplicate, Nat.reduceAdd, Nat.reduceSub, Bool.not_true, Bool.not_false, Bool.false_eq_true, Bool.true_eq_false, if_true, if_false, decide_true, decide_false, D.int.injEq, D.bl.injEq, D.ref.injEq, exists_and_left, ix i hi]
    exact ⟨_, ev_tup (show [D.int i, D.int (valOf data i)].length ≤ 1000 by show 2 ≤ 1000; decide), rfl, trivial⟩)⟩, W_ok]
  have ef : (((firsts data.length).map D.int).filter fun _ => true) = (firsts data.length).map D.int := List.filter_eq_self.mpr fun _ _ => rfl
  have em : ((firsts data.length).map D.int).map (fun d => match d with | .int x => D.tup [.int x, .int (valOf data x)] | _ => .non) = ptsD ((firsts data.length).zip data) := by
    rw [zip_firsts]
    unfold ptsD
    rw [List.map_map, List.map_map]
    rfl
  rw [ef, List.nil_append, em]
  rw [WS_seq, WS_ret, W_lc, W_lcA]
  simp only [WS_next, W_B, W_f1, W_f2, W_fA, W_cons, W_pur, W_var, W_not, W_ifT, W_ifB, W_call, W_callK, W_chain, W_wk, W_sl, W_po, W_poN, W_ok, W_err, W_noErr, W_fnD, ev_plus, ev_sub, ev_iB, ev_toB, ev_not, ev_neg, ev_isN, ev_notN, ev_isB, ev_int, ev_abs, ev_max, ev_min, ev_eqI, ev_neI, Ms.isNon, Option.some.injEq, exists_eq_left', List.getElem?_cons_zero, List.getElem?_cons_succ, List.set_cons_zero, List.set_cons_succ, List.map_cons, List.map_nil, List.cons_append, List.nil_append, List.length_cons, List.length_nil, List.reduceReplicate, Nat.reduceAdd, Nat.reduceSub, Bool.not_true, Bool.not_false, Bool.false_eq_true, Bool.true_eq_false, if_true, if_false, decide_true, decide_false, D.int.injEq, D.bl.injEq, D.ref.injEq, exists_and_left, W_rg1]
  refine ⟨_, rfl, by omega, by omega, ?_⟩
  have tc : ((c : Int)).toNat = c := by omega
  rw [tc, rgl_rg]
  refine ⟨by rw [List.length_map, rg_len]; omega, ?_⟩
  have zl : ((firsts data.length).zip data).length = data.length := by simp [firsts]
  refine (lc_eff (g := fun x => .int (cd data x)) fun w hw bx' => ?_).imp (fun acc st ⟨e1, ys, e2⟩ => ?_) (fun _ _ _ z => z)
  · have hm := mem_rg.mp hw
    have w8 : In8 w := ⟨by omega, by omega⟩
    simp only [unset, List.foldl_cons, List.foldl_nil, WS_next, W_B, W_f1, W_f2, W_fA, W_cons, W_pur, W_var, W_not, W_ifT, W_ifB, W_call, W_callK, W_chain, W_wk, W_sl, W_po, W_poN, W_ok, W_err, W_noErr, W_fnD, ev_plus, ev_sub, ev_iB, ev_toB, ev_not, ev_neg, ev_isN, ev_notN, ev_isB, ev_int, ev_abs, ev_max, ev_min, ev_eqI, ev_neI, Ms.isNon, Option.some.injEq, exists_eq_left', List.getElem?_cons_zero, List.getElem?_cons_succ, List.set_cons_zero, List.set_cons_succ, List.map_cons, List.map_nil, List.cons_append, List.nil_append, List.length_cons, List.length_nil, List.reduceReplicate, Nat.reduceAdd, Nat.reduceSub, Bool.not_true, Bool.not_false, Bool.false_eq_true, Bool.true_eq_false, if_true, if_false, decide_true, decide_false, D.int.injEq, D.bl.injEq, D.ref.injEq, exists_and_left]
    refine (at_ok (by omega) (fun p hp => ?_) w8 bx').to fun r st ⟨e1, e2⟩ => ?_
    · rw [zip_firsts] at hp
      obtain ⟨x, hx, rfl⟩ := List.mem_map.mp hp
      exact subs_in8 (firsts_sub _ h8) x hx
    · subst e1 e2
      rw [newton_cd h8 w8]
      exact ⟨rfl, _, rfl⟩
  · subst e1 e2
    refine ⟨?_, ys, rfl⟩
    unfold codeL
    rw [List.map_map]
    rfl
end K23

end
section
set_option Elab.async false
set_option linter.all false
set_option maxRecDepth 100000
set_option maxHeartbeats 4000000
namespace K23
open PySem PySem.Spec PyProof.Rows L2 Ms
open Poly (dot inv tb share shares wts lp knowns newton subsF chips In8 nthD firsts)
/-! ### rows -/
abbrev Row := List (Option Int)
def celD : Option Int → D
  | none => .non
  | some v => .int v
def linO : Option Int → D
  | none => .non
  | some v => .tup [.int v]
def okR (r : Row) : Prop := ∀ v, some v ∈ r → 0 ≤ v ∧ v < 257
def valR (r : Row) (x : Int) : Int := ((r[x.toNat]?).join).getD 0
def chF : Nat → Row → List Int
  | _, [] => []
  | k, none :: r => chF (k + 1) r
  | k, some _ :: r => (k : Int) :: chF (k + 1) r
abbrev chR (r : Row) : List Int := chF 0 r
theorem rg_cons {k n : Nat} : rg (k : Int) (n + 1) = (k : Int) :: rg ((k + 1 : Nat) : Int) n := by
  unfold rg
  rw [List.range_succ_eq_map, List.map_cons, List.map_map]
  refine congr (congrArg _ (by simp)) (List.map_congr_left fun i _ => ?_)
  show (k : Int) + ((i + 1 : Nat) : Int) = ((k + 1 : Nat) : Int) + i
  omega
theorem chF_sub : ∀ (r : Row) (k : Nat), chF k r ∈ subsF (rg k r.length)
  | [], k => by
    show [] ∈ subsF (rg k 0)
    unfold rg subsF
    simp
  | o :: r, k => by
    have ih := chF_sub r (k + 1)
    rw [List.length_cons, rg_cons]
    unfold subsF
    rw [List.mem_flatMap]
    refine ⟨_, ih, ?_⟩
    cases o with
    | none => exact List.mem_cons_of_mem _ List.mem_cons_self
    | some v => exact List.mem_cons_self
theorem sub8 : ∀ n ≤ 8, ∀ S ∈ subsF (firsts n), S ∈ subsF chips := by decide +kernel
theorem chR_sub {r : Row} (h : r.length ≤ 8) : chR r ∈ subsF chips := sub8 _ h _ (by rw [firsts_rg]; exact chF_sub r 0)
theorem mem_chF {x : Int} : ∀ (r : Row) (k : Nat), x ∈ chF k r ↔ (k : Int) ≤ x ∧ ∃ v, r[(x - k).toNat]? = some (some v)
  | [], k => by simp [chF]
  | o :: r, k => by
    have ih := mem_chF (x := x) r (k + 1)
    have far : (k : Int) + 1 ≤ x → (o :: r)[(x - k).toNat]? = r[(x - ((k + 1 : Nat) : Int)).toNat]? := fun h => by
      have e : (x - k).toNat = (x - ((k + 1 : Nat) : Int)).toNat + 1 := by omega
      rw [e]
      rfl
    have near : x = k → (o :: r)[(x - k).toNat]? = some o := fun h => by
      have e : (x - k).toNat = 0 := by omega
      rw [e]
      rfl
    cases o with
    | none =>
      show x ∈ chF (k + 1) r ↔ _
      rw [ih]
      constructor
      · rintro ⟨h, v, hv⟩
        exact ⟨by omega, v, by rw [far (by omega)]; exact hv⟩
      · rintro ⟨h, v, hv⟩
        by_cases q : x = k
        · rw [near q] at hv; cases hv
        · rw [far (by omega)] at hv
          exact ⟨by omega, v, hv⟩
    | some w =>
      show x ∈ (k : Int) :: chF (k + 1) r ↔ _
      rw [List.mem_cons, ih]
      constructor
      · rintro (rfl | ⟨h, v, hv⟩)
        · exact ⟨Int.le_refl _, w, near rfl⟩
        · exact ⟨by omega, v, by rw [far (by omega)]; exact hv⟩
      · rintro ⟨h, v, hv⟩
        by_cases q : x = k
        · exact .inl q
        · rw [far (by omega)] at hv
          exact .inr ⟨by omega, v, hv⟩
theorem mem_chR {r : Row} {x : Int} : x ∈ chR r ↔ 0 ≤ x ∧ ∃ v, r[x.toNat]? = some (some v) := by
  have := mem_chF (x := x) r 0
  simpa using this
theorem valR_eq {r : Row} {x v : Int} (h : r[x.toNat]? = some (some v)) : valR r x = v := by
  unfold valR
  rw [h]
  rfl
theorem lines_row {r : Row} (h8 : r.length ≤ 8) (ok : okR r) {L : D} (hL : Seq2 L (r.map linO)) {S : List Int} (hS : S ∈ subsF chips) (sub : ∀ x ∈ S, x ∈ chR r) : Lines L S (valR r) := by
  refine ⟨⟨_, hL, fun x hx => ?_⟩, hS, fun x hx => ?_⟩
  · obtain ⟨h0, v, hv⟩ := mem_chR.mp (sub x hx)
    rw [List.getElem?_map, hv, valR_eq hv]
    rfl
  · obtain ⟨h0, v, hv⟩ := mem_chR.mp (sub x hx)
    rw [valR_eq hv]
    exact ok v (List.mem_of_getElem? hv)
theorem chips_ok {r : Row} (h8 : r.length ≤ 8) (bx : Sto) : m__chips_with [.lst (r.map linO)] bx = .ok (.lst ((chR r).map D.int)) bx := W.eq (by
  unfold m__chips_with S__chips_with N__chips_with
  rw [W_noErr, W_fnD, WS_seq, WS_ret, W_lc, W_lcA, W_enum]
  simp only [WS_next, W_B, W_f1, W_f2, W_fA, W_cons, W_pur, W_var, W_not, W_ifT, W_ifB, W_call, W_callK, W_chain, W_wk, W_sl, W_po, W_poN, W_ok, W_err, W_noErr, W_fnD, ev_plus, ev_sub, ev_iB, ev_toB, ev_not, ev_neg, ev_isN, ev_notN, ev_isB, ev_int, ev_abs, ev_max, ev_min, ev_eqI, ev_neI, Ms.isNon, Option.some.injEq, exists_eq_left', List.getElem?_cons_zero, List.getElem?_cons_succ, List.set_cons_zero, List.set_cons_succ, List.map_cons, List.map_nil, List.cons_append, List.nil_append, List.length_cons, List.length_nil, List.reduceReplicate, Nat.reduceAdd, Nat.reduceSub, Bool.not_true, Bool.not_false, Bool.false_eq_true, Bool.true_eq_false, if_true, if_false, decide_true, decide_false, D.int.injEq, D.bl.injEq, D.ref.injEq, exists_and_left]
  refine ⟨_, rfl, ?_⟩
  have el : ∀ (l : List D) k, (enumD k l).length = l.length := by
    intro l
    induction l with
    | nil => intro k; rfl
    | cons x t ih => intro k; show (enumD (k + 1) t).length + 1 = _; rw [ih]; rfl
  refine ⟨by rw [el, List.length_map]; omega, ?_⟩
  rw [lc_pure (c := fun d => match d with | .tup [_, x] => !isNon x | _ => false) (f := fun d => match d with | .tup [i, _] => i | _ => .non) fun d hd => by
    obtain ⟨i, hi, e⟩ := List.mem_iff_getElem.mp hd
    have he : (enumD 0 (r.map linO))[i]? = some d := by rw [List.getElem?_eq_getElem hi, e]
    obtain ⟨x, rfl, hx⟩ := enum_get he
    refine ⟨_, rfl, W.eq (by
      simp only [unset, List.foldl_cons, List.foldl_nil, WS_next, W_B, W_f1, W_f2, W_fA, W_cons, W_pur, W_var, W_not, W_ifT, W_ifB, W_call, W_callK, W_chain, W_wk, W_sl, W_po, W_poN, W_ok, W_err, W_noErr, W_fnD, ev_plus, ev_sub, ev_iB, ev_toB, ev_not, ev_neg, ev_isN, ev_notN, ev_isB, ev_int, ev_abs, ev_max, ev_min, ev_eqI, ev_neI, Ms.isNon, Option.some.injEq, exists_eq_left', List.getElem?_cons_zero, List.getElem?_cons_succ, List.set_cons_zero, List.set_cons_succ, List.map_cons, List.map_nil, List.cons_append, List.nil_append, List.length_cons, List.length_nil, List.reduceReplicate, Nat.reduceAdd, Nat.reduceSub, Bool.not_true, Bool.not_false, Bool.false_eq_true, Bool.true_eq_false, if_true, if_false, decide_true, decide_false, D.int.injEq, D.bl.injEq, D.ref.injEq, exists_and_left, and_self]), fun _ => W.eq (by
      simp only [unset, List.foldl_cons, List.foldl_nil, WS_next, W_B, W_f1, W_f2, W_fA, W_cons, W_pur, W_var, W_not, W_ifT, W_ifB, W_call, W_callK, W_chain, W_wk, W_sl, W_po, W_poN, W_ok, W_err, W_noErr, W_fnD, ev_plus, ev_sub, ev_iB, ev_toB, ev_not, ev_neg, ev_isN, ev_notN, ev_isB, ev_int, ev_abs, ev_max, ev_min, ev_eqI, ev_neI, Ms.isNon, Option.some.injEq, exists_eq_left', List.getElem?_cons_zero, List.getElem?_cons_succ, List.set_cons_zero, List.set_cons_succ, List.map_cons, List.map_nil, List.cons_append, List.nil_append, List.length_cons, List.length_nil, List.reduceReplicate, Nat.reduceAdd, Nat.reduceSub, Bool.not_true, Bool.not_false, Bool.false_eq_true, Bool.true_eq_false, if_true, if_false, decide_true, decide_false, D.int.injEq, D.bl.injEq, D.ref.injEq, exists_and_left, and_self])⟩]
  rw [W_ok, List.nil_append]
  have key : ∀ (r : Row) k, ((enumD k (r.map linO)).filter fun d => match d with | .tup [_, x] => !isNon x | _ => false).map (fun d => match d with | .tup [i, _] => i | _ => .non) = (chF k r).map D.int := by
    intro r
    induction r with
    | nil => intro k; rfl
    | cons o t ih =>
      intro k
      cases o with
      | none => exact ih (k + 1)
      | some v =>
        show D.int (k : Nat) :: _ = D.int (k : Int) :: _
        rw [← ih (k + 1)]
  rw [key]
  exact ⟨rfl, rfl⟩)
theorem cut_drop {l : List D} {n : Nat} : Ms.cutD l (some (n : Int)) none = l.drop n := by
  unfold Ms.cutD
  have h1 : HT.sIx l.length 0 (some (n : Int)) = min n l.length := HT.sIx_nat _ _ _
  have h2 : HT.sIx l.length l.length none = l.length := rfl
  rw [h1, h2]
  by_cases h : n ≤ l.length
  · rw [Nat.min_eq_left h]
    exact List.take_of_length_le (by rw [List.length_drop]; omega)
  · rw [Nat.min_eq_right (by omega), List.drop_length, List.drop_of_length_le (by omega)]
    simp
theorem cut_take {l : List D} {n : Nat} : Ms.cutD l none (some (n : Int)) = l.take n := by
  unfold Ms.cutD
  have h1 : HT.sIx l.length l.length (some (n : Int)) = min n l.length := HT.sIx_nat _ _ _
  have h2 : HT.sIx l.length 0 none = 0 := rfl
  rw [h1, h2, List.drop_zero, Nat.sub_zero]
  by_cases h : n ≤ l.length
  · rw [Nat.min_eq_left h]
  · rw [Nat.min_eq_right (by omega), List.take_length, List.take_of_length_le (by omega)]
theorem ne_one {a b : Int} {bx : Sto} : cNeD bx (.tup [.int a]) (.tup [.int b]) = some (.bl (!(a == b))) := by
  simp [cNeD, eqOk, dr, D.pure, D.pureAll, D.py, D.pyAll, SeqAt.shaped, PyData.canLay0, PyData.canLayAll0, PyData.depth, PyData.depthAll, PyData.eqv, PyData.eqvAll]
/-- what the first n of the chips tell of a cell -/
def tellR (r : Row) (n : Nat) (x : Int) : Int := dot (wts ((chR r).take n) x) (((chR r).take n).map (valR r)) % 257
def agr (r : Row) (n : Nat) : Bool := ((chR r).drop n).all fun x => decide (tellR r n x = valR r x)
def AG (n : Nat) (L : D) (S : List Int) (bx : Sto) (δ : List (Option D)) (st : Sto) : Prop := (∃ ys, st = bx ++ ys) ∧ ∃ x3, δ = [some (.int n), some L, some (.lst (S.map D.int)), x3]
theorem agree_ok {r : Row} {n : Nat} (h8 : r.length ≤ 8) (ok : okR r) (n1 : 1 ≤ n) (bx : Sto) : Th (W (m__agree [.int n, .lst (r.map linO), .lst ((chR r).map D.int)] bx) (fun x st => x = .bl (agr r n) ∧ ∃ ys, st = bx ++ ys) NoE) := by
  constructor
  have hT : ((chR r).take n) ∈ subsF chips := Poly.take_sub n (chR_sub h8)
  have hL := lines_row h8 ok (L := .lst (r.map linO)) (.inl rfl) hT fun x hx => List.mem_of_mem_take hx
  have hL2 := lines_row h8 ok (L := .lst (r.map linO)) (.inl rfl) (chR_sub h8) fun x hx => hx
  unfold m__agree S__agree N__agree
  rw [W_noErr, W_fnD, WS_seq, WS_for, W_wk, W_sl]
  simp only [WS_next, W_B, W_f1, W_f2, W_fA, W_cons, W_pur, W_var, W_not, W_ifT, W_ifB, W_call, W_callK, W_chain, W_wk, W_sl, W_po, W_poN, W_ok, W_err, W_noErr, W_fnD, ev_plus, ev_sub, ev_iB, ev_toB, ev_not, ev_neg, ev_isN, ev_notN, ev_isB, ev_int, ev_abs, ev_max, ev_min, ev_eqI, ev_neI, Ms.isNon, Option.some.injEq, exists_eq_left', List.getElem?_cons_zero, List.getElem?_cons_succ, List.set_cons_zero, List.set_cons_succ, List.map_cons, List.map_nil, List.cons_append, List.nil_append, List.length_cons, List.length_nil, List.reduceReplicate, Nat.reduceAdd, Nat.reduceSub, Bool.not_true, Bool.not_false, Bool.false_eq_true, Bool.true_eq_false, if_true, if_false, decide_true, decide_false, D.int.injEq, D.bl.injEq, D.ref.injEq, exists_and_left, ev_slL, cut_drop]
  have wl : ∀ l : List D, wlk (.lst l) = some l := fun _ => rfl
  simp only [wl, Option.some.injEq, exists_eq_left', ← List.map_drop]
  have ne : ∀ x ∈ (chR r).drop n, (chR r).take n ≠ [] := fun x hx z => by
    have h1 := congrArg List.length z
    rw [List.length_take, List.length_nil] at h1
    have h2 : 0 < ((chR r).drop n).length := List.length_pos_of_mem hx
    rw [List.length_drop] at h2
    omega
  have key : ∀ (T : List Int) (st : Sto) (δ : List (Option D)), (∀ x ∈ T, x ∈ (chR r).drop n) → AG n (.lst (r.map linO)) (chR r) bx δ st →
      WS (forL (bOne 3) (sSeq (sIf (fB (f2 cNeD (fCall m__line_at (fCons (fVar 1) (fCons (fSl (fVar 2) fPoN (fPo (fVar 0))) (fCons (fVar 3) (pur []))))) (f2 cIx (fVar 1) (fVar 3)))) (sSeq (sRet (pur (.bl false))) sNext) sNext) sNext) (T.map D.int) δ st)
        (fun δ st => (T.all fun x => decide (tellR r n x = valR r x)) = true ∧ AG n (.lst (r.map linO)) (chR r) bx δ st) (fun x st => (T.all fun x => decide (tellR r n x = valR r x)) = false ∧ x = .bl false ∧ ∃ ys, st = bx ++ ys) NoE := by
    intro T
    induction T with
    | nil => intro st δ _ h; exact ⟨rfl, h⟩
    | cons x T ih =>
      intro st δ hm h
      obtain ⟨⟨ys, rfl⟩, x3, rfl⟩ := h
      have hx := hm x List.mem_cons_self
      have mx := List.mem_of_mem_drop hx
      have e : ∀ (S : Sn) δ st N R, WS (forL (bOne 3) S ((x :: T).map D.int) δ st) N R NoE ↔ WS (S (δ.set 3 (some (.int x))) st) (fun δ' st' => WS (forL (bOne 3) S (T.map D.int) δ' st') N R NoE) R NoE := by
        intro S δ st N R
        show WS (match S (δ.set 3 (some (.int x))) st with | .nx δ' bx' => forL (bOne 3) S (T.map D.int) δ' bx' | .rt d bx' => .rt d bx' | .er c d bx' => .er c d bx' | .bad => .bad) N R NoE ↔ _
        cases S (δ.set 3 (some (.int x))) st <;> rfl
      rw [e, WS_seq, WS_if]
      simp only [WS_next, W_B, W_f1, W_f2, W_fA, W_cons, W_pur, W_var, W_not, W_ifT, W_ifB, W_call, W_callK, W_chain, W_wk, W_sl, W_po, W_poN, W_ok, W_err, W_noErr, W_fnD, ev_plus, ev_sub, ev_iB, ev_toB, ev_not, ev_neg, ev_isN, ev_notN, ev_isB, ev_int, ev_abs, ev_max, ev_min, ev_eqI, ev_neI, Ms.isNon, Option.some.injEq, exists_eq_left', List.getElem?_cons_zero, List.getElem?_cons_succ, List.set_cons_zero, List.set_cons_succ, List.map_cons, List.map_nil, List.cons_append, List.nil_append, List.length_cons, List.length_nil, List.reduceReplicate, Nat.reduceAdd, Nat.reduceSub, Bool.not_true, Bool.not_false, Bool.false_eq_true, Bool.true_eq_false, if_true, if_false, decide_true, decide_false, D.int.injEq, D.bl.injEq, D.ref.injEq, exists_and_left, ev_slL, cut_take, ← List.map_take]
      refine (line_ok hL (ne x hx) (subs_in8 (chR_sub h8) x mx) _).to fun rr st ⟨e1, zs, e2⟩ => ?_
      subst e1 e2
      simp only [WS_next, W_B, W_f1, W_f2, W_fA, W_cons, W_pur, W_var, W_not, W_ifT, W_ifB, W_call, W_callK, W_chain, W_wk, W_sl, W_po, W_poN, W_ok, W_err, W_noErr, W_fnD, ev_plus, ev_sub, ev_iB, ev_toB, ev_not, ev_neg, ev_isN, ev_notN, ev_isB, ev_int, ev_abs, ev_max, ev_min, ev_eqI, ev_neI, Ms.isNon, Option.some.injEq, exists_eq_left', List.getElem?_cons_zero, List.getElem?_cons_succ, List.set_cons_zero, List.set_cons_succ, List.map_cons, List.map_nil, List.cons_append, List.nil_append, List.length_cons, List.length_nil, List.reduceReplicate, Nat.reduceAdd, Nat.reduceSub, Bool.not_true, Bool.not_false, Bool.false_eq_true, Bool.true_eq_false, if_true, if_false, decide_true, decide_false, D.int.injEq, D.bl.injEq, D.ref.injEq, exists_and_left, hL2.ix mx, ne_one]
      have et : dot (wts ((chR r).take n) x) (((chR r).take n).map (valR r)) % 257 = tellR r n x := rfl
      rw [et]
      by_cases q : tellR r n x = valR r x
      · have qb : (!(tellR r n x == valR r x)) = false := by simp [q]
        simp only [WS_seq, WS_if, WS_set, WS_ret, WS_drop, WS_raise, WS_next, WS_unp, WS_par, WS_for, W_B, W_f1, W_f2, W_fA, W_cons, W_pur, W_var, W_not, W_ifT, W_ifB, W_call, W_callK, W_chain, W_wk, W_sl, W_po, W_poN, W_ok, W_err, W_noErr, W_fnD, ev_plus, ev_sub, ev_iB, ev_toB, ev_not, ev_neg, ev_isN, ev_notN, ev_isB, ev_int, ev_abs, ev_max, ev_min, ev_eqI, ev_neI, Ms.isNon, Option.some.injEq, exists_eq_left', List.getElem?_cons_zero, List.getElem?_cons_succ, List.set_cons_zero, List.set_cons_succ, List.map_cons, List.map_nil, List.cons_append, List.nil_append, List.length_cons, List.length_nil, List.reduceReplicate, Nat.reduceAdd, Nat.reduceSub, Bool.not_true, Bool.not_false, Bool.false_eq_true, Bool.true_eq_false, if_true, if_false, decide_true, decide_false, D.int.injEq, D.bl.injEq, D.ref.injEq, exists_and_left, qb]
        have hh := ih (bx ++ ys ++ zs) [some (.int n), some (.lst (r.map linO)), some (.lst ((chR r).map D.int)), some (.int x)] (fun y hy => hm y (List.mem_cons_of_mem _ hy)) ⟨⟨ys ++ zs, List.append_assoc _ _ _⟩, _, rfl⟩
        refine hh.imp (fun δ st ⟨a, b⟩ => ⟨?_, b⟩) (fun x' st ⟨a, b⟩ => ⟨?_, b⟩) (fun _ _ _ z => z)
        · rw [List.all_cons, a, decide_eq_true q]; rfl
        · rw [List.all_cons, a]; simp
      · have qb : (!(tellR r n x == valR r x)) = true := by simp [q]
        simp only [WS_seq, WS_if, WS_set, WS_ret, WS_drop, WS_raise, WS_next, WS_unp, WS_par, WS_for, W_B, W_f1, W_f2, W_fA, W_cons, W_pur, W_var, W_not, W_ifT, W_ifB, W_call, W_callK, W_chain, W_wk, W_sl, W_po, W_poN, W_ok, W_err, W_noErr, W_fnD, ev_plus, ev_sub, ev_iB, ev_toB, ev_not, ev_neg, ev_isN, ev_notN, ev_isB, ev_int, ev_abs, ev_max, ev_min, ev_eqI, ev_neI, Ms.isNon, Option.some.injEq, exists_eq_left', List.getElem?_cons_zero, List.getElem?_cons_succ, List.set_cons_zero, List.set_cons_succ, List.map_cons, List.map_nil, List.cons_append, List.nil_append, List.length_cons, List.length_nil, List.reduceReplicate, Nat.reduceAdd, Nat.reduceSub, Bool.not_true, Bool.not_false, Bool.false_eq_true, Bool.true_eq_false, if_true, if_false, decide_true, decide_false, D.int.injEq, D.bl.injEq, D.ref.injEq, exists_and_left, qb]
        exact ⟨by rw [List.all_cons, decide_eq_false q]; rfl, trivial, _, List.append_assoc _ _ _⟩
  refine (key ((chR r).drop n) bx _ (fun x hx => hx) ⟨⟨[], by simp⟩, _, rfl⟩).imp (fun δ st ⟨a, ⟨ys, b⟩, x3, c⟩ => ?_) (fun x st ⟨a, b, c⟩ => ⟨by rw [b]; unfold agr; rw [a], c⟩) (fun _ _ _ z => z)
  subst b c
  rw [WS_seq, WS_ret]
  simp only [WS_next, W_B, W_f1, W_f2, W_fA, W_cons, W_pur, W_var, W_not, W_ifT, W_ifB, W_call, W_callK, W_chain, W_wk, W_sl, W_po, W_poN, W_ok, W_err, W_noErr, W_fnD, ev_plus, ev_sub, ev_iB, ev_toB, ev_not, ev_neg, ev_isN, ev_notN, ev_isB, ev_int, ev_abs, ev_max, ev_min, ev_eqI, ev_neI, Ms.isNon, Option.some.injEq, exists_eq_left', List.getElem?_cons_zero, List.getElem?_cons_succ, List.set_cons_zero, List.set_cons_succ, List.map_cons, List.map_nil, List.cons_append, List.nil_append, List.length_cons, List.length_nil, List.reduceReplicate, Nat.reduceAdd, Nat.reduceSub, Bool.not_true, Bool.not_false, Bool.false_eq_true, Bool.true_eq_false, if_true, if_false, decide_true, decide_false, D.int.injEq, D.bl.injEq, D.ref.injEq, exists_and_left]
  exact ⟨by unfold agr; rw [a], ys, rfl⟩
end K23

end
section
set_option Elab.async false
set_option linter.all false
set_option maxRecDepth 100000
set_option maxHeartbeats 4000000
namespace K23
open PySem PySem.Spec PyProof.Rows L2 Ms
open Poly (dot inv tb share shares wts lp knowns newton subsF chips In8 nthD firsts)
theorem rowL_ok {r : Row} {c n : Nat} {d : D} (hd : Seq2 d (r.map celD)) (hl : r.length = c) (c2 : 2 ≤ c) (c8 : c ≤ 8) (n1 : 1 ≤ n) (nc : n ≤ c) (ok : okR r) (bx : Sto) : m__row_lines [.int c, .int n, d] bx = .ok (.lst (r.map linO)) bx := W.eq (by
  have hp : m_has_parts [d, .int c] bx = .ok (.bl true) bx := by rw [m_has hd.cl, hd.has, List.length_map, hl]; simp
  unfold m__row_lines S__row_lines N__row_lines
  rw [W_fnD, WS_seq, WS_drop]
  simp only [WS_next, W_B, W_f1, W_f2, W_fA, W_cons, W_pur, W_var, W_not, W_ifT, W_ifB, W_call, W_callK, W_chain, W_wk, W_sl, W_po, W_poN, W_ok, W_err, W_noErr, W_fnD, ev_plus, ev_sub, ev_iB, ev_toB, ev_not, ev_neg, ev_isN, ev_notN, ev_isB, ev_int, ev_abs, ev_max, ev_min, ev_eqI, ev_neI, Ms.isNon, Option.some.injEq, exists_eq_left', List.getElem?_cons_zero, List.getElem?_cons_succ, List.set_cons_zero, List.set_cons_succ, List.map_cons, List.map_nil, List.cons_append, List.nil_append, List.length_cons, List.length_nil, List.reduceReplicate, Nat.reduceAdd, Nat.reduceSub, Bool.not_true, Bool.not_false, Bool.false_eq_true, Bool.true_eq_false, if_true, if_false, decide_true, decide_false, D.int.injEq, D.bl.injEq, D.ref.injEq, exists_and_left, code_ok (c := c) (n := n) (by omega) (by omega) (by omega) (by omega)]
  rw [WS_seq, WS_if]
  simp only [WS_next, W_B, W_f1, W_f2, W_fA, W_cons, W_pur, W_var, W_not, W_ifT, W_ifB, W_call, W_callK, W_chain, W_wk, W_sl, W_po, W_poN, W_ok, W_err, W_noErr, W_fnD, ev_plus, ev_sub, ev_iB, ev_toB, ev_not, ev_neg, ev_isN, ev_notN, ev_isB, ev_int, ev_abs, ev_max, ev_min, ev_eqI, ev_neI, Ms.isNon, Option.some.injEq, exists_eq_left', List.getElem?_cons_zero, List.getElem?_cons_succ, List.set_cons_zero, List.set_cons_succ, List.map_cons, List.map_nil, List.cons_append, List.nil_append, List.length_cons, List.length_nil, List.reduceReplicate, Nat.reduceAdd, Nat.reduceSub, Bool.not_true, Bool.not_false, Bool.false_eq_true, Bool.true_eq_false, if_true, if_false, decide_true, decide_false, D.int.injEq, D.bl.injEq, D.ref.injEq, exists_and_left, hp]
  rw [WS_seq, WS_for]
  simp only [WS_next, W_B, W_f1, W_f2, W_fA, W_cons, W_pur, W_var, W_not, W_ifT, W_ifB, W_call, W_callK, W_chain, W_wk, W_sl, W_po, W_poN, W_ok, W_err, W_noErr, W_fnD, ev_plus, ev_sub, ev_iB, ev_toB, ev_not, ev_neg, ev_isN, ev_notN, ev_isB, ev_int, ev_abs, ev_max, ev_min, ev_eqI, ev_neI, Ms.isNon, Option.some.injEq, exists_eq_left', List.getElem?_cons_zero, List.getElem?_cons_succ, List.set_cons_zero, List.set_cons_succ, List.map_cons, List.map_nil, List.cons_append, List.nil_append, List.length_cons, List.length_nil, List.reduceReplicate, Nat.reduceAdd, Nat.reduceSub, Bool.not_true, Bool.not_false, Bool.false_eq_true, Bool.true_eq_false, if_true, if_false, decide_true, decide_false, D.int.injEq, D.bl.injEq, D.ref.injEq, exists_and_left, hd.wlk]
  have cel : ∀ x ∈ r.map celD, x = .non ∨ ∃ v, x = .int v ∧ 0 ≤ v ∧ v < 257 := fun x hx => by
    obtain ⟨o, ho, rfl⟩ := List.mem_map.mp hx
    cases o with
    | none => exact .inl rfl
    | some v => exact .inr ⟨v, rfl, ok v ho⟩
  refine for_rule (fun _ δ st => st = bx ∧ ∃ x3, δ = [some (.int c), some (.int n), some d, x3]) ⟨rfl, _, rfl⟩ ?_ ?_
  · rintro δ st ⟨rfl, x3, rfl⟩
    rw [WS_seq, WS_ret, W_lc, W_lcA]
    simp only [WS_next, W_B, W_f1, W_f2, W_fA, W_cons, W_pur, W_var, W_not, W_ifT, W_ifB, W_call, W_callK, W_chain, W_wk, W_sl, W_po, W_poN, W_ok, W_err, W_noErr, W_fnD, ev_plus, ev_sub, ev_iB, ev_toB, ev_not, ev_neg, ev_isN, ev_notN, ev_isB, ev_int, ev_abs, ev_max, ev_min, ev_eqI, ev_neI, Ms.isNon, Option.some.injEq, exists_eq_left', List.getElem?_cons_zero, List.getElem?_cons_succ, List.set_cons_zero, List.set_cons_succ, List.map_cons, List.map_nil, List.cons_append, List.nil_append, List.length_cons, List.length_nil, List.reduceReplicate, Nat.reduceAdd, Nat.reduceSub, Bool.not_true, Bool.not_false, Bool.false_eq_true, Bool.true_eq_false, if_true, if_false, decide_true, decide_false, D.int.injEq, D.bl.injEq, D.ref.injEq, exists_and_left, hd.wlk]
    refine ⟨by rw [List.length_map]; omega, ?_⟩
    rw [lc_pure (c := fun _ => true) (f := fun x => match x with | .non => .non | x => .tup [x]) fun x hx => ⟨_, rfl, rfl, fun _ => W.eq (by
      rcases cel x hx with rfl | ⟨v, rfl, _⟩
      · simp only [WS_seq, WS_if, WS_set, WS_ret, WS_drop, WS_raise, WS_next, WS_unp, WS_par, WS_for, W_B, W_f1, W_f2, W_fA, W_cons, W_pur, W_var, W_not, W_ifT, W_ifB, W_call, W_callK, W_chain, W_wk, W_sl, W_po, W_poN, W_ok, W_err, W_noErr, W_fnD, ev_plus, ev_sub, ev_iB, ev_toB, ev_not, ev_neg, ev_isN, ev_notN, ev_isB, ev_int, ev_abs, ev_max, ev_min, ev_eqI, ev_neI, Ms.isNon, Option.some.injEq, exists_eq_left', List.getElem?_cons_zero, List.getElem?_cons_succ, List.set_cons_zero, List.set_cons_succ, List.map_cons, List.map_nil, List.cons_append, List.nil_append, List.length_cons, List.length_nil, List.reduceReplicate, Nat.reduceAdd, Nat.reduceSub, Bool.not_true, Bool.not_false, Bool.false_eq_true, Bool.true_eq_false, if_true, if_false, decide_true, decide_false, D.int.injEq, D.bl.injEq, D.ref.injEq, exists_and_left, unset, and_self]
      · simp only [WS_seq, WS_if, WS_set, WS_ret, WS_drop, WS_raise, WS_next, WS_unp, WS_par, WS_for, W_B, W_f1, W_f2, W_fA, W_cons, W_pur, W_var, W_not, W_ifT, W_ifB, W_call, W_callK, W_chain, W_wk, W_sl, W_po, W_poN, W_ok, W_err, W_noErr, W_fnD, ev_plus, ev_sub, ev_iB, ev_toB, ev_not, ev_neg, ev_isN, ev_notN, ev_isB, ev_int, ev_abs, ev_max, ev_min, ev_eqI, ev_neI, Ms.isNon, Option.some.injEq, exists_eq_left', List.getElem?_cons_zero, List.getElem?_cons_succ, List.set_cons_zero, List.set_cons_succ, List.map_cons, List.map_nil, List.cons_append, List.nil_append, List.length_cons, List.length_nil, List.reduceReplicate, Nat.reduceAdd, Nat.reduceSub, Bool.not_true, Bool.not_false, Bool.false_eq_true, Bool.true_eq_false, if_true, if_false, decide_true, decide_false, D.int.injEq, D.bl.injEq, D.ref.injEq, exists_and_left, unset]
        exact ⟨_, ev_tup (show [D.int v].length ≤ 1000 by show 1 ≤ 1000; decide), rfl, trivial⟩)⟩, W_ok]
    have ef : ((r.map celD).filter fun _ => true) = r.map celD := List.filter_eq_self.mpr fun _ _ => rfl
    rw [ef, List.nil_append, List.map_map]
    refine ⟨?_, rfl⟩
    congr 1
    exact List.map_congr_left fun o _ => by cases o <;> rfl
  · rintro i x δ st hx ⟨rfl, x3, rfl⟩
    refine ⟨_, rfl, ?_⟩
    rw [WS_seq, WS_if]
    rcases cel x (List.mem_of_getElem? hx) with rfl | ⟨v, rfl, v0, v1⟩
    · simp only [WS_seq, WS_if, WS_set, WS_ret, WS_drop, WS_raise, WS_next, WS_unp, WS_par, WS_for, W_B, W_f1, W_f2, W_fA, W_cons, W_pur, W_var, W_not, W_ifT, W_ifB, W_call, W_callK, W_chain, W_wk, W_sl, W_po, W_poN, W_ok, W_err, W_noErr, W_fnD, ev_plus, ev_sub, ev_iB, ev_toB, ev_not, ev_neg, ev_isN, ev_notN, ev_isB, ev_int, ev_abs, ev_max, ev_min, ev_eqI, ev_neI, Ms.isNon, Option.some.injEq, exists_eq_left', List.getElem?_cons_zero, List.getElem?_cons_succ, List.set_cons_zero, List.set_cons_succ, List.map_cons, List.map_nil, List.cons_append, List.nil_append, List.length_cons, List.length_nil, List.reduceReplicate, Nat.reduceAdd, Nat.reduceSub, Bool.not_true, Bool.not_false, Bool.false_eq_true, Bool.true_eq_false, if_true, if_false, decide_true, decide_false, D.int.injEq, D.bl.injEq, D.ref.injEq, exists_and_left]
      exact ⟨trivial, _, rfl⟩
    · have ib : inR (.int v) 0 (257 - 1) = true := by unfold inR; simp; omega
      simp only [WS_seq, WS_if, WS_set, WS_ret, WS_drop, WS_raise, WS_next, WS_unp, WS_par, WS_for, W_B, W_f1, W_f2, W_fA, W_cons, W_pur, W_var, W_not, W_ifT, W_ifB, W_call, W_callK, W_chain, W_wk, W_sl, W_po, W_poN, W_ok, W_err, W_noErr, W_fnD, ev_plus, ev_sub, ev_iB, ev_toB, ev_not, ev_neg, ev_isN, ev_notN, ev_isB, ev_int, ev_abs, ev_max, ev_min, ev_eqI, ev_neI, Ms.isNon, Option.some.injEq, exists_eq_left', List.getElem?_cons_zero, List.getElem?_cons_succ, List.set_cons_zero, List.set_cons_succ, List.map_cons, List.map_nil, List.cons_append, List.nil_append, List.length_cons, List.length_nil, List.reduceReplicate, Nat.reduceAdd, Nat.reduceSub, Bool.not_true, Bool.not_false, Bool.false_eq_true, Bool.true_eq_false, if_true, if_false, decide_true, decide_false, D.int.injEq, D.bl.injEq, D.ref.injEq, exists_and_left, m_below (d := .int v) rfl, ib]
      exact ⟨trivial, _, rfl⟩)
theorem rowL_err {c n d e : D} {bx : Sto} (h : m_need_code [c, n] bx = .err "Refused" e bx) : m__row_lines [c, n, d] bx = .err "Refused" e bx := W.eqE (by
  unfold m__row_lines S__row_lines N__row_lines
  simp only [WS_seq, WS_if, WS_set, WS_ret, WS_drop, WS_raise, WS_next, WS_unp, WS_par, WS_for, W_B, W_f1, W_f2, W_fA, W_cons, W_pur, W_var, W_not, W_ifT, W_ifB, W_call, W_callK, W_chain, W_wk, W_sl, W_po, W_poN, W_ok, W_err, W_noErr, W_fnD, ev_plus, ev_sub, ev_iB, ev_toB, ev_not, ev_neg, ev_isN, ev_notN, ev_isB, ev_int, ev_abs, ev_max, ev_min, ev_eqI, ev_neI, Ms.isNon, Option.some.injEq, exists_eq_left', List.getElem?_cons_zero, List.getElem?_cons_succ, List.set_cons_zero, List.set_cons_succ, List.map_cons, List.map_nil, List.cons_append, List.nil_append, List.length_cons, List.length_nil, List.reduceReplicate, Nat.reduceAdd, Nat.reduceSub, Bool.not_true, Bool.not_false, Bool.false_eq_true, Bool.true_eq_false, if_true, if_false, decide_true, decide_false, D.int.injEq, D.bl.injEq, D.ref.injEq, exists_and_left, h, and_self])
theorem rowL_bad {c n : Int} {d : D} {bx : Sto} (h1 : 2 ≤ c) (h2 : c ≤ 8) (h3 : 1 ≤ n) (h4 : n ≤ c) (h : m_has_parts [d, .int c] bx = .ok (.bl false) bx) : m__row_lines [.int c, .int n, d] bx = .err "Refused" d bx := W.eqE (by
  unfold m__row_lines S__row_lines N__row_lines
  simp only [WS_seq, WS_if, WS_set, WS_ret, WS_drop, WS_raise, WS_next, WS_unp, WS_par, WS_for, W_B, W_f1, W_f2, W_fA, W_cons, W_pur, W_var, W_not, W_ifT, W_ifB, W_call, W_callK, W_chain, W_wk, W_sl, W_po, W_poN, W_ok, W_err, W_noErr, W_fnD, ev_plus, ev_sub, ev_iB, ev_toB, ev_not, ev_neg, ev_isN, ev_notN, ev_isB, ev_int, ev_abs, ev_max, ev_min, ev_eqI, ev_neI, Ms.isNon, Option.some.injEq, exists_eq_left', List.getElem?_cons_zero, List.getElem?_cons_succ, List.set_cons_zero, List.set_cons_succ, List.map_cons, List.map_nil, List.cons_append, List.nil_append, List.length_cons, List.length_nil, List.reduceReplicate, Nat.reduceAdd, Nat.reduceSub, Bool.not_true, Bool.not_false, Bool.false_eq_true, Bool.true_eq_false, if_true, if_false, decide_true, decide_false, D.int.injEq, D.bl.injEq, D.ref.injEq, exists_and_left, code_ok h1 h2 h3 h4, h, and_self])
theorem rowL_bad1 {c n : Nat} {d x : D} {l : List D} {bx : Sto} (hd : Seq2 d (x :: l)) (hl : (x :: l).length = c) (c2 : 2 ≤ c) (c8 : c ≤ 8) (n1 : 1 ≤ n) (nc : n ≤ c) (hx : x.cl = true) (hn : isNon x = false) (hb : inR x 0 256 = false) : m__row_lines [.int c, .int n, d] bx = .err "Refused" d bx := W.eqE (by
  have hp : m_has_parts [d, .int c] bx = .ok (.bl true) bx := by rw [m_has hd.cl, hd.has, hl]; simp
  have hb' : inR x 0 (257 - 1) = false := hb
  unfold m__row_lines S__row_lines N__row_lines
  rw [W_fnD, WS_seq, WS_drop]
  simp only [WS_next, W_B, W_f1, W_f2, W_fA, W_cons, W_pur, W_var, W_not, W_ifT, W_ifB, W_call, W_callK, W_chain, W_wk, W_sl, W_po, W_poN, W_ok, W_err, W_noErr, W_fnD, ev_plus, ev_sub, ev_iB, ev_toB, ev_not, ev_neg, ev_isN, ev_notN, ev_isB, ev_int, ev_abs, ev_max, ev_min, ev_eqI, ev_neI, Ms.isNon, Option.some.injEq, exists_eq_left', List.getElem?_cons_zero, List.getElem?_cons_succ, List.set_cons_zero, List.set_cons_succ, List.map_cons, List.map_nil, List.cons_append, List.nil_append, List.length_cons, List.length_nil, List.reduceReplicate, Nat.reduceAdd, Nat.reduceSub, Bool.not_true, Bool.not_false, Bool.false_eq_true, Bool.true_eq_false, if_true, if_false, decide_true, decide_false, D.int.injEq, D.bl.injEq, D.ref.injEq, exists_and_left, code_ok (c := c) (n := n) (by omega) (by omega) (by omega) (by omega)]
  rw [WS_seq, WS_if]
  simp only [WS_next, W_B, W_f1, W_f2, W_fA, W_cons, W_pur, W_var, W_not, W_ifT, W_ifB, W_call, W_callK, W_chain, W_wk, W_sl, W_po, W_poN, W_ok, W_err, W_noErr, W_fnD, ev_plus, ev_sub, ev_iB, ev_toB, ev_not, ev_neg, ev_isN, ev_notN, ev_isB, ev_int, ev_abs, ev_max, ev_min, ev_eqI, ev_neI, Ms.isNon, Option.some.injEq, exists_eq_left', List.getElem?_cons_zero, List.getElem?_cons_succ, List.set_cons_zero, List.set_cons_succ, List.map_cons, List.map_nil, List.cons_append, List.nil_append, List.length_cons, List.length_nil, List.reduceReplicate, Nat.reduceAdd, Nat.reduceSub, Bool.not_true, Bool.not_false, Bool.false_eq_true, Bool.true_eq_false, if_true, if_false, decide_true, decide_false, D.int.injEq, D.bl.injEq, D.ref.injEq, exists_and_left, hp]
  rw [WS_seq, WS_for]
  simp only [WS_next, W_B, W_f1, W_f2, W_fA, W_cons, W_pur, W_var, W_not, W_ifT, W_ifB, W_call, W_callK, W_chain, W_wk, W_sl, W_po, W_poN, W_ok, W_err, W_noErr, W_fnD, ev_plus, ev_sub, ev_iB, ev_toB, ev_not, ev_neg, ev_isN, ev_notN, ev_isB, ev_int, ev_abs, ev_max, ev_min, ev_eqI, ev_neI, Ms.isNon, Option.some.injEq, exists_eq_left', List.getElem?_cons_zero, List.getElem?_cons_succ, List.set_cons_zero, List.set_cons_succ, List.map_cons, List.map_nil, List.cons_append, List.nil_append, List.length_cons, List.length_nil, List.reduceReplicate, Nat.reduceAdd, Nat.reduceSub, Bool.not_true, Bool.not_false, Bool.false_eq_true, Bool.true_eq_false, if_true, if_false, decide_true, decide_false, D.int.injEq, D.bl.injEq, D.ref.injEq, exists_and_left, hd.wlk]
  have e : ∀ (S : Sn) δ st N R E, WS (forL (bOne 3) S (x :: l) δ st) N R E ↔ WS (S (δ.set 3 (some x)) st) (fun δ' st' => WS (forL (bOne 3) S l δ' st') N R E) R E := by
    intro S δ st N R E
    show WS (match S (δ.set 3 (some x)) st with | .nx δ' bx' => forL (bOne 3) S l δ' bx' | .rt d bx' => .rt d bx' | .er c d bx' => .er c d bx' | .bad => .bad) N R E ↔ _
    cases S (δ.set 3 (some x)) st <;> rfl
  rw [e, WS_seq, WS_if]
  cases x with
  | non => cases hn
  | ref _ => cases hx
  | fn _ => cases hx
  | scr _ => cases hx
  | _ => simp only [WS_seq, WS_if, WS_set, WS_ret, WS_drop, WS_raise, WS_next, WS_unp, WS_par, WS_for, W_B, W_f1, W_f2, W_fA, W_cons, W_pur, W_var, W_not, W_ifT, W_ifB, W_call, W_callK, W_chain, W_wk, W_sl, W_po, W_poN, W_ok, W_err, W_noErr, W_fnD, ev_plus, ev_sub, ev_iB, ev_toB, ev_not, ev_neg, ev_isN, ev_notN, ev_isB, ev_int, ev_abs, ev_max, ev_min, ev_eqI, ev_neI, Ms.isNon, Option.some.injEq, exists_eq_left', List.getElem?_cons_zero, List.getElem?_cons_succ, List.set_cons_zero, List.set_cons_succ, List.map_cons, List.map_nil, List.cons_append, List.nil_append, List.length_cons, List.length_nil, List.reduceReplicate, Nat.reduceAdd, Nat.reduceSub, Bool.not_true, Bool.not_false, Bool.false_eq_true, Bool.true_eq_false, if_true, if_false, decide_true, decide_false, D.int.injEq, D.bl.injEq, D.ref.injEq, exists_and_left, m_below hx, hb', and_self])
theorem fits_ok {r : Row} {c n : Nat} {d : D} (hd : Seq2 d (r.map celD)) (hl : r.length = c) (c2 : 2 ≤ c) (c8 : c ≤ 8) (n1 : 1 ≤ n) (nc : n ≤ c) (ok : okR r) (bx : Sto) : Th (W (m_fits [.int c, .int n, d] bx) (fun x st => x = .bl (agr r n) ∧ ∃ ys, st = bx ++ ys) NoE) := by
  constructor
  unfold m_fits S_fits N_fits
  rw [W_fnD, WS_seq, WS_ret, W_call, W_cons]
  simp only [WS_next, W_B, W_f1, W_f2, W_fA, W_cons, W_pur, W_var, W_not, W_ifT, W_ifB, W_call, W_callK, W_chain, W_wk, W_sl, W_po, W_poN, W_ok, W_err, W_noErr, W_fnD, ev_plus, ev_sub, ev_iB, ev_toB, ev_not, ev_neg, ev_isN, ev_notN, ev_isB, ev_int, ev_abs, ev_max, ev_min, ev_eqI, ev_neI, Ms.isNon, Option.some.injEq, exists_eq_left', List.getElem?_cons_zero, List.getElem?_cons_succ, List.set_cons_zero, List.set_cons_succ, List.map_cons, List.map_nil, List.cons_append, List.nil_append, List.length_cons, List.length_nil, List.reduceReplicate, Nat.reduceAdd, Nat.reduceSub, Bool.not_true, Bool.not_false, Bool.false_eq_true, Bool.true_eq_false, if_true, if_false, decide_true, decide_false, D.int.injEq, D.bl.injEq, D.ref.injEq, exists_and_left, rowL_ok hd hl c2 c8 n1 nc ok]
  unfold m_lines_fit S_lines_fit N_lines_fit
  rw [W_noErr, W_fnD, WS_seq, WS_ret, W_call, W_cons]
  simp only [WS_next, W_B, W_f1, W_f2, W_fA, W_cons, W_pur, W_var, W_not, W_ifT, W_ifB, W_call, W_callK, W_chain, W_wk, W_sl, W_po, W_poN, W_ok, W_err, W_noErr, W_fnD, ev_plus, ev_sub, ev_iB, ev_toB, ev_not, ev_neg, ev_isN, ev_notN, ev_isB, ev_int, ev_abs, ev_max, ev_min, ev_eqI, ev_neI, Ms.isNon, Option.some.injEq, exists_eq_left', List.getElem?_cons_zero, List.getElem?_cons_succ, List.set_cons_zero, List.set_cons_succ, List.map_cons, List.map_nil, List.cons_append, List.nil_append, List.length_cons, List.length_nil, List.reduceReplicate, Nat.reduceAdd, Nat.reduceSub, Bool.not_true, Bool.not_false, Bool.false_eq_true, Bool.true_eq_false, if_true, if_false, decide_true, decide_false, D.int.injEq, D.bl.injEq, D.ref.injEq, exists_and_left, chips_ok (r := r) (by omega)]
  have hk := agree_ok (r := r) (n := n) (by omega) ok n1 bx
  revert hk
  generalize m__agree [.int n, .lst (r.map linO), .lst ((chR r).map D.int)] bx = R
  intro hk
  exact Th.to hk fun x st h => h
theorem fits_err {c n d e : D} {bx : Sto} (h : m__row_lines [c, n, d] bx = .err "Refused" e bx) : m_fits [c, n, d] bx = .err "Refused" e bx := W.eqE (by
  unfold m_fits S_fits N_fits
  simp only [WS_seq, WS_if, WS_set, WS_ret, WS_drop, WS_raise, WS_next, WS_unp, WS_par, WS_for, W_B, W_f1, W_f2, W_fA, W_cons, W_pur, W_var, W_not, W_ifT, W_ifB, W_call, W_callK, W_chain, W_wk, W_sl, W_po, W_poN, W_ok, W_err, W_noErr, W_fnD, ev_plus, ev_sub, ev_iB, ev_toB, ev_not, ev_neg, ev_isN, ev_notN, ev_isB, ev_int, ev_abs, ev_max, ev_min, ev_eqI, ev_neI, Ms.isNon, Option.some.injEq, exists_eq_left', List.getElem?_cons_zero, List.getElem?_cons_succ, List.set_cons_zero, List.set_cons_succ, List.map_cons, List.map_nil, List.cons_append, List.nil_append, List.length_cons, List.length_nil, List.reduceReplicate, Nat.reduceAdd, Nat.reduceSub, Bool.not_true, Bool.not_false, Bool.false_eq_true, Bool.true_eq_false, if_true, if_false, decide_true, decide_false, D.int.injEq, D.bl.injEq, D.ref.injEq, exists_and_left, h, and_self])
/-- the data that a row tells -/
def toldR (r : Row) (n : Nat) : Option (List Int) := if n ≤ (chR r).length ∧ agr r n = true then some ((rg 0 n).map (tellR r n)) else none
def toldD : Option (List Int) → D
  | none => .non
  | some l => .tup (l.map D.int)
theorem told_ok {r : Row} {c n : Nat} {d : D} (hd : Seq2 d (r.map celD)) (hl : r.length = c) (c2 : 2 ≤ c) (c8 : c ≤ 8) (n1 : 1 ≤ n) (nc : n ≤ c) (ok : okR r) (bx : Sto) : Th (W (m_told_data [.int c, .int n, d] bx) (fun x st => x = toldD (toldR r n) ∧ ∃ ys, st = bx ++ ys) NoE) := by
  constructor
  have h8 : r.length ≤ 8 := by omega
  have hT : ((chR r).take n) ∈ subsF chips := Poly.take_sub n (chR_sub h8)
  have hL := lines_row h8 ok (L := .lst (r.map linO)) (.inl rfl) hT fun x hx => List.mem_of_mem_take hx
  unfold m_told_data S_told_data N_told_data
  rw [W_fnD, WS_seq, WS_set, W_call, W_cons]
  simp only [WS_next, W_B, W_f1, W_f2, W_fA, W_cons, W_pur, W_var, W_not, W_ifT, W_ifB, W_call, W_callK, W_chain, W_wk, W_sl, W_po, W_poN, W_ok, W_err, W_noErr, W_fnD, ev_plus, ev_sub, ev_iB, ev_toB, ev_not, ev_neg, ev_isN, ev_notN, ev_isB, ev_int, ev_abs, ev_max, ev_min, ev_eqI, ev_neI, Ms.isNon, Option.some.injEq, exists_eq_left', List.getElem?_cons_zero, List.getElem?_cons_succ, List.set_cons_zero, List.set_cons_succ, List.map_cons, List.map_nil, List.cons_append, List.nil_append, List.length_cons, List.length_nil, List.reduceReplicate, Nat.reduceAdd, Nat.reduceSub, Bool.not_true, Bool.not_false, Bool.false_eq_true, Bool.true_eq_false, if_true, if_false, decide_true, decide_false, D.int.injEq, D.bl.injEq, D.ref.injEq, exists_and_left, rowL_ok hd hl c2 c8 n1 nc ok]
  unfold m_told_lines S_told_lines N_told_lines
  rw [W_noErr, W_fnD, WS_seq, WS_set]
  simp only [WS_next, W_B, W_f1, W_f2, W_fA, W_cons, W_pur, W_var, W_not, W_ifT, W_ifB, W_call, W_callK, W_chain, W_wk, W_sl, W_po, W_poN, W_ok, W_err, W_noErr, W_fnD, ev_plus, ev_sub, ev_iB, ev_toB, ev_not, ev_neg, ev_isN, ev_notN, ev_isB, ev_int, ev_abs, ev_max, ev_min, ev_eqI, ev_neI, Ms.isNon, Option.some.injEq, exists_eq_left', List.getElem?_cons_zero, List.getElem?_cons_succ, List.set_cons_zero, List.set_cons_succ, List.map_cons, List.map_nil, List.cons_append, List.nil_append, List.length_cons, List.length_nil, List.reduceReplicate, Nat.reduceAdd, Nat.reduceSub, Bool.not_true, Bool.not_false, Bool.false_eq_true, Bool.true_eq_false, if_true, if_false, decide_true, decide_false, D.int.injEq, D.bl.injEq, D.ref.injEq, exists_and_left, chips_ok (r := r) h8]
  rw [WS_seq, WS_if]
  simp only [WS_next, W_B, W_f1, W_f2, W_fA, W_cons, W_pur, W_var, W_not, W_ifT, W_ifB, W_call, W_callK, W_chain, W_wk, W_sl, W_po, W_poN, W_ok, W_err, W_noErr, W_fnD, ev_plus, ev_sub, ev_iB, ev_toB, ev_not, ev_neg, ev_isN, ev_notN, ev_isB, ev_int, ev_abs, ev_max, ev_min, ev_eqI, ev_neI, Ms.isNon, Option.some.injEq, exists_eq_left', List.getElem?_cons_zero, List.getElem?_cons_succ, List.set_cons_zero, List.set_cons_succ, List.map_cons, List.map_nil, List.cons_append, List.nil_append, List.length_cons, List.length_nil, List.reduceReplicate, Nat.reduceAdd, Nat.reduceSub, Bool.not_true, Bool.not_false, Bool.false_eq_true, Bool.true_eq_false, if_true, if_false, decide_true, decide_false, D.int.injEq, D.bl.injEq, D.ref.injEq, exists_and_left, ev_len vs_lst, List.length_map]
  by_cases q : ((chR r).length : Int) < (n : Int)
  · simp only [WS_seq, WS_if, WS_set, WS_ret, WS_drop, WS_raise, WS_next, WS_unp, WS_par, WS_for, W_B, W_f1, W_f2, W_fA, W_cons, W_pur, W_var, W_not, W_ifT, W_ifB, W_call, W_callK, W_chain, W_wk, W_sl, W_po, W_poN, W_ok, W_err, W_noErr, W_fnD, ev_plus, ev_sub, ev_iB, ev_toB, ev_not, ev_neg, ev_isN, ev_notN, ev_isB, ev_int, ev_abs, ev_max, ev_min, ev_eqI, ev_neI, Ms.isNon, Option.some.injEq, exists_eq_left', List.getElem?_cons_zero, List.getElem?_cons_succ, List.set_cons_zero, List.set_cons_succ, List.map_cons, List.map_nil, List.cons_append, List.nil_append, List.length_cons, List.length_nil, List.reduceReplicate, Nat.reduceAdd, Nat.reduceSub, Bool.not_true, Bool.not_false, Bool.false_eq_true, Bool.true_eq_false, if_true, if_false, decide_true, decide_false, D.int.injEq, D.bl.injEq, D.ref.injEq, exists_and_left, q]
    have e : toldR r n = none := by unfold toldR; rw [if_neg (by omega)]
    rw [e]
    exact ⟨rfl, [], by simp⟩
  · simp only [WS_next, W_B, W_f1, W_f2, W_fA, W_cons, W_pur, W_var, W_not, W_ifT, W_ifB, W_call, W_callK, W_chain, W_wk, W_sl, W_po, W_poN, W_ok, W_err, W_noErr, W_fnD, ev_plus, ev_sub, ev_iB, ev_toB, ev_not, ev_neg, ev_isN, ev_notN, ev_isB, ev_int, ev_abs, ev_max, ev_min, ev_eqI, ev_neI, Ms.isNon, Option.some.injEq, exists_eq_left', List.getElem?_cons_zero, List.getElem?_cons_succ, List.set_cons_zero, List.set_cons_succ, List.map_cons, List.map_nil, List.cons_append, List.nil_append, List.length_cons, List.length_nil, List.reduceReplicate, Nat.reduceAdd, Nat.reduceSub, Bool.not_true, Bool.not_false, Bool.false_eq_true, Bool.true_eq_false, if_true, if_false, decide_true, decide_false, D.int.injEq, D.bl.injEq, D.ref.injEq, exists_and_left, q]
    have hk := agree_ok (r := r) (n := n) h8 ok n1 bx
    revert hk
    generalize m__agree [.int n, .lst (r.map linO), .lst ((chR r).map D.int)] bx = R
    intro hk
    refine Th.to hk fun x st ⟨e1, ys, e2⟩ => ?_
    clear hk R
    subst e1 e2
    cases qa : agr r n with
    | false =>
      simp only [WS_seq, WS_if, WS_set, WS_ret, WS_drop, WS_raise, WS_next, WS_unp, WS_par, WS_for, W_B, W_f1, W_f2, W_fA, W_cons, W_pur, W_var, W_not, W_ifT, W_ifB, W_call, W_callK, W_chain, W_wk, W_sl, W_po, W_poN, W_ok, W_err, W_noErr, W_fnD, ev_plus, ev_sub, ev_iB, ev_toB, ev_not, ev_neg, ev_isN, ev_notN, ev_isB, ev_int, ev_abs, ev_max, ev_min, ev_eqI, ev_neI, Ms.isNon, Option.some.injEq, exists_eq_left', List.getElem?_cons_zero, List.getElem?_cons_succ, List.set_cons_zero, List.set_cons_succ, List.map_cons, List.map_nil, List.cons_append, List.nil_append, List.length_cons, List.length_nil, List.reduceReplicate, Nat.reduceAdd, Nat.reduceSub, Bool.not_true, Bool.not_false, Bool.false_eq_true, Bool.true_eq_false, if_true, if_false, decide_true, decide_false, D.int.injEq, D.bl.injEq, D.ref.injEq, exists_and_left]
      have e : toldR r n = none := by unfold toldR; rw [if_neg (by rw [qa]; simp)]
      rw [e]
      exact ⟨rfl, ys, rfl⟩
    | true =>
      have e : toldR r n = some ((rg 0 n).map (tellR r n)) := by unfold toldR; rw [if_pos ⟨by omega, qa⟩]
      rw [e]
      simp only [WS_next, W_B, W_f1, W_f2, W_fA, W_cons, W_pur, W_var, W_not, W_ifT, W_ifB, W_call, W_callK, W_chain, W_wk, W_sl, W_po, W_poN, W_ok, W_err, W_noErr, W_fnD, ev_plus, ev_sub, ev_iB, ev_toB, ev_not, ev_neg, ev_isN, ev_notN, ev_isB, ev_int, ev_abs, ev_max, ev_min, ev_eqI, ev_neI, Ms.isNon, Option.some.injEq, exists_eq_left', List.getElem?_cons_zero, List.getElem?_cons_succ, List.set_cons_zero, List.set_cons_succ, List.map_cons, List.map_nil, List.cons_append, List.nil_append, List.length_cons, List.length_nil, List.reduceReplicate, Nat.reduceAdd, Nat.reduceSub, Bool.not_true, Bool.not_false, Bool.false_eq_true, Bool.true_eq_false, if_true, if_false, decide_true, decide_false, D.int.injEq, D.bl.injEq, D.ref.injEq, exists_and_left]
      rw [WS_seq, WS_ret, W_fA, W_cons, W_lc, W_lcA]
      simp only [WS_next, W_B, W_f1, W_f2, W_fA, W_cons, W_pur, W_var, W_not, W_ifT, W_ifB, W_call, W_callK, W_chain, W_wk, W_sl, W_po, W_poN, W_ok, W_err, W_noErr, W_fnD, ev_plus, ev_sub, ev_iB, ev_toB, ev_not, ev_neg, ev_isN, ev_notN, ev_isB, ev_int, ev_abs, ev_max, ev_min, ev_eqI, ev_neI, Ms.isNon, Option.some.injEq, exists_eq_left', List.getElem?_cons_zero, List.getElem?_cons_succ, List.set_cons_zero, List.set_cons_succ, List.map_cons, List.map_nil, List.cons_append, List.nil_append, List.length_cons, List.length_nil, List.reduceReplicate, Nat.reduceAdd, Nat.reduceSub, Bool.not_true, Bool.not_false, Bool.false_eq_true, Bool.true_eq_false, if_true, if_false, decide_true, decide_false, D.int.injEq, D.bl.injEq, D.ref.injEq, exists_and_left, W_rg1]
      refine ⟨_, rfl, by omega, by omega, ?_⟩
      have tn : ((n : Int)).toNat = n := by omega
      rw [tn, rgl_rg]
      refine ⟨by rw [List.length_map, rg_len]; omega, ?_⟩
      have ne : (chR r).take n ≠ [] := fun z => by
        have h1 := congrArg List.length z
        rw [List.length_take, List.length_nil] at h1
        omega
      refine (lc_eff (g := fun x => .tup [.int (tellR r n x)]) fun w hw bx' => ?_).imp (fun acc st ⟨e1, zs, e2⟩ => ?_) (fun _ _ _ z => z)
      · have hm := mem_rg.mp hw
        simp only [unset, List.foldl_cons, List.foldl_nil, WS_next, W_B, W_f1, W_f2, W_fA, W_cons, W_pur, W_var, W_not, W_ifT, W_ifB, W_call, W_callK, W_chain, W_wk, W_sl, W_po, W_poN, W_ok, W_err, W_noErr, W_fnD, ev_plus, ev_sub, ev_iB, ev_toB, ev_not, ev_neg, ev_isN, ev_notN, ev_isB, ev_int, ev_abs, ev_max, ev_min, ev_eqI, ev_neI, Ms.isNon, Option.some.injEq, exists_eq_left', List.getElem?_cons_zero, List.getElem?_cons_succ, List.set_cons_zero, List.set_cons_succ, List.map_cons, List.map_nil, List.cons_append, List.nil_append, List.length_cons, List.length_nil, List.reduceReplicate, Nat.reduceAdd, Nat.reduceSub, Bool.not_true, Bool.not_false, Bool.false_eq_true, Bool.true_eq_false, if_true, if_false, decide_true, decide_false, D.int.injEq, D.bl.injEq, D.ref.injEq, exists_and_left, ev_slL, cut_take, ← List.map_take]
        exact (line_ok hL ne ⟨by omega, by omega⟩ bx').to fun r st h => h
      · subst e1 e2
        refine ⟨_, ev_tupOfL, ?_⟩
        rw [WS_seq, WS_ret]
        have e3 : ((rg 0 n).map fun x => D.tup [.int (tellR r n x)]) = linD ((rg 0 n).map (tellR r n)) := by
          unfold linD
          rw [List.map_map]
          rfl
        rw [e3]
        simp only [WS_seq, WS_if, WS_set, WS_ret, WS_drop, WS_raise, WS_next, WS_unp, WS_par, WS_for, W_B, W_f1, W_f2, W_fA, W_cons, W_pur, W_var, W_not, W_ifT, W_ifB, W_call, W_callK, W_chain, W_wk, W_sl, W_po, W_poN, W_ok, W_err, W_noErr, W_fnD, ev_plus, ev_sub, ev_iB, ev_toB, ev_not, ev_neg, ev_isN, ev_notN, ev_isB, ev_int, ev_abs, ev_max, ev_min, ev_eqI, ev_neI, Ms.isNon, Option.some.injEq, exists_eq_left', List.getElem?_cons_zero, List.getElem?_cons_succ, List.set_cons_zero, List.set_cons_succ, List.map_cons, List.map_nil, List.cons_append, List.nil_append, List.length_cons, List.length_nil, List.reduceReplicate, Nat.reduceAdd, Nat.reduceSub, Bool.not_true, Bool.not_false, Bool.false_eq_true, Bool.true_eq_false, if_true, if_false, decide_true, decide_false, D.int.injEq, D.bl.injEq, D.ref.injEq, exists_and_left, cellsOf_ok (v := (rg 0 n).map (tellR r n)) (.inr rfl) (by rw [List.length_map, rg_len]; omega)]
        exact ⟨rfl, _, List.append_assoc _ _ _⟩
theorem told_err {c n d e : D} {bx : Sto} (h : m__row_lines [c, n, d] bx = .err "Refused" e bx) : m_told_data [c, n, d] bx = .err "Refused" e bx := W.eqE (by
  unfold m_told_data S_told_data N_told_data
  simp only [WS_seq, WS_if, WS_set, WS_ret, WS_drop, WS_raise, WS_next, WS_unp, WS_par, WS_for, W_B, W_f1, W_f2, W_fA, W_cons, W_pur, W_var, W_not, W_ifT, W_ifB, W_call, W_callK, W_chain, W_wk, W_sl, W_po, W_poN, W_ok, W_err, W_noErr, W_fnD, ev_plus, ev_sub, ev_iB, ev_toB, ev_not, ev_neg, ev_isN, ev_notN, ev_isB, ev_int, ev_abs, ev_max, ev_min, ev_eqI, ev_neI, Ms.isNon, Option.some.injEq, exists_eq_left', List.getElem?_cons_zero, List.getElem?_cons_succ, List.set_cons_zero, List.set_cons_succ, List.map_cons, List.map_nil, List.cons_append, List.nil_append, List.length_cons, List.length_nil, List.reduceReplicate, Nat.reduceAdd, Nat.reduceSub, Bool.not_true, Bool.not_false, Bool.false_eq_true, Bool.true_eq_false, if_true, if_false, decide_true, decide_false, D.int.injEq, D.bl.injEq, D.ref.injEq, exists_and_left, h, and_self])
end K23

end
section
set_option Elab.async false
set_option linter.all false
set_option maxRecDepth 100000
set_option maxHeartbeats 4000000
/-! sorted(set(..)): of a list or a tuple of ints, fewer than 64 unlike ones -/
namespace Ms
open PySem PySem.Spec PyProof.Rows L2
theorem call_set_lstI {l : Addr} {items : Array Value} (ns : List Int) {Q : Value → Shared → Prop} (hh : A.handled = none) (hl : s.heap.IsList l items) (hit : IntsAre items.toList ns) (hb : ns.length + 1 < scanBound)
    (h : ∀ (h' : Heap) (tk c : Nat), SetR w h' s.heap.objs.size (fun j => decide (j ∈ ns)) c → c ≤ ns.length → (∀ b o, s.heap.get? b = some o → h'.get? b = some o) → Q (.ref s.heap.objs.size) { s with heap := h', toks := tk }) :
    wpAny (model P w) A (call (.type "set") [.ref l]) Q E s := by
  have hisz : items.size = ns.length := by
    have q := IntsAre.length hit
    rw [Array.length_toList] at q
    exact q
  obtain ⟨c, tl, hmro⟩ := F.called_set.mro
  have hmade := F.called_set.made
  have hsub := F.called_set.sub
  refine wpAny_call (codeAny_of_tree ?_)
  show wpAny _ _ (callAny (.type "set") _) _ _ _
  refine wpAny_pure ⟨Code.quiet_builtin _ (by decide +kernel), codeAny_builtin F.entry_type_call ?_⟩
  rw [Around.under_plain (weight_type_call_type "set" [.ref l] []) rfl]
  have h1 := F.called_set.notType
  have h2 := F.called_set.canCreate
  have hct := F.typeCall_set_1 (.ref l)
  repeat (any_goals (first | assumption | wp_step))

  refine codeAny_mono (code_set_led1 (.ref l) (E := E) (Q₁ := fun obj s₁ => obj = .ref s.heap.objs.size ∧ s₁ = { s with heap := s.heap.push { cls := .type "set", dict := none, data := .set #[] 0 (.fresh 0 0 (!w.params.followText "set-order")) } }) ⟨rfl, rfl⟩) fun r s₁ hr => ?_
  cases r with
  | error e => exact hr
  | ok fl =>
    cases fl with
    | ret obj =>
      obtain ⟨rfl, rfl⟩ := hr
      have hS : (s.heap.push { cls := .type "set", dict := none, data := .set #[] 0 (.fresh 0 0 (!w.params.followText "set-order")) }).get? s.heap.objs.size = some { cls := .type "set", dict := none, data := .set #[] 0 (.fresh 0 0 (!w.params.followText "set-order")) } := Heap.get?_push_size _ rfl
      have hT : Shared.TypeIs { s with heap := s.heap.push { cls := .type "set", dict := none, data := .set #[] 0 (.fresh 0 0 (!w.params.followText "set-order")) } } (.ref s.heap.objs.size) "set" := ⟨_, hS, rfl⟩
      have hli := F.called_set.init.lookup
      have hbi := F.called_set.init.bind (.ref s.heap.objs.size)
      repeat (any_goals (first | assumption | wp_step))

      refine codeAny_mono (codeAny_call_builtin (R := wants (fun r s₂ => r = .none ∧ ∃ h' tk c, s₂ = { s with heap := h', toks := tk } ∧ SetR w h' s.heap.objs.size (fun j => decide (j ∈ ns)) c ∧ c ≤ ns.length ∧
          (∀ b o, s.heap.get? b = some o → h'.get? b = some o)) E) F.called_set.init.plain F.entry_set_init (check_set_init_1 hT ?_)) fun r₂ s₂ hr₂ => ?_
      · obtain ⟨ol, hol, hcl, nl, hdl⟩ := hl
        obtain ⟨ocls, odict, odata, oslots⟩ := ol
        simp only at hcl hdl
        subst hcl; subst hdl
        have hol' : (s.heap.push { cls := .type "set", dict := none, data := .set #[] 0 (.fresh 0 0 (!w.params.followText "set-order")) }).get? l = some { cls := .type "list", dict := odict, data := .seq items nl, slots := oslots } := Heap.get?_push_of_some _ hol
        have hsls := F.sub_list_set
        have hslf := F.sub_list_frozenset
        have hne : (Value.type "list" == Value.type "dict") = false := by decide
        have hl1 : (s.heap.push { cls := .type "set", dict := none, data := .set #[] 0 (.fresh 0 0 (!w.params.followText "set-order")) }).IsList l items := ⟨_, hol', rfl, nl, rfl⟩
        unfold Builtin.«set.__init__» noKeywords Builtin.Frozenset.updateFrom
        generalize hPI : pyIter = PI
        wp_walk
        subst hPI

        refine wpAny_pyIter_list hl1 ?_
        refine wpAny_bind (wpAny_runValue ?_)
        have hlS : l < s.heap.objs.size := Heap.lt_size hol
        have hh3 : A.in1.in1.in1.handled = none := by simp [hh]
        have hz1 : (s.heap.push { cls := .type "set", dict := none, data := .set #[] 0 (.fresh 0 0 (!w.params.followText "set-order")) }).objs.size = s.heap.objs.size + 1 := Heap.size_push ..
        have hneI : l ≠ (s.heap.push { cls := .type "set", dict := none, data := .set #[] 0 (.fresh 0 0 (!w.params.followText "set-order")) }).objs.size := by
          rw [Heap.size_push]; exact Nat.ne_of_lt (Nat.lt_succ_of_lt hlS)
        have hSf : s.heap.objs.size ∉ [(s.heap.push { cls := .type "set", dict := none, data := .set #[] 0 (.fresh 0 0 (!w.params.followText "set-order")) }).objs.size, l] := by
          rw [Heap.size_push]; simp only [List.mem_cons, List.mem_singleton, List.not_mem_nil, or_false, not_or]
          exact ⟨Nat.ne_of_lt (Nat.lt_succ_self _), Nat.ne_of_gt hlS⟩
        have hval : ∀ (i : Nat) (v : Value), items[i]? = some v → ∃ k t, ns[i]? = some k ∧ v = .int k t := fun i v hv => by
          have hi : i < ns.length := by rw [← hisz]; exact (Array.getElem?_eq_some_iff.mp hv).1
          obtain ⟨t, e⟩ := PyProof.Rows.IntsAre.int_at hit i v (by rw [Array.getElem?_toList]; exact hv)
          refine ⟨ns[i], t, List.getElem?_eq_getElem hi, ?_⟩
          rw [e, List.getD_eq_getElem?_getD, List.getElem?_eq_getElem hi] <;> rfl
        refine set_update_ints ((Walks.list hh3 _ l hneI items).toS) s.heap.objs.size
          hSf ns hisz hb hval (items.size - 0) 0 _ (by omega) (Nat.zero_le _)
          ⟨⟨_, Heap.get?_push_size _ rfl, rfl, rfl⟩, (hl1.push _)⟩ ?hS0 ?hR
        case hS0 =>
          have hget : ((s.heap.push { cls := .type "set", dict := none, data := .set #[] 0 (.fresh 0 0 (!w.params.followText "set-order")) }).push { cls := .type "list_iterator", data := .fields #[.ref l, .int 0 0] }).get? s.heap.objs.size
              = some { cls := .type "set", dict := none, data := .set #[] 0 (.fresh 0 0 (!w.params.followText "set-order")) } := Heap.get?_push_of_some _ hS
          exact ⟨0, Nat.le_refl 0, setR_new_at hget⟩
        case hR =>
          intro s' c' hm hc' hS'
          obtain ⟨h', g2, d', tk', os'⟩ := s'
          have eg : g2 = s.gens := hm.gens
          have ed : d' = s.drawn := hm.drawn
          have eo : os' = s.os := hm.os
          subst eg; subst ed; subst eo
          show wpAny _ _ _ _ _ _
          refine wpAny_pure ?_
          show wpAny _ _ (ret Value.none) _ _ _
          rw [hisz] at hc'
          refine wpAny_pure ⟨rfl, h', tk', c', rfl, hS', hc', fun b o e => ?_⟩
          have hb0 : b < s.heap.objs.size := Heap.lt_size e
          have hb1 : b ≠ s.heap.objs.size := Nat.ne_of_lt hb0
          have hb2 : b ≠ (s.heap.push { cls := .type "set", dict := none, data := .set #[] 0 (.fresh 0 0 (!w.params.followText "set-order")) }).objs.size := by
            rw [Heap.size_push]; exact Nat.ne_of_lt (Nat.lt_succ_of_lt hb0)
          exact hm.heap b o (by simp only [List.mem_cons, List.mem_singleton, List.not_mem_nil, or_false, not_or]; exact ⟨hb1, hb2⟩) (Heap.get?_push_of_some _ (Heap.get?_push_of_some _ e))

      · cases r₂ with
        | error e => exact hr₂
        | ok fl₂ =>
          cases fl₂ with
          | ret r =>
            obtain ⟨rfl, h', tk, c', rfl, hS', hc', hk'⟩ := hr₂
            repeat (any_goals (first | assumption | wp_step))
            exact h _ _ _ hS' hc' hk'
          | _ => exact hr₂.elim
    | _ => exact hr.elim

/-- put in its place, once -/
def ins1 (k : Int) : List Int → List Int
  | [] => [k]
  | x :: r => if k < x then k :: x :: r else if k = x then x :: r else x :: ins1 k r
/-- the unlike ones, ascending -/
def usrt (ns : List Int) : List Int := ns.foldr ins1 []
theorem mem_ins1 {k j : Int} : ∀ {l : List Int}, j ∈ ins1 k l ↔ j = k ∨ j ∈ l
  | [] => by simp [ins1]
  | x :: r => by
    unfold ins1
    split
    · simp
    · split
      · rename_i h; subst h; simp
      · rw [List.mem_cons, mem_ins1, List.mem_cons]
        constructor
        · rintro (h | h | h)
          · exact .inr (.inl h)
          · exact .inl h
          · exact .inr (.inr h)
        · rintro (h | h | h)
          · exact .inr (.inl h)
          · exact .inl h
          · exact .inr (.inr h)
theorem ins1_sorted {k : Int} : ∀ {l : List Int}, l.Pairwise (· < ·) → (ins1 k l).Pairwise (· < ·)
  | [], _ => by simp [ins1]
  | x :: r, h => by
    obtain ⟨h1, h2⟩ := List.pairwise_cons.mp h
    unfold ins1
    split
    · rename_i hk
      refine List.pairwise_cons.mpr ⟨fun y hy => ?_, h⟩
      rcases List.mem_cons.mp hy with rfl | hy
      · exact hk
      · have := h1 y hy; omega
    · split
      · exact h
      · refine List.pairwise_cons.mpr ⟨fun y hy => ?_, ins1_sorted h2⟩
        rcases mem_ins1.mp hy with rfl | hy
        · omega
        · exact h1 y hy
theorem mem_usrt {j : Int} {ns : List Int} : j ∈ usrt ns ↔ j ∈ ns := by
  induction ns with
  | nil => simp [usrt]
  | cons x r ih =>
    show j ∈ ins1 x (usrt r) ↔ _
    rw [mem_ins1, ih, List.mem_cons]
theorem usrt_sorted {ns : List Int} : (usrt ns).Pairwise (· < ·) := by
  induction ns with
  | nil => exact .nil
  | cons x r ih => exact ins1_sorted ih
theorem sorted_ext : ∀ {l m : List Int}, l.Pairwise (· < ·) → m.Pairwise (· < ·) → (∀ k, k ∈ l ↔ k ∈ m) → l = m
  | [], [], _, _, _ => rfl
  | [], y :: s, _, _, h => by have := (h y).mpr List.mem_cons_self; cases this
  | x :: r, [], _, _, h => by have := (h x).mp List.mem_cons_self; cases this
  | x :: r, y :: s, a, b, h => by
    obtain ⟨a1, a2⟩ := List.pairwise_cons.mp a
    obtain ⟨b1, b2⟩ := List.pairwise_cons.mp b
    have e : x = y := by
      rcases List.mem_cons.mp ((h x).mp List.mem_cons_self) with e | e
      · exact e
      · rcases List.mem_cons.mp ((h y).mpr List.mem_cons_self) with e2 | e2
        · exact e2.symm
        · have := a1 y e2; have := b1 x e; omega
    subst e
    refine congrArg (x :: ·) (sorted_ext a2 b2 fun k => ?_)
    constructor
    · intro hk
      rcases List.mem_cons.mp ((h k).mp (List.mem_cons_of_mem _ hk)) with e | e
      · subst e; exact absurd (a1 _ hk) (by omega)
      · exact e
    · intro hk
      rcases List.mem_cons.mp ((h k).mpr (List.mem_cons_of_mem _ hk)) with e | e
      · subst e; exact absurd (b1 _ hk) (by omega)
      · exact e
theorem usrt_eq {ns l : List Int} (h : l.Pairwise (· < ·)) (m : ∀ k, k ∈ l ↔ k ∈ ns) : usrt ns = l := sorted_ext usrt_sorted h fun k => by rw [mem_usrt, m]
theorem usrt_nodup {ns : List Int} : (usrt ns).Nodup := usrt_sorted.imp fun h => by omega
section
variable {X : Cx} {P : Pm} {E : XK} {F : Fn D} {a : Expr} {pos : Pos}
theorem pe_sortSet {ta : TE} {p p2 q : Pos} (hg : Gl X "sorted") (hm : X.mg "sorted" = none) (hg2 : Gl X "set") (hm2 : X.mg "set" = none) (ha : PE X a ta) (hc : X.calm = true := by rfl)
    (na : starEach [a] X.env = (false, eval a X.env) :: starEach [] X.env := by rfl) :
    PE X (.Call (.Name "sorted" p) [.Call (.Name "set" p2) [a] [] q] [] pos) (fun σ H Q => ta σ H fun x H1 => ∃ (l : Addr) (ns : List Int), x = .ref l ∧ (SqL X.K H1 l (ns.map V.int) ∨ SqT X.K H1 l (ns.map V.int)) ∧ ns.length ≤ 4000 ∧ (usrt ns).length < 64 ∧ ∀ p, H1 p = none → Q (.ref p) (upd H1 p (.lst ((usrt ns).map V.int)))) := by
  refine ⟨fun pins s σ H Q I h => ?_⟩
  refine Call_ (ld_blt I hg hm (by decide +kernel : bootBuiltins ("sorted" : Str) = some (.builtin "sorted")) (PyProof.Rows.callWith_builtin1 (PyProof.Rows.args_cons ?_ rfl) rfl rfl))
  refine Call_ (ld_blt I hg2 hm2 boot_set (PyProof.Rows.callWith_type1 (PyProof.Rows.args_cons (thn (ha.run pins s σ H _ I h) fun v s1 hu => PyProof.Rows.args_nil ?_) na) na rfl))
  obtain ⟨x, H1, I1, r1, l, ns, rfl, hq, hl, h64, q1⟩ := hu
  cases r1
  have fin : ∀ (h' : Heap) (tk c : Nat), SetR X.w h' s1.heap.objs.size (fun j => decide (j ∈ ns)) c → c ≤ ns.length → (∀ b o, s1.heap.get? b = some o → h'.get? b = some o) →
      wpAny (model X.prog X.w) X.A (call (.builtin "sorted") [.ref s1.heap.objs.size]) (fun v s => ∃ (u : V) (H2 : Hp), Inv X pins σ H2 s ∧ RelV u v ∧ Q u H2) X.xe { s1 with heap := h', toks := tk } := by
    intro h' tk c R1 hcn k
    have I2 : Inv X pins σ H1 { s1 with heap := h', toks := tk } := I1.kept k
    have hcu : c = (usrt ns).length := by
      obtain ⟨o, es, ep, t, ho, hex, hdt, g, nd, hm2, hb, hf, hn, hr, hl2⟩ := R1
      have p : (es.toList.map keyOf).Perm (usrt ns) := (List.perm_ext_iff_of_nodup nd usrt_nodup).mpr fun k => by rw [← hm2 k, mem_usrt]; exact decide_eq_true_iff
      have z := p.length_eq
      rw [List.length_map, Array.length_toList, hn] at z
      exact z
    refine sorted_set R1 (I2.ok.hd hc) (by omega) fun s' p out cc ms kk g o hp hgt hi hs hm3 hl3 => ?_
    have hn : H1 p = none := I2.hok.fresh hp
    have em : usrt ns = ms := usrt_eq hs fun k => by rw [hm3 k]; exact decide_eq_true_iff
    have hlen : (ms.map V.int).length ≤ sizeLine := by rw [List.length_map, hl3, sizeLine_eq]; omega
    have J : Inv X pins σ (upd H1 p (.lst (ms.map V.int))) { ({ s1 with heap := h', toks := tk } : Shared) with heap := s'.heap, gens := s'.gens, drawn := s'.drawn, toks := s'.toks } :=
      I2.call (ch := []) (Un.laid kk hp hn) (I2.hok.laid kk hp ⟨hlen, out.toList, cc, vals_of_ints hi, hgt⟩) (by rw [g]; exact I2.bare) (fun _ z => nomatch z)
    have e : s' = { ({ s1 with heap := h', toks := tk } : Shared) with heap := s'.heap, gens := s'.gens, drawn := s'.drawn, toks := s'.toks } := by
      cases s'
      cases o
      rfl
    rw [e]
    refine ⟨.ref p, _, J, rfl, ?_⟩
    have := q1 p hn
    rw [em] at this
    exact this
  rcases hq with hq | hq
  · obtain ⟨its, r, pl, hz⟩ := I1.list hq
    refine call_set_lstI ns (I1.ok.hd hc) pl.isList (by simpa using r.ints) (by unfold scanBound; omega) fun h' tk c st_ le kp => PyProof.Rows.args_nil ?_
    exact fin h' tk c st_ le kp
  · obtain ⟨its, r, pl, hz⟩ := I1.tuple hq
    refine call_set_tupI ns (I1.ok.hd hc) pl (by simpa using r.ints) (by unfold scanBound; omega) fun h' tk c st_ le kp => PyProof.Rows.args_nil ?_
    exact fin h' tk c st_ le kp
def cSortSet (st : Sto) (d : D) : Option D := ((vs st d).bind toInts).bind fun ns => if ns.length ≤ 4000 ∧ (usrt ns).length < 64 then some (.lst ((usrt ns).map .int)) else none
theorem ed_sortSet {p p2 q : Pos} (hg : Gl X "sorted") (hm : X.mg "sorted" = none) (hg2 : Gl X "set") (hm2 : X.mg "set" = none) (ha : ED X P E a F) (hc : X.calm = true := by rfl)
    (na : starEach [a] X.env = (false, eval a X.env) :: starEach [] X.env := by rfl) : ED X P E (.Call (.Name "sorted" p) [.Call (.Name "set" p2) [a] [] q] [] pos) (f1 cSortSet F) := by
  refine pe_imp (pe_sortSet hg hm hg2 hm2 ha hc na) ?_
  rintro σ H Q ⟨β, δ, bx, ev, g, o⟩
  refine d_bind ev g o.x fun β1 bx1 x d H1 l1 g1 r1 o1 => ?_
  obtain ⟨z, hz, kz⟩ := OutX.lft' o1
  unfold cSortSet at hz
  cases hl : vs bx1 d with
  | none => rw [hl] at hz; cases hz
  | some l =>
    rw [hl] at hz
    cases hn : toInts l with
    | none => simp only [Option.bind_some, hn] at hz; cases hz
    | some ns =>
      simp only [Option.bind_some, hn] at hz
      split at hz
      · rename_i hle
        cases hz
        have e := toInts_inv hn
        subst e
        obtain ⟨a, xs, rfl, s, ra⟩ := r1.vs g1 hl
        rw [ra.ints_inv] at s
        exact ⟨a, ns, rfl, s, hle.1, hle.2, fun p hp => kz β1 _ (.new hp) (g1.new hp) _ (.lst ⟨.inl upd_same, g1.ne hp⟩ (RA.ints _))⟩
      · cases hz
end
theorem ev_sortSet {bx : Sto} {d : D} {l : List D} {ns : List Int} (h : vs bx d = some l) (hn : l = ns.map D.int) (h1 : ns.length ≤ 4000) (h2 : (usrt ns).length < 64) : cSortSet bx d = some (.lst ((usrt ns).map .int)) := by
  unfold cSortSet
  rw [h, hn]
  have : toInts (ns.map D.int) = some ns := by
    clear h hn h1 h2
    induction ns with
    | nil => rfl
    | cons x r ih => simp [toInts, ih]
  simp only [Option.bind_some, this]
  rw [if_pos ⟨h1, h2⟩]
end Ms

end
section
set_option Elab.async false
set_option linter.all false
set_option maxRecDepth 100000
set_option maxHeartbeats 4000000
namespace K23
open PySem PySem.Spec PyProof.Rows L2 Ms
open Poly (dot inv tb share shares wts lp knowns newton subsF chips In8 nthD firsts)
theorem chF_sorted : ∀ (r : Row) (k : Nat), (chF k r).Pairwise (· < ·)
  | [], k => .nil
  | none :: r, k => chF_sorted r (k + 1)
  | some v :: r, k => List.pairwise_cons.mpr ⟨fun x hx => by
    have := (mem_chF r (k + 1)).mp hx
    omega, chF_sorted r (k + 1)⟩
theorem chR_filter {r : Row} : (rg 0 r.length).filter (fun x => (r[x.toNat]?).join.isSome) = chR r := by
  refine sorted_ext (rg_sorted.filter _) (chF_sorted r 0) fun x => ?_
  rw [List.mem_filter, mem_rg, mem_chR]
  constructor
  · rintro ⟨⟨h0, h1⟩, h2⟩
    refine ⟨h0, ?_⟩
    cases e : r[x.toNat]? with
    | none => rw [e] at h2; cases h2
    | some o =>
      cases o with
      | none => rw [e] at h2; cases h2
      | some v => exact ⟨v, rfl⟩
  · rintro ⟨h0, v, hv⟩
    have := (List.getElem?_eq_some_iff.mp hv).1
    exact ⟨⟨h0, by omega⟩, by rw [hv]; rfl⟩
def ptR (r : Row) : List (Int × Int) := (chR r).map fun x => (x, valR r x)
theorem ptR_take {r : Row} {n : Nat} : (ptR r).take n = ((chR r).take n).zip (((chR r).take n).map (valR r)) := by
  rw [zip_map_self]
  unfold ptR
  rw [List.map_take]
theorem newton_tell {r : Row} {n : Nat} {x : Int} (h8 : r.length ≤ 8) (hx : In8 x) : newton ((ptR r).take n) x = tellR r n x := by
  rw [ptR_take]
  exact Poly.newton_eq (Poly.take_sub n (chR_sub h8)) (by simp) (chips_of hx)
theorem lc_effF {j : Nat} {δ : List (Option D)} {bx : Sto} {C : Fn Bool} {ds : List D} {p : D → Bool} {E : Str → D → Sto → Prop} (hj : j < δ.length) (h : ∀ d ∈ ds, ∀ bx', W (C (δ.set j (some d)) bx') (fun b st => b = p d ∧ ∃ ys, st = bx' ++ ys) NoE) :
    W (lcGo (bOne j) δ C (fVar j) ds bx []) (fun acc st => acc = ds.filter p ∧ ∃ ys, st = bx ++ ys) E := by
  refine lc_rule (fun i acc st => acc = (ds.take i).filter p ∧ ∃ ys, st = bx ++ ys) ⟨rfl, [], by simp⟩ ?_ ?_
  · rintro acc st ⟨rfl, ys, rfl⟩
    rw [List.take_length]
    exact ⟨rfl, ys, rfl⟩
  · rintro i d acc st hd ⟨rfl, ys, rfl⟩
    refine ⟨_, rfl, ?_⟩
    refine (h d (List.mem_of_getElem? hd) _).to fun b st ⟨e1, zs, e2⟩ => ?_
    subst e1 e2
    have et : ds.take (i + 1) = ds.take i ++ [d] := by rw [List.take_add_one, hd]; rfl
    have ea : ∀ S : List D, S ++ ([d] : List D).filter p = if p d = true then S ++ [d] else S := fun S => by
      cases hp : p d with
      | true => simp [hp]
      | false => simp [hp]
    cases hp : p d with
    | true =>
      rw [if_pos rfl, W_var]
      refine ⟨d, by rw [List.getElem?_set_self hj], ?_, ys ++ zs, List.append_assoc _ _ _⟩
      rw [et, List.filter_append, ea, if_pos hp]
    | false =>
      rw [if_neg (by decide)]
      refine ⟨?_, ys ++ zs, List.append_assoc _ _ _⟩
      rw [et, List.filter_append, ea, if_neg (by rw [hp]; decide)]
theorem told_fw {r : Row} {n : Nat} (n8 : n ≤ 8) : Fw (toldD (toldR r n)) 1 400 := by
  unfold toldR
  split
  · refine ((Fw.tup (a := 0) (b := 31) fun d hd => ?_).mono (by decide) (by rw [List.length_map, List.length_map, rg_len]; omega))
    obtain ⟨i, hi, rfl⟩ := List.mem_map.mp hd
    obtain ⟨x, _, rfl⟩ := List.mem_map.mp hi
    have h0 : 0 ≤ tellR r n x := Int.emod_nonneg _ (by decide)
    have h1 : tellR r n x < 257 := Int.emod_lt_of_pos _ (by decide)
    exact (Fit.int (by omega)).fw
  · exact Fit.non.fw.mono (by decide) (by decide)
theorem told_sh {r : Row} {n : Nat} (n8 : n ≤ 8) : Sh (.lst [toldD (toldR r n), toldD (toldR r n)]) := by
  refine (Fw.lst (a := 1) (b := 400) fun d hd => ?_).ok (by decide) (by show 2 * 401 ≤ _; decide)
  simp only [List.mem_cons, List.not_mem_nil, or_false] at hd
  rcases hd with rfl | rfl <;> exact told_fw n8
theorem pts_sm {r : Row} : ∀ d ∈ ptsD (ptR r), Sm d := fun d hd => by
  obtain ⟨p, _, rfl⟩ := List.mem_map.mp hd
  exact ⟨rfl, rfl, by simp [D.py, D.pyAll, PyData.depth, PyData.depthAll]⟩
def ptTest (r : Row) (n : Nat) : D → Bool
  | .tup [.int x, .int v] => !(tellR r n x == v)
  | _ => false
theorem due_eq {r : Row} {n : Nat} : (((ptsD (ptR r)).drop n).filter (ptTest r n)).isEmpty = agr r n := by
  rw [filt_nil]
  unfold agr ptsD ptR
  rw [← List.map_drop, ← List.map_drop, List.all_map, List.all_map]
  refine List.all_congr rfl fun x => ?_
  show (!(!(tellR r n x == valR r x))) = _
  rw [Bool.eq_iff_iff]
  simp
theorem pair0 {x v : Int} {bx : Sto} : cIx bx (.tup [.int x, .int v]) (.int 0) = some (.int x) := by rw [ev_ix vs_tup]; rfl
theorem pair1 {x v : Int} {bx : Sto} : cIx bx (.tup [.int x, .int v]) (.int 1) = some (.int v) := by rw [ev_ix vs_tup]; rfl
theorem ptsD_take {p : List (Int × Int)} {n : Nat} : (ptsD p).take n = ptsD (p.take n) := by unfold ptsD; rw [List.map_take]
theorem atR_ok {r : Row} {n : Nat} {x : Int} (h8 : r.length ≤ 8) (hx : In8 x) (bx : Sto) : W (m__law_at [.lst ((ptsD (ptR r)).take n), .int x] bx) (fun y st => y = .int (tellR r n x) ∧ ∃ ys, st = bx ++ ys) NoE := by
  rw [ptsD_take]
  refine (at_ok (pts := (ptR r).take n) ?_ (fun p hp => ?_) hx bx).to fun y st ⟨e1, e2⟩ => ?_
  · have := subs8 (chR_sub h8)
    unfold ptR
    rw [List.length_take, List.length_map]
    omega
  · have := List.mem_of_mem_take hp
    obtain ⟨x, hx, rfl⟩ := List.mem_map.mp this
    exact subs_in8 (chR_sub h8) x hx
  · rw [newton_tell h8 hx] at e1
    exact ⟨e1, _, e2⟩
theorem row_right {r : Row} {c n : Nat} (hl : r.length = c) (c2 : 2 ≤ c) (c8 : c ≤ 8) (n1 : 1 ≤ n) (nc : n ≤ c) (ok : okR r) (bx : Sto) : Th (W (m__law_row_right [.int c, .int n, .lst (r.map celD)] bx) (fun x st => x = .bl true ∧ ∃ ys, st = bx ++ ys) NoE) := by
  constructor
  have h8 : r.length ≤ 8 := by omega
  have n8 : n ≤ 8 := by omega
  unfold m__law_row_right S__law_row_right N__law_row_right
  rw [W_noErr, W_fnD, WS_seq, WS_set, W_lc, W_lcA]
  simp only [WS_next, W_B, W_f1, W_f2, W_fA, W_cons, W_pur, W_var, W_not, W_ifT, W_ifB, W_call, W_callK, W_chain, W_wk, W_sl, W_po, W_poN, W_ok, W_err, W_noErr, W_fnD, ev_plus, ev_sub, ev_iB, ev_toB, ev_not, ev_neg, ev_isN, ev_notN, ev_isB, ev_int, ev_abs, ev_max, ev_min, ev_eqI, ev_neI, Ms.isNon, Option.some.injEq, exists_eq_left', List.getElem?_cons_zero, List.getElem?_cons_succ, List.set_cons_zero, List.set_cons_succ, List.map_cons, List.map_nil, List.cons_append, List.nil_append, List.length_cons, List.length_nil, List.reduceReplicate, Nat.reduceAdd, Nat.reduceSub, Bool.not_true, Bool.not_false, Bool.false_eq_true, Bool.true_eq_false, if_true, if_false, decide_true, decide_false, D.int.injEq, D.bl.injEq, D.ref.injEq, exists_and_left, W_rg1]
  refine ⟨_, rfl, by omega, by omega, ?_⟩
  have tc : ((c : Int)).toNat = c := by omega
  rw [tc, rgl_rg]
  refine ⟨by rw [List.length_map, rg_len]; omega, ?_⟩
  have ixr : ∀ (bx : Sto) (x : Int), 0 ≤ x → x < c → cIx bx (.lst (r.map celD)) (.int x) = some (celD ((r[x.toNat]?).join)) := fun bx x h0 h1 => by
    rw [ev_ix vs_lst]
    refine atI_int h0 ?_
    have hlt : x.toNat < r.length := by omega
    rw [List.getElem?_map, List.getElem?_eq_getElem hlt]
    rfl
  rw [lc_pure (c := fun d => match d with | .int x => (r[x.toNat]?).join.isSome | _ => false) (f := fun d => match d with | .int x => .tup [.int x, .int (valR r x)] | _ => .non) fun d hd => ⟨_, rfl, by
    obtain ⟨x, hx, rfl⟩ := List.mem_map.mp hd
    have hm := mem_rg.mp hx
    have e := ixr bx x hm.1 (by omega)
    cases ho : (r[x.toNat]?).join with
    | none =>
      rw [ho] at e
      refine ⟨W.eq (by simp only [unset, List.foldl_cons, List.foldl_nil, WS_next, W_B, W_f1, W_f2, W_fA, W_cons, W_pur, W_var, W_not, W_ifT, W_ifB, W_call, W_callK, W_chain, W_wk, W_sl, W_po, W_poN, W_ok, W_err, W_noErr, W_fnD, ev_plus, ev_sub, ev_iB, ev_toB, ev_not, ev_neg, ev_isN, ev_notN, ev_isB, ev_int, ev_abs, ev_max, ev_min, ev_eqI, ev_neI, Ms.isNon, Option.some.injEq, exists_eq_left', List.getElem?_cons_zero, List.getElem?_cons_succ, List.set_cons_zero, List.set_cons_succ, List.map_cons, List.map_nil, List.cons_append, List.nil_append, List.length_cons, List.length_nil, List.reduceReplicate, Nat.reduceAdd, Nat.reduceSub, Bool.not_true, Bool.not_false, Bool.false_eq_true, Bool.true_eq_false, if_true, if_false, decide_true, decide_false, D.int.injEq, D.bl.injEq, D.ref.injEq, exists_and_left, e, celD]; exact ⟨by rw [ho]; rfl, trivial⟩), fun z => by simp [ho] at z⟩
    | some v =>
      rw [ho] at e
      have ev : valR r x = v := by unfold valR; rw [ho]; rfl
      refine ⟨W.eq (by simp only [unset, List.foldl_cons, List.foldl_nil, WS_next, W_B, W_f1, W_f2, W_fA, W_cons, W_pur, W_var, W_not, W_ifT, W_ifB, W_call, W_callK, W_chain, W_wk, W_sl, W_po, W_poN, W_ok, W_err, W_noErr, W_fnD, ev_plus, ev_sub, ev_iB, ev_toB, ev_not, ev_neg, ev_isN, ev_notN, ev_isB, ev_int, ev_abs, ev_max, ev_min, ev_eqI, ev_neI, Ms.isNon, Option.some.injEq, exists_eq_left', List.getElem?_cons_zero, List.getElem?_cons_succ, List.set_cons_zero, List.set_cons_succ, List.map_cons, List.map_nil, List.cons_append, List.nil_append, List.length_cons, List.length_nil, List.reduceReplicate, Nat.reduceAdd, Nat.reduceSub, Bool.not_true, Bool.not_false, Bool.false_eq_true, Bool.true_eq_false, if_true, if_false, decide_true, decide_false, D.int.injEq, D.bl.injEq, D.ref.injEq, exists_and_left, e, celD]; exact ⟨by rw [ho]; rfl, trivial⟩), fun z => W.eq (by
        simp only [unset, List.foldl_cons, List.foldl_nil, WS_next, W_B, W_f1, W_f2, W_fA, W_cons, W_pur, W_var, W_not, W_ifT, W_ifB, W_call, W_callK, W_chain, W_wk, W_sl, W_po, W_poN, W_ok, W_err, W_noErr, W_fnD, ev_plus, ev_sub, ev_iB, ev_toB, ev_not, ev_neg, ev_isN, ev_notN, ev_isB, ev_int, ev_abs, ev_max, ev_min, ev_eqI, ev_neI, Ms.isNon, Option.some.injEq, exists_eq_left', List.getElem?_cons_zero, List.getElem?_cons_succ, List.set_cons_zero, List.set_cons_succ, List.map_cons, List.map_nil, List.cons_append, List.nil_append, List.length_cons, List.length_nil, List.reduceReplicate, Nat.reduceAdd, Nat.reduceSub, Bool.not_true, Bool.not_false, Bool.false_eq_true, Bool.true_eq_false, if_true, if_false, decide_true, decide_false, D.int.injEq, D.bl.injEq, D.ref.injEq, exists_and_left, e, celD]
        exact ⟨_, ev_tup (show [D.int x, D.int v].length ≤ 1000 by show 2 ≤ 1000; decide), by rw [ev], trivial⟩)⟩⟩, W_ok]
  have ep : (((rg 0 c).map D.int).filter fun d => match d with | .int x => (r[x.toNat]?).join.isSome | _ => false).map (fun d => match d with | .int x => D.tup [.int x, .int (valR r x)] | _ => .non) = ptsD (ptR r) := by
    rw [List.filter_map, List.map_map]
    have e1 : ((rg 0 c).filter ((fun d => match d with | .int x => (r[x.toNat]?).join.isSome | _ => false) ∘ D.int)) = chR r := by
      rw [← hl]
      exact chR_filter
    rw [e1]
    unfold ptsD ptR
    rw [List.map_map]
    rfl
  rw [List.nil_append, ep]
  rw [WS_seq, WS_set, W_f2, W_lc, W_lcA, W_wk, W_sl]
  have wl : ∀ l : List D, wlk (.lst l) = some l := fun _ => rfl
  simp only [WS_next, W_B, W_f1, W_f2, W_fA, W_cons, W_pur, W_var, W_not, W_ifT, W_ifB, W_call, W_callK, W_chain, W_wk, W_sl, W_po, W_poN, W_ok, W_err, W_noErr, W_fnD, ev_plus, ev_sub, ev_iB, ev_toB, ev_not, ev_neg, ev_isN, ev_notN, ev_isB, ev_int, ev_abs, ev_max, ev_min, ev_eqI, ev_neI, Ms.isNon, Option.some.injEq, exists_eq_left', List.getElem?_cons_zero, List.getElem?_cons_succ, List.set_cons_zero, List.set_cons_succ, List.map_cons, List.map_nil, List.cons_append, List.nil_append, List.length_cons, List.length_nil, List.reduceReplicate, Nat.reduceAdd, Nat.reduceSub, Bool.not_true, Bool.not_false, Bool.false_eq_true, Bool.true_eq_false, if_true, if_false, decide_true, decide_false, D.int.injEq, D.bl.injEq, D.ref.injEq, exists_and_left, ev_slL, cut_drop, wl]
  have lp8 : (ptsD (ptR r)).length ≤ 8 := by
    have := subs8 (chR_sub h8)
    unfold ptsD ptR
    rw [List.length_map, List.length_map]
    exact this
  refine ⟨by rw [List.length_drop]; omega, ?_⟩
  refine (lc_effF (p := ptTest r n) (by simp [unset]) fun d hd bx' => ?_).imp (fun acc st ⟨e1, ys, e2⟩ => ?_) (fun _ _ _ z => z)
  · have hd' := List.mem_of_mem_drop hd
    obtain ⟨p, hp, rfl⟩ := List.mem_map.mp hd'
    obtain ⟨x, hx, rfl⟩ := List.mem_map.mp hp
    have x8 := subs_in8 (chR_sub h8) x hx
    simp only [unset, List.foldl_cons, List.foldl_nil, WS_next, W_B, W_f1, W_f2, W_fA, W_cons, W_pur, W_var, W_not, W_ifT, W_ifB, W_call, W_callK, W_chain, W_wk, W_sl, W_po, W_poN, W_ok, W_err, W_noErr, W_fnD, ev_plus, ev_sub, ev_iB, ev_toB, ev_not, ev_neg, ev_isN, ev_notN, ev_isB, ev_int, ev_abs, ev_max, ev_min, ev_eqI, ev_neI, Ms.isNon, Option.some.injEq, exists_eq_left', List.getElem?_cons_zero, List.getElem?_cons_succ, List.set_cons_zero, List.set_cons_succ, List.map_cons, List.map_nil, List.cons_append, List.nil_append, List.length_cons, List.length_nil, List.reduceReplicate, Nat.reduceAdd, Nat.reduceSub, Bool.not_true, Bool.not_false, Bool.false_eq_true, Bool.true_eq_false, if_true, if_false, decide_true, decide_false, D.int.injEq, D.bl.injEq, D.ref.injEq, exists_and_left, ev_slL, cut_take, pair0]
    refine (atR_ok h8 x8 bx').to fun y st ⟨e1, ys, e2⟩ => ?_
    subst e1 e2
    simp only [WS_next, W_B, W_f1, W_f2, W_fA, W_cons, W_pur, W_var, W_not, W_ifT, W_ifB, W_call, W_callK, W_chain, W_wk, W_sl, W_po, W_poN, W_ok, W_err, W_noErr, W_fnD, ev_plus, ev_sub, ev_iB, ev_toB, ev_not, ev_neg, ev_isN, ev_notN, ev_isB, ev_int, ev_abs, ev_max, ev_min, ev_eqI, ev_neI, Ms.isNon, Option.some.injEq, exists_eq_left', List.getElem?_cons_zero, List.getElem?_cons_succ, List.set_cons_zero, List.set_cons_succ, List.map_cons, List.map_nil, List.cons_append, List.nil_append, List.length_cons, List.length_nil, List.reduceReplicate, Nat.reduceAdd, Nat.reduceSub, Bool.not_true, Bool.not_false, Bool.false_eq_true, Bool.true_eq_false, if_true, if_false, decide_true, decide_false, D.int.injEq, D.bl.injEq, D.ref.injEq, exists_and_left, pair1]
    exact ⟨rfl, ys, rfl⟩
  · subst e1 e2
    have sm : ∀ d ∈ ((ptsD (ptR r)).drop n).filter (ptTest r n), Sm d := fun d hd => pts_sm d (List.mem_of_mem_drop (List.mem_filter.mp hd).1)
    simp only [WS_next, W_B, W_f1, W_f2, W_fA, W_cons, W_pur, W_var, W_not, W_ifT, W_ifB, W_call, W_callK, W_chain, W_wk, W_sl, W_po, W_poN, W_ok, W_err, W_noErr, W_fnD, ev_plus, ev_sub, ev_iB, ev_toB, ev_not, ev_neg, ev_isN, ev_notN, ev_isB, ev_int, ev_abs, ev_max, ev_min, ev_eqI, ev_neI, Ms.isNon, Option.some.injEq, exists_eq_left', List.getElem?_cons_zero, List.getElem?_cons_succ, List.set_cons_zero, List.set_cons_succ, List.map_cons, List.map_nil, List.cons_append, List.nil_append, List.length_cons, List.length_nil, List.reduceReplicate, Nat.reduceAdd, Nat.reduceSub, Bool.not_true, Bool.not_false, Bool.false_eq_true, Bool.true_eq_false, if_true, if_false, decide_true, decide_false, D.int.injEq, D.bl.injEq, D.ref.injEq, exists_and_left, ev_lst, Nat.zero_le, Nat.reduceLeDiff, eq_nil sm, due_eq]
    rw [WS_seq, WS_if, W_B, W_f2, W_fA, W_cons, W_fA, W_cons, W_call]
    simp only [WS_next, W_B, W_f1, W_f2, W_fA, W_cons, W_pur, W_var, W_not, W_ifT, W_ifB, W_call, W_callK, W_chain, W_wk, W_sl, W_po, W_poN, W_ok, W_err, W_noErr, W_fnD, ev_plus, ev_sub, ev_iB, ev_toB, ev_not, ev_neg, ev_isN, ev_notN, ev_isB, ev_int, ev_abs, ev_max, ev_min, ev_eqI, ev_neI, Ms.isNon, Option.some.injEq, exists_eq_left', List.getElem?_cons_zero, List.getElem?_cons_succ, List.set_cons_zero, List.set_cons_succ, List.map_cons, List.map_nil, List.cons_append, List.nil_append, List.length_cons, List.length_nil, List.reduceReplicate, Nat.reduceAdd, Nat.reduceSub, Bool.not_true, Bool.not_false, Bool.false_eq_true, Bool.true_eq_false, if_true, if_false, decide_true, decide_false, D.int.injEq, D.bl.injEq, D.ref.injEq, exists_and_left]
    obtain ⟨bx1, hb1⟩ : ∃ z : Sto, z = bx ++ ys := ⟨_, rfl⟩
    rw [← hb1]
    have sd := sh_two (p := agr r n)
    have pk : ∀ x y z : D, Ms.pick .non [2, 1, 0] [x, y, z] = [z, y, x] := fun _ _ _ => rfl
    have hk := fits_ok (d := .lst (r.map celD)) (.inl rfl) hl c2 c8 n1 nc ok bx1
    revert hk
    generalize m_fits [.int (c:Int), .int (n:Int), .lst (r.map celD)] bx1 = R
    intro hk
    refine hk.h.to fun x st ⟨e1, zs, e2⟩ => ?_
    clear hk R
    subst e1 e2
    refine ⟨.tup (r.map celD), ev_tupOfL, ?_⟩
    rw [pk]
    have hk := fits_ok (d := .tup (r.map celD)) (.inr rfl) hl c2 c8 n1 nc ok (bx1 ++ zs)
    revert hk
    generalize m_fits [.int (c:Int), .int (n:Int), .tup (r.map celD)] (bx1 ++ zs) = R
    intro hk
    refine hk.h.to fun x st ⟨e1, zs2, e2⟩ => ?_
    clear hk R
    subst e1 e2
    refine ⟨_, ev_lst (show [D.bl (agr r n), D.bl (agr r n)].length ≤ 1000 by show 2 ≤ 1000; decide), _, sd.repr, _, ev_lst (show [D.bl (agr r n), D.bl (agr r n)].length ≤ 1000 by show 2 ≤ 1000; decide), _, sd.repr, _, ev_neS sd.st, _, rfl, ?_⟩
    rw [if_neg (by decide), WS_next, WS_seq, WS_set, W_pur]
    rw [WS_seq]
    refine (WS.imp (N' := _) (R' := _) (E' := _) (N := fun δ' bx' => (∃ ys, bx' = bx1 ++ ys) ∧ δ' = [some (.int c), some (.int n), some (.lst (r.map celD)), some (.lst (ptsD (ptR r))), none, some (.bl (agr r n)), none, some (toldD (toldR r n))]) (Rt := fun _ _ => False) (E := NoE) ?_ ?_ (fun _ _ z => z.elim) (fun _ _ _ z => z.elim))
    · have len : (ptsD (ptR r)).length = (chR r).length := by
        unfold ptsD ptR
        rw [List.length_map, List.length_map]
      rw [WS_if, W_ifT, W_tru]
      simp only [WS_next, W_B, W_f1, W_f2, W_fA, W_cons, W_pur, W_var, W_not, W_ifT, W_ifB, W_call, W_callK, W_chain, W_wk, W_sl, W_po, W_poN, W_ok, W_err, W_noErr, W_fnD, ev_plus, ev_sub, ev_iB, ev_toB, ev_not, ev_neg, ev_isN, ev_notN, ev_isB, ev_int, ev_abs, ev_max, ev_min, ev_eqI, ev_neI, Ms.isNon, Option.some.injEq, exists_eq_left', List.getElem?_cons_zero, List.getElem?_cons_succ, List.set_cons_zero, List.set_cons_succ, List.map_cons, List.map_nil, List.cons_append, List.nil_append, List.length_cons, List.length_nil, List.reduceReplicate, Nat.reduceAdd, Nat.reduceSub, Bool.not_true, Bool.not_false, Bool.false_eq_true, Bool.true_eq_false, if_true, if_false, decide_true, decide_false, D.int.injEq, D.bl.injEq, D.ref.injEq, exists_and_left]
      refine ⟨_, ev_truB, ?_⟩
      cases ag : agr r n with
      | false =>
        rw [if_neg (by decide), W_pur, if_neg (by decide), WS_next]
        refine ⟨⟨_, (List.append_assoc _ _ _)⟩, ?_⟩
        have e : toldR r n = none := by
          unfold toldR
          rw [ag]
          simp
        rw [e]
        rfl
      | true =>
        rw [if_pos rfl]
        simp only [WS_next, W_B, W_f1, W_f2, W_fA, W_cons, W_pur, W_var, W_not, W_ifT, W_ifB, W_call, W_callK, W_chain, W_wk, W_sl, W_po, W_poN, W_ok, W_err, W_noErr, W_fnD, ev_plus, ev_sub, ev_iB, ev_toB, ev_not, ev_neg, ev_isN, ev_notN, ev_isB, ev_int, ev_abs, ev_max, ev_min, ev_eqI, ev_neI, Ms.isNon, Option.some.injEq, exists_eq_left', List.getElem?_cons_zero, List.getElem?_cons_succ, List.set_cons_zero, List.set_cons_succ, List.map_cons, List.map_nil, List.cons_append, List.nil_append, List.length_cons, List.length_nil, List.reduceReplicate, Nat.reduceAdd, Nat.reduceSub, Bool.not_true, Bool.not_false, Bool.false_eq_true, Bool.true_eq_false, if_true, if_false, decide_true, decide_false, D.int.injEq, D.bl.injEq, D.ref.injEq, exists_and_left]
        refine ⟨_, ev_len vs_lst, _, (show iB (fun i j => decide (j ≤ i)) _ _ _ = some (.bl (decide ((n : Int) ≤ ((chR r).length : Int)))) by rw [len]; rfl), _, rfl, ?_⟩
        cases hb : decide ((n : Int) ≤ ((chR r).length : Int)) with
        | false =>
          rw [if_neg (by decide), WS_next]
          refine ⟨⟨_, (List.append_assoc _ _ _)⟩, ?_⟩
          have hb' := of_decide_eq_false hb
          have e : toldR r n = none := by
            unfold toldR
            rw [if_neg (fun z => hb' (by have := z.1; omega))]
          rw [e]
          rfl
        | true =>
          have hb' := of_decide_eq_true hb
          rw [if_pos rfl, WS_seq, WS_set, W_fA, W_cons, W_lc, W_lcA]
          simp only [WS_next, W_B, W_f1, W_f2, W_fA, W_cons, W_pur, W_var, W_not, W_ifT, W_ifB, W_call, W_callK, W_chain, W_wk, W_sl, W_po, W_poN, W_ok, W_err, W_noErr, W_fnD, ev_plus, ev_sub, ev_iB, ev_toB, ev_not, ev_neg, ev_isN, ev_notN, ev_isB, ev_int, ev_abs, ev_max, ev_min, ev_eqI, ev_neI, Ms.isNon, Option.some.injEq, exists_eq_left', List.getElem?_cons_zero, List.getElem?_cons_succ, List.set_cons_zero, List.set_cons_succ, List.map_cons, List.map_nil, List.cons_append, List.nil_append, List.length_cons, List.length_nil, List.reduceReplicate, Nat.reduceAdd, Nat.reduceSub, Bool.not_true, Bool.not_false, Bool.false_eq_true, Bool.true_eq_false, if_true, if_false, decide_true, decide_false, D.int.injEq, D.bl.injEq, D.ref.injEq, exists_and_left, W_rg1]
          refine ⟨_, rfl, by omega, by omega, ?_⟩
          have tn : ((n : Int)).toNat = n := by omega
          rw [tn, rgl_rg]
          refine ⟨by rw [List.length_map, rg_len]; omega, ?_⟩
          refine (lc_eff (g := fun x => .int (tellR r n x)) fun x hx bx' => ?_).imp (fun acc st ⟨e1, ys, e2⟩ => ?_) (fun _ _ _ z => z)
          · have hm := mem_rg.mp hx
            simp only [unset, List.foldl_cons, List.foldl_nil, WS_next, W_B, W_f1, W_f2, W_fA, W_cons, W_pur, W_var, W_not, W_ifT, W_ifB, W_call, W_callK, W_chain, W_wk, W_sl, W_po, W_poN, W_ok, W_err, W_noErr, W_fnD, ev_plus, ev_sub, ev_iB, ev_toB, ev_not, ev_neg, ev_isN, ev_notN, ev_isB, ev_int, ev_abs, ev_max, ev_min, ev_eqI, ev_neI, Ms.isNon, Option.some.injEq, exists_eq_left', List.getElem?_cons_zero, List.getElem?_cons_succ, List.set_cons_zero, List.set_cons_succ, List.map_cons, List.map_nil, List.cons_append, List.nil_append, List.length_cons, List.length_nil, List.reduceReplicate, Nat.reduceAdd, Nat.reduceSub, Bool.not_true, Bool.not_false, Bool.false_eq_true, Bool.true_eq_false, if_true, if_false, decide_true, decide_false, D.int.injEq, D.bl.injEq, D.ref.injEq, exists_and_left, ev_slL, cut_take]
            refine (atR_ok h8 ⟨hm.1, by omega⟩ bx').to fun y st ⟨e1, ys, e2⟩ => ?_
            exact ⟨e1, ys, e2⟩
          · subst e1 e2
            refine ⟨_, ev_tupOfL, ?_⟩
            refine ⟨⟨_, by rw [List.append_assoc, List.append_assoc]⟩, ?_⟩
            have e : toldR r n = some ((rg 0 n).map (tellR r n)) := by
              unfold toldR
              rw [if_pos ⟨by omega, ag⟩]
            have e2 : toldD (some ((rg 0 n).map (tellR r n))) = .tup ((rg 0 n).map fun x => .int (tellR r n x)) := by
              show D.tup _ = _
              rw [List.map_map]
              rfl
            rw [e, e2]
    · rintro δ' bx' ⟨⟨ys, rfl⟩, rfl⟩
      generalize hT : toldD (toldR r n) = T
      have sT : Sh (.lst [T, T]) := hT ▸ told_sh n8
      rw [WS_seq, WS_ret, W_f2, W_fA, W_cons, W_fA, W_cons, W_call]
      simp only [WS_next, W_B, W_f1, W_f2, W_fA, W_cons, W_pur, W_var, W_not, W_ifT, W_ifB, W_call, W_callK, W_chain, W_wk, W_sl, W_po, W_poN, W_ok, W_err, W_noErr, W_fnD, ev_plus, ev_sub, ev_iB, ev_toB, ev_not, ev_neg, ev_isN, ev_notN, ev_isB, ev_int, ev_abs, ev_max, ev_min, ev_eqI, ev_neI, Ms.isNon, Option.some.injEq, exists_eq_left', List.getElem?_cons_zero, List.getElem?_cons_succ, List.set_cons_zero, List.set_cons_succ, List.map_cons, List.map_nil, List.cons_append, List.nil_append, List.length_cons, List.length_nil, List.reduceReplicate, Nat.reduceAdd, Nat.reduceSub, Bool.not_true, Bool.not_false, Bool.false_eq_true, Bool.true_eq_false, if_true, if_false, decide_true, decide_false, D.int.injEq, D.bl.injEq, D.ref.injEq, exists_and_left]
      have hk := told_ok (d := .lst (r.map celD)) (.inl rfl) hl c2 c8 n1 nc ok (bx1 ++ ys)
      revert hk
      generalize m_told_data [.int (c:Int), .int (n:Int), .lst (r.map celD)] (bx1 ++ ys) = R
      intro hk
      refine hk.h.to fun x st ⟨e1, zs, e2⟩ => ?_
      clear hk R
      rw [hT] at e1
      subst e1 e2
      refine ⟨.tup (r.map celD), ev_tupOfL, ?_⟩
      rw [pk]
      have hk := told_ok (d := .tup (r.map celD)) (.inr rfl) hl c2 c8 n1 nc ok (bx1 ++ ys ++ zs)
      revert hk
      generalize m_told_data [.int (c:Int), .int (n:Int), .tup (r.map celD)] (bx1 ++ ys ++ zs) = R
      intro hk
      refine hk.h.to fun x st ⟨e1, zs2, e2⟩ => ?_
      clear hk R
      rw [hT] at e1
      subst e1 e2
      refine ⟨_, ev_lst (show [x, x].length ≤ 1000 by show 2 ≤ 1000; decide), _, sT.repr, _, ev_lst (show [x, x].length ≤ 1000 by show 2 ≤ 1000; decide), _, sT.repr, _, ev_eqS sT.st, rfl, ?_⟩
      exact ⟨_, by rw [hb1, List.append_assoc, List.append_assoc, List.append_assoc]⟩
end K23

end
section
set_option Elab.async false
set_option linter.all false
set_option maxRecDepth 100000
set_option maxHeartbeats 4000000
namespace K23
open PySem PySem.Spec PyProof.Rows L2 Ms
open Poly (dot inv tb share shares wts lp knowns newton subsF chips In8 nthD firsts)
theorem erase_perm {α : Type} : ∀ (l : List α) (i : Nat) (x : α), l[i]? = some x → (x :: l.eraseIdx i).Perm l
  | [], i, x, h => by simp at h
  | y :: l, 0, x, h => by
    have : y = x := by simpa using h
    subst this
    exact .refl _
  | y :: l, i + 1, x, h => by
    have h' : l[i]? = some x := by simpa using h
    exact (List.Perm.swap y x _).trans ((erase_perm l i x h').cons y)
theorem erase_map {α β : Type} (f : α → β) : ∀ (l : List α) (i : Nat), (l.map f).eraseIdx i = (l.eraseIdx i).map f
  | [], i => rfl
  | y :: l, 0 => rfl
  | y :: l, i + 1 => by
    show f y :: (l.map f).eraseIdx i = f y :: (l.eraseIdx i).map f
    rw [erase_map f l i]
theorem bx_lt {b : Nat} {st : Sto} (h : Bx b st) : b < st.length := by
  obtain ⟨g, r, e⟩ := h
  exact (List.getElem?_eq_some_iff.mp e).1
theorem tell_any {ρ : Row} {n : Nat} (h8 : ρ.length ≤ 8) (ok : okR ρ) (hn : (chR ρ).length = n) {x : Int} (hx : x ∈ chR ρ) : cd ((rg 0 n).map (tellR ρ n)) x = valR ρ x := by
  obtain ⟨i, hi, e⟩ := List.getElem_of_mem hx
  have nx : nthD (chR ρ) i = x := by
    unfold nthD
    rw [List.getElem?_eq_getElem hi, e]
    rfl
  have nv : nthD ((chR ρ).map (valR ρ)) i = valR ρ x := by
    unfold nthD
    rw [List.getElem?_map, List.getElem?_eq_getElem hi, e]
    rfl
  have a := Poly.any_tell (v := (chR ρ).map (valR ρ)) (chR_sub h8) (by simp) hi
  rw [nx, nv, hn, firsts_rg] at a
  have tk : (chR ρ).take n = chR ρ := List.take_of_length_le (by omega)
  unfold cd
  rw [List.length_map, rg_len, firsts_rg]
  have et : tellR ρ n = fun x => dot (wts (chR ρ) x) ((chR ρ).map (valR ρ)) % 257 := by
    funext x
    unfold tellR
    rw [tk]
  rw [et, a]
  obtain ⟨h0, v, hv⟩ := mem_chR.mp hx
  have := ok v (List.mem_of_getElem? hv)
  rw [valR_eq hv]
  exact Int.emod_eq_of_lt this.1 this.2
def FI (b c n : Nat) (ln : D) (bx : Sto) (k : Nat) (δ : List (Option D)) (st : Sto) : Prop :=
  ∃ (K T : List Int) (x6 : Option D), (K ++ T).Perm (rg 0 c) ∧ T.length = k ∧ Ext b bx st ∧ st.length = bx.length + 2 ∧ st[bx.length]? = some (.lst (K.map D.int)) ∧ st[bx.length + 1]? = some (.lst (T.map D.int)) ∧ δ = [some (.ref b), some (.int c), some (.int n), some ln, some (.ref bx.length), some (.ref (bx.length + 1)), x6, none, none, none, none, none, none]
def GI (b c : Nat) (T : List Int) (bx : Sto) (p : Nat) (Δ : Option D → List (Option D)) (k : Nat) (δ : List (Option D)) (st : Sto) : Prop :=
  ∃ (ρ : Row) (x9 : Option D), ρ.length = c ∧ okR ρ ∧ (∀ x : Int, 0 ≤ x → ((∃ v, ρ[x.toNat]? = some (some v)) ↔ x ∈ T.take k)) ∧ Ext b bx st ∧ st[p]? = some (.lst (ρ.map celD)) ∧ δ = Δ x9
theorem rg_get {n i : Nat} {w : Int} (h : (rg 0 n)[i]? = some w) : w = (i : Int) ∧ i < n := by
  unfold rg at h
  rw [List.getElem?_map] at h
  have hi : i < n := by
    by_cases q : i < n
    · exact q
    · rw [List.getElem?_eq_none (by rw [List.length_range]; omega)] at h
      cases h
  rw [List.getElem?_range hi] at h
  have : (0 : Int) + (i : Int) = w := Option.some.inj h
  exact ⟨by omega, hi⟩
theorem code_ix {data : List Int} {c : Nat} {t : Int} (h0 : 0 ≤ t) (h1 : t < c) (bx : Sto) : cIx bx (.lst ((codeL data c).map D.int)) (.int t) = some (.int (cd data t)) := by
  rw [ev_ix vs_lst]
  refine atI_int h0 ?_
  unfold codeL rg
  rw [List.getElem?_map, List.getElem?_map, List.getElem?_map, List.getElem?_range (by omega)]
  show some (D.int (cd data (0 + (t.toNat : Int)))) = _
  rw [show 0 + (t.toNat : Int) = t by omega]
theorem few_ok {b c n : Nat} {data : List Int} {bx : Sto} (hb : Bx b bx) (c2 : 2 ≤ c) (c8 : c ≤ 8) (n1 : 1 ≤ n) (nc : n ≤ c) : Th (W (m__law_few_right [.ref b, .int c, .int n, .lst ((codeL data c).map D.int)] bx) (fun x st => x = .bl true ∧ Ext b bx st) NoE) := by
  constructor
  have bl := bx_lt hb
  unfold m__law_few_right S__law_few_right N__law_few_right
  rw [W_noErr, W_fnD, WS_seq, WS_par]
  simp only [WS_next, W_B, W_f1, W_f2, W_fA, W_cons, W_pur, W_var, W_not, W_ifT, W_ifB, W_call, W_callK, W_chain, W_wk, W_sl, W_po, W_poN, W_ok, W_err, W_noErr, W_fnD, ev_plus, ev_sub, ev_iB, ev_toB, ev_not, ev_neg, ev_isN, ev_notN, ev_isB, ev_int, ev_abs, ev_max, ev_min, ev_eqI, ev_neI, Ms.isNon, Option.some.injEq, exists_eq_left', List.getElem?_cons_zero, List.getElem?_cons_succ, List.set_cons_zero, List.set_cons_succ, List.map_cons, List.map_nil, List.cons_append, List.nil_append, List.length_cons, List.length_nil, List.reduceReplicate, Nat.reduceAdd, Nat.reduceSub, Bool.not_true, Bool.not_false, Bool.false_eq_true, Bool.true_eq_false, if_true, if_false, decide_true, decide_false, D.int.injEq, D.bl.injEq, D.ref.injEq, exists_and_left, W_rgM, W_new]
  refine ⟨by unfold rgOk; simp; omega, by decide, _, _, rfl, ?_⟩
  have tc : ((c : Int)).toNat = c := by omega
  have tn : ((n : Int)).toNat = n := by omega
  rw [tc, rgl_rg, WS_seq, WS_for]
  simp only [WS_next, W_B, W_f1, W_f2, W_fA, W_cons, W_pur, W_var, W_not, W_ifT, W_ifB, W_call, W_callK, W_chain, W_wk, W_sl, W_po, W_poN, W_ok, W_err, W_noErr, W_fnD, ev_plus, ev_sub, ev_iB, ev_toB, ev_not, ev_neg, ev_isN, ev_notN, ev_isB, ev_int, ev_abs, ev_max, ev_min, ev_eqI, ev_neI, Ms.isNon, Option.some.injEq, exists_eq_left', List.getElem?_cons_zero, List.getElem?_cons_succ, List.set_cons_zero, List.set_cons_succ, List.map_cons, List.map_nil, List.cons_append, List.nil_append, List.length_cons, List.length_nil, List.reduceReplicate, Nat.reduceAdd, Nat.reduceSub, Bool.not_true, Bool.not_false, Bool.false_eq_true, Bool.true_eq_false, if_true, if_false, decide_true, decide_false, D.int.injEq, D.bl.injEq, D.ref.injEq, exists_and_left, W_rg1]
  refine ⟨_, rfl, by omega, by omega, ?_⟩
  rw [tn, rgl_rg]
  have x0 : Ext b bx (bx ++ [Cell.lst ((rg 0 c).map D.int)] ++ [Cell.lst []]) := ext_plus (ext_plus (Ext.refl hb))
  refine for_rule (FI b c n (.lst ((codeL data c).map D.int)) bx) ⟨rg 0 c, [], none, by simp, rfl, x0, by simp, at_old (at_end rfl), at_end (by simp), by simp⟩ ?_ ?_
  · rintro δ st ⟨K, T, x6, hp, hT, hx, hl, hK, hS, rfl⟩
    rw [List.length_map, rg_len] at hT
    have nd : (K ++ T).Nodup := hp.nodup_iff.mpr (rg_sorted.imp fun h => by omega)
    have tn2 : T.Nodup := (List.nodup_append.mp nd).2.1
    have tm : ∀ x ∈ T, 0 ≤ x ∧ x < c := fun x hx => by
      have := mem_rg.mp (hp.mem_iff.mp (List.mem_append.mpr (.inr hx)))
      omega
    rw [WS_seq, WS_frz]
    refine ⟨bx.length + 1, T.map D.int, rfl, hS, ?_⟩
    have hx1 : Ext b bx (st.set (bx.length + 1) .dead) := ext_set hx (by omega) bl
    have l1 : (st.set (bx.length + 1) .dead).length = bx.length + 2 := by rw [List.length_set]; exact hl
    revert hx1 l1
    generalize st.set (bx.length + 1) .dead = s1
    intro hx1 l1
    rw [WS_seq, WS_set]
    simp only [WS_next, W_B, W_f1, W_f2, W_fA, W_cons, W_pur, W_var, W_not, W_ifT, W_ifB, W_call, W_callK, W_chain, W_wk, W_sl, W_po, W_poN, W_ok, W_err, W_noErr, W_fnD, ev_plus, ev_sub, ev_iB, ev_toB, ev_not, ev_neg, ev_isN, ev_notN, ev_isB, ev_int, ev_abs, ev_max, ev_min, ev_eqI, ev_neI, Ms.isNon, Option.some.injEq, exists_eq_left', List.getElem?_cons_zero, List.getElem?_cons_succ, List.set_cons_zero, List.set_cons_succ, List.map_cons, List.map_nil, List.cons_append, List.nil_append, List.length_cons, List.length_nil, List.reduceReplicate, Nat.reduceAdd, Nat.reduceSub, Bool.not_true, Bool.not_false, Bool.false_eq_true, Bool.true_eq_false, if_true, if_false, decide_true, decide_false, D.int.injEq, D.bl.injEq, D.ref.injEq, exists_and_left]
    refine (take_ok hx1.bx (by omega) (by omega)).to fun r s2 ⟨m, e, m0, m1, y2, l2⟩ => ?_
    subst e
    have hx2 := hx1.trans y2
    rw [WS_seq, WS_set, W_repM, W_new]
    simp only [WS_next, W_B, W_f1, W_f2, W_fA, W_cons, W_pur, W_var, W_not, W_ifT, W_ifB, W_call, W_callK, W_chain, W_wk, W_sl, W_po, W_poN, W_ok, W_err, W_noErr, W_fnD, ev_plus, ev_sub, ev_iB, ev_toB, ev_not, ev_neg, ev_isN, ev_notN, ev_isB, ev_int, ev_abs, ev_max, ev_min, ev_eqI, ev_neI, Ms.isNon, Option.some.injEq, exists_eq_left', List.getElem?_cons_zero, List.getElem?_cons_succ, List.set_cons_zero, List.set_cons_succ, List.map_cons, List.map_nil, List.cons_append, List.nil_append, List.length_cons, List.length_nil, List.reduceReplicate, Nat.reduceAdd, Nat.reduceSub, Bool.not_true, Bool.not_false, Bool.false_eq_true, Bool.true_eq_false, if_true, if_false, decide_true, decide_false, D.int.injEq, D.bl.injEq, D.ref.injEq, exists_and_left]
    have rp : cRep (s2 ++ [Cell.lst [D.non]]) (.ref s2.length) (.int c) = some (.lst ((List.replicate c (none : Option Int)).map celD)) := by
      unfold cRep
      dsimp only
      rw [at_end rfl]
      dsimp only
      rw [if_pos ⟨by omega, by omega, by show 1 * _ ≤ _; omega⟩, tc]
      congr 2
      rw [List.map_replicate]
      show (List.replicate c [D.non]).flatten = List.replicate c D.non
      rw [List.flatten_replicate_singleton]
    refine ⟨by decide, _, rp, ?_⟩
    have hx3 : Ext b bx (s2 ++ [Cell.lst [D.non]] ++ [Cell.lst ((List.replicate c (none : Option Int)).map celD)]) := ext_plus (ext_plus hx2)
    have hp3 : (s2 ++ [Cell.lst [D.non]] ++ [Cell.lst ((List.replicate c (none : Option Int)).map celD)])[(s2 ++ [Cell.lst [D.non]]).length]? = some (.lst ((List.replicate c (none : Option Int)).map celD)) := at_end rfl
    have pl : bx.length ≤ (s2 ++ [Cell.lst [D.non]]).length := by rw [List.length_append]; omega
    revert hx3 hp3 pl
    generalize s2 ++ [Cell.lst [D.non]] ++ [Cell.lst ((List.replicate c (none : Option Int)).map celD)] = s3
    generalize (s2 ++ [Cell.lst [D.non]]).length = p
    intro hx3 hp3 pl
    rw [WS_seq, WS_for]
    simp only [WS_next, W_B, W_f1, W_f2, W_fA, W_cons, W_pur, W_var, W_not, W_ifT, W_ifB, W_call, W_callK, W_chain, W_wk, W_sl, W_po, W_poN, W_ok, W_err, W_noErr, W_fnD, ev_plus, ev_sub, ev_iB, ev_toB, ev_not, ev_neg, ev_isN, ev_notN, ev_isB, ev_int, ev_abs, ev_max, ev_min, ev_eqI, ev_neI, Ms.isNon, Option.some.injEq, exists_eq_left', List.getElem?_cons_zero, List.getElem?_cons_succ, List.set_cons_zero, List.set_cons_succ, List.map_cons, List.map_nil, List.cons_append, List.nil_append, List.length_cons, List.length_nil, List.reduceReplicate, Nat.reduceAdd, Nat.reduceSub, Bool.not_true, Bool.not_false, Bool.false_eq_true, Bool.true_eq_false, if_true, if_false, decide_true, decide_false, D.int.injEq, D.bl.injEq, D.ref.injEq, exists_and_left, W_rg1]
    refine ⟨_, rfl, by omega, by omega, ?_⟩
    rw [tn, rgl_rg]
    refine for_rule (GI b c T bx p fun x9 => [some (.ref b), some (.int c), some (.int n), some (.lst ((codeL data c).map D.int)), some (.ref bx.length), some (.lst (T.map D.int)), x6, some (.int m), some (.ref p), x9, none, none, none]) ⟨List.replicate c none, none, by simp, fun v hv => by simp at hv, fun x h0 => by simp [List.getElem?_replicate], hx3, hp3, rfl⟩ ?_ ?_
    · rintro δ st ⟨ρ, x9, rl, rok, rm, hx, hp, rfl⟩
      rw [List.length_map, rg_len, ← hT, List.take_length] at rm
      rw [WS_seq, WS_frz]
      refine ⟨p, ρ.map celD, rfl, hp, ?_⟩
      have hx1 : Ext b bx (st.set p .dead) := ext_set hx pl bl
      revert hx1
      generalize st.set p .dead = s4
      intro hx4
      have h8 : ρ.length ≤ 8 := by omega
      have cn : (chR ρ).length = n := by
        have pm : (chR ρ).Perm T := (List.perm_ext_iff_of_nodup ((chF_sorted ρ 0).imp fun h => by omega) tn2).mpr fun x => by
          rw [mem_chR]
          constructor
          · rintro ⟨h0, v, hv⟩
            exact (rm x h0).mp ⟨v, hv⟩
          · intro hx
            have h0 := (tm x hx).1
            exact ⟨h0, (rm x h0).mpr hx⟩
        rw [pm.length_eq, hT]
      have ag : agr ρ n = true := by
        unfold agr
        rw [List.drop_eq_nil_of_le (by omega)]
        rfl
      have tr : toldR ρ n = some ((rg 0 n).map (tellR ρ n)) := by
        unfold toldR
        rw [if_pos ⟨by omega, ag⟩]
      rw [WS_seq, WS_set]
      simp only [WS_next, W_B, W_f1, W_f2, W_fA, W_cons, W_pur, W_var, W_not, W_ifT, W_ifB, W_call, W_callK, W_chain, W_wk, W_sl, W_po, W_poN, W_ok, W_err, W_noErr, W_fnD, ev_plus, ev_sub, ev_iB, ev_toB, ev_not, ev_neg, ev_isN, ev_notN, ev_isB, ev_int, ev_abs, ev_max, ev_min, ev_eqI, ev_neI, Ms.isNon, Option.some.injEq, exists_eq_left', List.getElem?_cons_zero, List.getElem?_cons_succ, List.set_cons_zero, List.set_cons_succ, List.map_cons, List.map_nil, List.cons_append, List.nil_append, List.length_cons, List.length_nil, List.reduceReplicate, Nat.reduceAdd, Nat.reduceSub, Bool.not_true, Bool.not_false, Bool.false_eq_true, Bool.true_eq_false, if_true, if_false, decide_true, decide_false, D.int.injEq, D.bl.injEq, D.ref.injEq, exists_and_left]
      have hk := told_ok (d := .lst (ρ.map celD)) (.inl rfl) rl c2 c8 n1 nc rok s4
      revert hk
      generalize m_told_data [.int (c:Int), .int (n:Int), .lst (ρ.map celD)] s4 = R
      intro hk
      refine hk.h.to fun x st ⟨e1, zs, e2⟩ => ?_
      clear hk R
      rw [tr] at e1
      have e1' : x = .tup (((rg 0 n).map (tellR ρ n)).map D.int) := e1
      clear e1
      subst e1' e2
      rw [WS_seq, WS_if]
      simp only [WS_next, W_B, W_f1, W_f2, W_fA, W_cons, W_pur, W_var, W_not, W_ifT, W_ifB, W_call, W_callK, W_chain, W_wk, W_sl, W_po, W_poN, W_ok, W_err, W_noErr, W_fnD, ev_plus, ev_sub, ev_iB, ev_toB, ev_not, ev_neg, ev_isN, ev_notN, ev_isB, ev_int, ev_abs, ev_max, ev_min, ev_eqI, ev_neI, Ms.isNon, Option.some.injEq, exists_eq_left', List.getElem?_cons_zero, List.getElem?_cons_succ, List.set_cons_zero, List.set_cons_succ, List.map_cons, List.map_nil, List.cons_append, List.nil_append, List.length_cons, List.length_nil, List.reduceReplicate, Nat.reduceAdd, Nat.reduceSub, Bool.not_true, Bool.not_false, Bool.false_eq_true, Bool.true_eq_false, if_true, if_false, decide_true, decide_false, D.int.injEq, D.bl.injEq, D.ref.injEq, exists_and_left]
      have ist : ∀ (bx : Sto) (l : List D), cIsi "tuple" bx (.tup l) = some (.bl true) := fun bx l => isi_tup rfl
      refine ⟨_, ist _ _, _, rfl, ?_⟩
      rw [if_neg (by decide)]
      simp only [WS_next, W_B, W_f1, W_f2, W_fA, W_cons, W_pur, W_var, W_not, W_ifT, W_ifB, W_call, W_callK, W_chain, W_wk, W_sl, W_po, W_poN, W_ok, W_err, W_noErr, W_fnD, ev_plus, ev_sub, ev_iB, ev_toB, ev_not, ev_neg, ev_isN, ev_notN, ev_isB, ev_int, ev_abs, ev_max, ev_min, ev_eqI, ev_neI, Ms.isNon, Option.some.injEq, exists_eq_left', List.getElem?_cons_zero, List.getElem?_cons_succ, List.set_cons_zero, List.set_cons_succ, List.map_cons, List.map_nil, List.cons_append, List.nil_append, List.length_cons, List.length_nil, List.reduceReplicate, Nat.reduceAdd, Nat.reduceSub, Bool.not_true, Bool.not_false, Bool.false_eq_true, Bool.true_eq_false, if_true, if_false, decide_true, decide_false, D.int.injEq, D.bl.injEq, D.ref.injEq, exists_and_left]
      have hk := fits_ok (d := .lst (ρ.map celD)) (.inl rfl) rl c2 c8 n1 nc rok (s4 ++ zs)
      revert hk
      generalize m_fits [.int (c:Int), .int (n:Int), .lst (ρ.map celD)] (s4 ++ zs) = R
      intro hk
      refine hk.h.to fun x st ⟨e1, zs2, e2⟩ => ?_
      clear hk R
      rw [ag] at e1
      subst e1 e2
      refine ⟨_, rfl, ?_⟩
      rw [if_neg (by decide), WS_next, WS_seq, WS_set]
      simp only [WS_next, W_B, W_f1, W_f2, W_fA, W_cons, W_pur, W_var, W_not, W_ifT, W_ifB, W_call, W_callK, W_chain, W_wk, W_sl, W_po, W_poN, W_ok, W_err, W_noErr, W_fnD, ev_plus, ev_sub, ev_iB, ev_toB, ev_not, ev_neg, ev_isN, ev_notN, ev_isB, ev_int, ev_abs, ev_max, ev_min, ev_eqI, ev_neI, Ms.isNon, Option.some.injEq, exists_eq_left', List.getElem?_cons_zero, List.getElem?_cons_succ, List.set_cons_zero, List.set_cons_succ, List.map_cons, List.map_nil, List.cons_append, List.nil_append, List.length_cons, List.length_nil, List.reduceReplicate, Nat.reduceAdd, Nat.reduceSub, Bool.not_true, Bool.not_false, Bool.false_eq_true, Bool.true_eq_false, if_true, if_false, decide_true, decide_false, D.int.injEq, D.bl.injEq, D.ref.injEq, exists_and_left]
      have dl : ((rg 0 n).map (tellR ρ n)).length = n := by rw [List.length_map, rg_len]
      have okd : okC ((rg 0 n).map (tellR ρ n)) := fun x hx => by
        obtain ⟨y, _, rfl⟩ := List.mem_map.mp hx
        exact ⟨Int.emod_nonneg _ (by decide), Int.emod_lt_of_pos _ (by decide)⟩
      have hk := Th.mk (coded_ok (c := c) (d := .tup (((rg 0 n).map (tellR ρ n)).map D.int)) (.inr rfl) (by omega) c2 c8 (by omega) okd (s4 ++ zs ++ zs2))
      rw [dl] at hk
      have cv : ∀ x ∈ T, cd ((rg 0 n).map (tellR ρ n)) x = valR ρ x ∧ 0 ≤ x ∧ x < c ∧ (ρ[x.toNat]?) = some (some (valR ρ x)) := fun x hx => by
        obtain ⟨h0, h1⟩ := tm x hx
        obtain ⟨v, hv⟩ := (rm x h0).mpr hx
        refine ⟨tell_any h8 rok cn (mem_chR.mpr ⟨h0, v, hv⟩), h0, h1, ?_⟩
        rw [valR_eq hv, hv]
      revert hk cv
      generalize (rg 0 n).map (tellR ρ n) = data2
      generalize m_coded [.int (c:Int), .int (n:Int), .tup (data2.map D.int)] (s4 ++ zs ++ zs2) = R
      intro hk cv
      refine hk.h.to fun x st ⟨e1, zs3, e2⟩ => ?_
      clear hk R
      subst e1 e2
      rw [WS_seq, WS_ret, W_f2, W_lc, W_lcA, W_wk]
      simp only [WS_next, W_B, W_f1, W_f2, W_fA, W_cons, W_pur, W_var, W_not, W_ifT, W_ifB, W_call, W_callK, W_chain, W_wk, W_sl, W_po, W_poN, W_ok, W_err, W_noErr, W_fnD, ev_plus, ev_sub, ev_iB, ev_toB, ev_not, ev_neg, ev_isN, ev_notN, ev_isB, ev_int, ev_abs, ev_max, ev_min, ev_eqI, ev_neI, Ms.isNon, Option.some.injEq, exists_eq_left', List.getElem?_cons_zero, List.getElem?_cons_succ, List.set_cons_zero, List.set_cons_succ, List.map_cons, List.map_nil, List.cons_append, List.nil_append, List.length_cons, List.length_nil, List.reduceReplicate, Nat.reduceAdd, Nat.reduceSub, Bool.not_true, Bool.not_false, Bool.false_eq_true, Bool.true_eq_false, if_true, if_false, decide_true, decide_false, D.int.injEq, D.bl.injEq, D.ref.injEq, exists_and_left]
      have wl : ∀ l : List D, wlk (.lst l) = some l := fun _ => rfl
      simp only [wl, Option.some.injEq, exists_eq_left']
      refine ⟨by rw [List.length_map]; omega, ?_⟩
      rw [lc_pure (c := fun _ => false) (f := fun _ => .non) fun d hd => ⟨_, rfl, by
        obtain ⟨x, hx, rfl⟩ := List.mem_map.mp hd
        obtain ⟨e1, h0, h1, e2⟩ := cv x hx
        have i1 : ∀ bx : Sto, cIx bx (.tup ((codeL data2 c).map D.int)) (.int x) = some (.int (cd data2 x)) := fun bx => by
          rw [ev_ix vs_tup, ← code_ix h0 h1 bx, ev_ix vs_lst]
        have i2 : ∀ bx : Sto, cIx bx (.lst (ρ.map celD)) (.int x) = some (.int (valR ρ x)) := fun bx => by
          rw [ev_ix vs_lst]
          refine atI_int h0 ?_
          rw [List.getElem?_map, e2]
          rfl
        refine ⟨W.eq (by simp only [unset, List.foldl_cons, List.foldl_nil, WS_next, W_B, W_f1, W_f2, W_fA, W_cons, W_pur, W_var, W_not, W_ifT, W_ifB, W_call, W_callK, W_chain, W_wk, W_sl, W_po, W_poN, W_ok, W_err, W_noErr, W_fnD, ev_plus, ev_sub, ev_iB, ev_toB, ev_not, ev_neg, ev_isN, ev_notN, ev_isB, ev_int, ev_abs, ev_max, ev_min, ev_eqI, ev_neI, Ms.isNon, Option.some.injEq, exists_eq_left', List.getElem?_cons_zero, List.getElem?_cons_succ, List.set_cons_zero, List.set_cons_succ, List.map_cons, List.map_nil, List.cons_append, List.nil_append, List.length_cons, List.length_nil, List.reduceReplicate, Nat.reduceAdd, Nat.reduceSub, Bool.not_true, Bool.not_false, Bool.false_eq_true, Bool.true_eq_false, if_true, if_false, decide_true, decide_false, D.int.injEq, D.bl.injEq, D.ref.injEq, exists_and_left, i1, i2, e1]; simp), fun z => by cases z⟩⟩, W_ok]
      have ef : ∀ l : List D, l.filter (fun _ => false) = [] := fun l => by simp
      rw [ef]
      simp only [WS_next, W_B, W_f1, W_f2, W_fA, W_cons, W_pur, W_var, W_not, W_ifT, W_ifB, W_call, W_callK, W_chain, W_wk, W_sl, W_po, W_poN, W_ok, W_err, W_noErr, W_fnD, ev_plus, ev_sub, ev_iB, ev_toB, ev_not, ev_neg, ev_isN, ev_notN, ev_isB, ev_int, ev_abs, ev_max, ev_min, ev_eqI, ev_neI, Ms.isNon, Option.some.injEq, exists_eq_left', List.getElem?_cons_zero, List.getElem?_cons_succ, List.set_cons_zero, List.set_cons_succ, List.map_cons, List.map_nil, List.cons_append, List.nil_append, List.length_cons, List.length_nil, List.reduceReplicate, Nat.reduceAdd, Nat.reduceSub, Bool.not_true, Bool.not_false, Bool.false_eq_true, Bool.true_eq_false, if_true, if_false, decide_true, decide_false, D.int.injEq, D.bl.injEq, D.ref.injEq, exists_and_left]
      refine ⟨_, ev_lst (by decide), _, eq_nil (fun _ h => by cases h), rfl, ?_⟩
      rw [List.append_assoc, List.append_assoc]
      exact ext_plus hx4
    · rintro i d δ st hd ⟨ρ, x9, rl, rok, rm, hx, hp, rfl⟩
      obtain ⟨w, hw, rfl⟩ := map_get hd
      obtain ⟨rfl, hi⟩ := rg_get hw
      have hi' : i < T.length := by omega
      have gt : T[i]? = some T[i] := List.getElem?_eq_getElem hi'
      have tmem := tm _ (List.getElem_mem hi')
      revert gt tmem
      generalize T[i] = t
      intro gt tmem
      have it : ∀ bx : Sto, cIx bx (.lst (T.map D.int)) (.int (i : Int)) = some (.int t) := fun bx => by
        rw [ev_ix vs_lst]
        refine atI_int (by omega) ?_
        rw [Int.toNat_natCast, List.getElem?_map, gt]
        rfl
      have lt : ∀ bx : Sto, cIx bx (.lst ((codeL data c).map D.int)) (.int t) = some (.int (cd data t)) := fun bx => code_ix tmem.1 tmem.2 bx
      refine ⟨_, rfl, ?_⟩
      rw [WS_seq, WS_put]
      refine W.to (Q := fun e s' => ∃ v : Int, e = .int v ∧ 0 ≤ v ∧ v < 257 ∧ Ext b st s' ∧ s'.length = st.length) ?_ fun e s' ⟨v, e1, v0, v1, y, l⟩ => ?_
      · rw [W_ifT]
        simp only [WS_next, W_B, W_f1, W_f2, W_fA, W_cons, W_pur, W_var, W_not, W_ifT, W_ifB, W_call, W_callK, W_chain, W_wk, W_sl, W_po, W_poN, W_ok, W_err, W_noErr, W_fnD, ev_plus, ev_sub, ev_iB, ev_toB, ev_not, ev_neg, ev_isN, ev_notN, ev_isB, ev_int, ev_abs, ev_max, ev_min, ev_eqI, ev_neI, Ms.isNon, Option.some.injEq, exists_eq_left', List.getElem?_cons_zero, List.getElem?_cons_succ, List.set_cons_zero, List.set_cons_succ, List.map_cons, List.map_nil, List.cons_append, List.nil_append, List.length_cons, List.length_nil, List.reduceReplicate, Nat.reduceAdd, Nat.reduceSub, Bool.not_true, Bool.not_false, Bool.false_eq_true, Bool.true_eq_false, if_true, if_false, decide_true, decide_false, D.int.injEq, D.bl.injEq, D.ref.injEq, exists_and_left]
        cases decide ((i : Int) < m) with
        | true =>
          rw [if_pos rfl]
          simp only [WS_next, W_B, W_f1, W_f2, W_fA, W_cons, W_pur, W_var, W_not, W_ifT, W_ifB, W_call, W_callK, W_chain, W_wk, W_sl, W_po, W_poN, W_ok, W_err, W_noErr, W_fnD, ev_plus, ev_sub, ev_iB, ev_toB, ev_not, ev_neg, ev_isN, ev_notN, ev_isB, ev_int, ev_abs, ev_max, ev_min, ev_eqI, ev_neI, Ms.isNon, Option.some.injEq, exists_eq_left', List.getElem?_cons_zero, List.getElem?_cons_succ, List.set_cons_zero, List.set_cons_succ, List.map_cons, List.map_nil, List.cons_append, List.nil_append, List.length_cons, List.length_nil, List.reduceReplicate, Nat.reduceAdd, Nat.reduceSub, Bool.not_true, Bool.not_false, Bool.false_eq_true, Bool.true_eq_false, if_true, if_false, decide_true, decide_false, D.int.injEq, D.bl.injEq, D.ref.injEq, exists_and_left, it, lt]
          exact ⟨(cd_rng (data := data) (x := t)).1, (cd_rng (data := data) (x := t)).2, Ext.refl hx.bx, trivial⟩
        | false =>
          rw [if_neg (by decide)]
          simp only [WS_next, W_B, W_f1, W_f2, W_fA, W_cons, W_pur, W_var, W_not, W_ifT, W_ifB, W_call, W_callK, W_chain, W_wk, W_sl, W_po, W_poN, W_ok, W_err, W_noErr, W_fnD, ev_plus, ev_sub, ev_iB, ev_toB, ev_not, ev_neg, ev_isN, ev_notN, ev_isB, ev_int, ev_abs, ev_max, ev_min, ev_eqI, ev_neI, Ms.isNon, Option.some.injEq, exists_eq_left', List.getElem?_cons_zero, List.getElem?_cons_succ, List.set_cons_zero, List.set_cons_succ, List.map_cons, List.map_nil, List.cons_append, List.nil_append, List.length_cons, List.length_nil, List.reduceReplicate, Nat.reduceAdd, Nat.reduceSub, Bool.not_true, Bool.not_false, Bool.false_eq_true, Bool.true_eq_false, if_true, if_false, decide_true, decide_false, D.int.injEq, D.bl.injEq, D.ref.injEq, exists_and_left]
          refine (take_ok hx.bx (by decide) (by decide)).to fun r s4 ⟨v, e, v0, v1, y, l⟩ => ?_
          exact ⟨v, e, v0, v1, y, l⟩
      · subst e1
        have hps : p < st.length := (List.getElem?_eq_some_iff.mp hp).1
        have hp' := (y.sm p hps (by omega)).trans hp
        have hix : ixN (ρ.map celD).length t = some t.toNat := by
          unfold ixN
          rw [if_pos tmem.1, if_pos (by rw [List.length_map]; omega)]
        simp only [WS_next, W_B, W_f1, W_f2, W_fA, W_cons, W_pur, W_var, W_not, W_ifT, W_ifB, W_call, W_callK, W_chain, W_wk, W_sl, W_po, W_poN, W_ok, W_err, W_noErr, W_fnD, ev_plus, ev_sub, ev_iB, ev_toB, ev_not, ev_neg, ev_isN, ev_notN, ev_isB, ev_int, ev_abs, ev_max, ev_min, ev_eqI, ev_neI, Ms.isNon, Option.some.injEq, exists_eq_left', List.getElem?_cons_zero, List.getElem?_cons_succ, List.set_cons_zero, List.set_cons_succ, List.map_cons, List.map_nil, List.cons_append, List.nil_append, List.length_cons, List.length_nil, List.reduceReplicate, Nat.reduceAdd, Nat.reduceSub, Bool.not_true, Bool.not_false, Bool.false_eq_true, Bool.true_eq_false, if_true, if_false, decide_true, decide_false, D.int.injEq, D.bl.injEq, D.ref.injEq, exists_and_left, it]
        refine ⟨_, hp', _, hix, ?_⟩
        refine ⟨ρ.set t.toNat (some v), some (.int (i : Int)), by rw [List.length_set]; exact rl, fun u hu => ?_, fun x h0 => ?_, ext_set (hx.trans y) pl bl, ?_, rfl⟩
        · rcases List.mem_or_eq_of_mem_set hu with h | h
          · exact rok u h
          · cases h
            exact ⟨v0, v1⟩
        · rw [take_succ gt, List.mem_append, List.mem_singleton, ← rm x h0]
          by_cases q : x = t
          · subst q
            rw [List.getElem?_set_self (by omega)]
            simp
          · rw [List.getElem?_set_ne (by omega)]
            simp [q]
        · rw [List.getElem?_set_self (by omega), List.map_set]
          rfl
  · rintro i d δ st hd ⟨K, T, x6, hp, hT, hx, hl, hK, hS, rfl⟩
    obtain ⟨w, hw, rfl⟩ := map_get hd
    have hi : i < n := by
      have := (List.getElem?_eq_some_iff.mp hd).1
      rw [List.length_map, rg_len] at this
      exact this
    have hKT : K.length + T.length = c := by
      have := hp.length_eq
      rw [List.length_append, rg_len] at this
      exact this
    refine ⟨_, rfl, ?_⟩
    rw [WS_seq, WS_app]
    simp only [WS_next, W_B, W_f1, W_f2, W_fA, W_cons, W_pur, W_var, W_not, W_ifT, W_ifB, W_call, W_callK, W_chain, W_wk, W_sl, W_po, W_poN, W_ok, W_err, W_noErr, W_fnD, ev_plus, ev_sub, ev_iB, ev_toB, ev_not, ev_neg, ev_isN, ev_notN, ev_isB, ev_int, ev_abs, ev_max, ev_min, ev_eqI, ev_neI, Ms.isNon, Option.some.injEq, exists_eq_left', List.getElem?_cons_zero, List.getElem?_cons_succ, List.set_cons_zero, List.set_cons_succ, List.map_cons, List.map_nil, List.cons_append, List.nil_append, List.length_cons, List.length_nil, List.reduceReplicate, Nat.reduceAdd, Nat.reduceSub, Bool.not_true, Bool.not_false, Bool.false_eq_true, Bool.true_eq_false, if_true, if_false, decide_true, decide_false, D.int.injEq, D.bl.injEq, D.ref.injEq, exists_and_left, W_popAt]
    refine ⟨_, hS, _, hK, _, ev_len (vs_ref hK), ?_⟩
    have kp : 0 < ((K.map D.int).length : Int) := by rw [List.length_map]; omega
    have kl : ((K.map D.int).length : Int) < 1073741824 := by rw [List.length_map]; omega
    refine (take_ok hx.bx kp kl).to fun r s1 ⟨j, e, j0, j1, y1, l1⟩ => ?_
    have bp : bx.length ≠ b := by omega
    have bq : bx.length + 1 ≠ b := by omega
    have hK1 := (y1.sm bx.length (by omega) bp).trans hK
    have hS1 := (y1.sm (bx.length + 1) (by omega) bq).trans hS
    have jl : j.toNat < K.length := by rw [List.length_map] at j1; omega
    have gj : K[j.toNat]? = some K[j.toNat] := List.getElem?_eq_getElem jl
    refine ⟨j, e, _, hK1, ⟨j0, by rw [List.length_map] at j1; omega⟩, .int K[j.toNat], by rw [List.getElem?_map, gj]; rfl, _, at_ne hS1 (by omega), by rw [List.length_map]; omega, ?_⟩
    refine ⟨K.eraseIdx j.toNat, T ++ [K[j.toNat]], some (.int w), ?_, by rw [List.length_append, hT]; rfl, ?_, ?_, ?_, ?_, rfl⟩
    · refine .trans ?_ hp
      have e1 := erase_perm K j.toNat _ gj
      refine .trans ?_ (e1.append_right T)
      rw [← List.append_assoc]
      exact List.perm_append_singleton _ _
    · exact ext_set (ext_set (hx.trans y1) (Nat.le_refl _) bl) (by omega) bl
    · rw [List.length_set, List.length_set]; omega
    · refine at_ne ?_ (by omega)
      rw [List.getElem?_set_self (by omega), erase_map]
    · rw [List.getElem?_set_self (by rw [List.length_set]; omega), List.map_append]
      rfl
end K23

end
section
set_option Elab.async false
set_option linter.all false
set_option maxRecDepth 100000
set_option maxHeartbeats 4000000
namespace K23
open PySem PySem.Spec PyProof.Rows L2 Ms
def oddB (z : Bool) (m : Nat) (d : D) : Bool := d.cl && showOk d && PyData.strOk d.py.shown && (!hasP d m || (match d with
  | .lst (x :: l) => (l.length + 1 == m) && x.cl && !isC x && !inR x 0 256 && (z || !isNon x)
  | _ => false))
def badD (z : Bool) (n : Nat) : List D := [.non, .int 5, .str (Txt.mul "0" n), .lst (List.replicate (n - 1) (.int 0)), .lst (List.replicate (n + 1) (.int 0)), .lst (List.replicate n (.int 257))] ++ (if z then [.lst (List.replicate n .non)] else []) ++ [.lst (List.replicate n (.int (-1))), .lst (List.replicate n (.bl true))]
theorem bad_all : ∀ n ∈ [1, 2, 3, 4, 5, 6, 7, 8], ∀ z ∈ [true, false], (badD z n).all (oddB z n) = true := by decide +kernel
theorem bad_of {n : Nat} (n1 : 1 ≤ n) (n8 : n ≤ 8) {z : Bool} {d : D} (h : d ∈ badD z n) : d.cl = true ∧ Sh d ∧ (hasP d n = false ∨ ∃ x l, d = .lst (x :: l) ∧ (x :: l).length = n ∧ x.cl = true ∧ isC x = false ∧ inR x 0 256 = false ∧ (z = true ∨ isNon x = false)) := by
  have a := List.all_eq_true.mp (bad_all n (by simp; omega) z (by cases z <;> simp)) d h
  unfold oddB at a
  simp only [Bool.and_eq_true, Bool.or_eq_true, Bool.not_eq_true', beq_iff_eq] at a
  obtain ⟨⟨⟨a1, a2⟩, a3⟩, a4⟩ := a
  refine ⟨a1, ⟨a2, a3⟩, ?_⟩
  rcases a4 with a4 | a4
  · exact .inl a4
  · right
    cases d with
    | lst l =>
      cases l with
      | nil => cases a4
      | cons x l =>
        simp only [Bool.and_eq_true, Bool.or_eq_true, Bool.not_eq_true', beq_iff_eq] at a4
        obtain ⟨⟨⟨⟨b1, b2⟩, b3⟩, b4⟩, b5⟩ := a4
        exact ⟨x, l, rfl, b1, b2, b3, b4, b5⟩
    | _ => cases a4
theorem rpE {bx : Sto} {v : D} {m : Int} (h0 : 0 ≤ m) (h1 : m ≤ 9) : cRep (bx ++ [Cell.lst [v]]) (.ref bx.length) (.int m) = some (.lst (List.replicate m.toNat v)) := by
  unfold cRep
  dsimp only
  rw [at_end rfl]
  dsimp only
  rw [if_pos ⟨by omega, by omega, by show 1 * _ ≤ _; omega⟩]
  congr 2
  exact List.flatten_replicate_singleton
theorem call_bad {p q x : D} {j k n : Nat} {δ : List (Option D)} {bx : Sto} {A : Fn (List D)} (hj : δ[j]? = some (some (.ref k))) (hk : bx[k]? = some (.lam n)) (hn : n < 3) (hA : A δ bx = .ok [p, q] bx) (h : m_need_code [p, q] bx = .err "Refused" x bx) : fCallL BL__law_none_right (fVar j) A δ bx = .err "Refused" x bx := by
  have e1 : fVar j δ bx = .ok (.ref k) bx := by
    unfold fVar
    rw [hj]
  unfold fCallL bnd
  rw [e1]
  dsimp only
  rw [hk]
  dsimp only
  rw [hA]
  dsimp only
  have hn' : n = 0 ∨ n = 1 ∨ n = 2 := by omega
  rcases hn' with rfl | rfl | rfl
  · exact coded_err h
  · exact fits_err (rowL_err h)
  · exact told_err (rowL_err h)
def badC : List D := [.non, .int 1, .int 9, .bl true, .int (-2), .str "3"]
def badN (c : Nat) : List D := [.non, .int 0, .int ((c : Int) + 1), .bl true, .str "1"]
theorem badC_ok : ∀ d ∈ badC, d.cl = true ∧ inR d 2 8 = false ∧ Sh d := by
  have h : badC.all (fun d => d.cl && !inR d 2 8 && showOk d && PyData.strOk d.py.shown) = true := by decide +kernel
  intro d hd
  have a := List.all_eq_true.mp h d hd
  simp only [Bool.and_eq_true, Bool.not_eq_true'] at a
  exact ⟨a.1.1.1, a.1.1.2, a.1.2, a.2⟩
theorem badN_ok {c : Nat} (c2 : 2 ≤ c) (c8 : c ≤ 8) : ∀ d ∈ badN c, d.cl = true ∧ inR d 1 c = false ∧ Sh d := by
  have h : ∀ c ∈ [2, 3, 4, 5, 6, 7, 8], (badN c).all (fun d => d.cl && !inR d 1 c && showOk d && PyData.strOk d.py.shown) = true := by decide +kernel
  intro d hd
  have a := List.all_eq_true.mp (h c (by simp; omega)) d hd
  simp only [Bool.and_eq_true, Bool.not_eq_true'] at a
  exact ⟨a.1.1.1, a.1.1.2, a.1.2, a.2⟩
theorem W_rep1 {v : D} {δ : List (Option D)} {bx : Sto} {F : Fn D} {Q : D → Sto → Prop} {E : Str → D → Sto → Prop} {m : Int} (k : Nat) (hm : m = (k : Int)) (k9 : k ≤ 9) (hF : F δ bx = .ok v bx) (q : Q (.lst (List.replicate k v)) (bx ++ [Cell.lst [v]])) : W (fNew (fCons F (pur [])) δ bx) (fun d bx' => ∃ z, cRep bx' d (.int m) = some z ∧ Q z bx') E := by
  rw [W_new, W_cons, hF, W_ok]
  simp only [W_pur]
  refine ⟨by show 1 ≤ 1000000; decide, _, rpE (v := v) (m := m) (by omega) (by omega), ?_⟩
  have e : m.toNat = k := by omega
  rw [e]
  exact q
theorem coded_odd {c n : Nat} {d : D} {z : Bool} (c2 : 2 ≤ c) (c8 : c ≤ 8) (n1 : 1 ≤ n) (nc : n ≤ c) (h : d ∈ badD z n) (bx : Sto) : m_coded [.int c, .int n, d] bx = .err "Refused" d bx := by
  obtain ⟨b1, b2, b3⟩ := bad_of n1 (by omega) h
  refine coded_bad (by omega) (by omega) (by omega) (by omega) ?_
  rcases b3 with b3 | ⟨x, l, rfl, b4, b5, b6, b7, b8⟩
  · exact cells_bad b1 b3 bx
  · exact cells_bad1 (.inl rfl) b4 b5 b6 bx
theorem rowL_odd {c n : Nat} {d : D} (c2 : 2 ≤ c) (c8 : c ≤ 8) (n1 : 1 ≤ n) (nc : n ≤ c) (h : d ∈ badD false c) (bx : Sto) : m__row_lines [.int c, .int n, d] bx = .err "Refused" d bx := by
  obtain ⟨b1, b2, b3⟩ := bad_of (by omega) c8 h
  rcases b3 with b3 | ⟨x, l, rfl, b4, b5, b6, b7, b8⟩
  · exact rowL_bad (by omega) (by omega) (by omega) (by omega) (by rw [m_has b1, b3])
  · rcases b8 with b8 | b8
    · cases b8
    · exact rowL_bad1 (.inl rfl) b4 c2 c8 n1 nc b5 b8 b7
theorem said_false {F : Fn D} {δ : List (Option D)} {bx : Sto} {x : D} {i : Nat} (h : F δ bx = .err "Refused" x bx) (f : Sh x) (hi : δ[i]? = some (some x)) : fB (f2 cNeD (fHeardG (hResL .rep CLS) F) (fA cTup (fCons (pur (.str "refused")) (fCons (fA cRepr (fCons (fVar i) (pur []))) (fCons (pur (.bl true)) (pur [])))))) δ bx = .ok false bx := W.eq (by
  rw [W_B, W_f2, hrdRef h f, W_ok]
  simp only [WS_next, W_B, W_f1, W_f2, W_fA, W_cons, W_pur, W_var, W_not, W_ifT, W_ifB, W_call, W_callK, W_chain, W_wk, W_sl, W_po, W_poN, W_ok, W_err, W_noErr, W_fnD, ev_plus, ev_sub, ev_iB, ev_toB, ev_not, ev_neg, ev_isN, ev_notN, ev_isB, ev_int, ev_abs, ev_max, ev_min, ev_eqI, ev_neI, Ms.isNon, Option.some.injEq, exists_eq_left', List.getElem?_cons_zero, List.getElem?_cons_succ, List.set_cons_zero, List.set_cons_succ, List.map_cons, List.map_nil, List.cons_append, List.nil_append, List.length_cons, List.length_nil, List.reduceReplicate, Nat.reduceAdd, Nat.reduceSub, Bool.not_true, Bool.not_false, Bool.false_eq_true, Bool.true_eq_false, if_true, if_false, decide_true, decide_false, D.int.injEq, D.bl.injEq, D.ref.injEq, exists_and_left, hi, f.repr]
  refine ⟨_, ev_tup (show [D.str "refused", D.str x.py.shown, D.bl true].length ≤ 1000 by show 3 ≤ 1000; decide), _, said_ne f.st, _, rfl, rfl, trivial⟩)
theorem said_true {F : Fn D} {δ : List (Option D)} {bx : Sto} {x : D} {i : Nat} (h : F δ bx = .err "Refused" x bx) (f : Sh x) (hi : δ[i]? = some (some x)) : (f2 cEqD (fHeardG (hResL .rep CLS) F) (fA cTup (fCons (pur (.str "refused")) (fCons (fA cRepr (fCons (fVar i) (pur []))) (fCons (pur (.bl true)) (pur [])))))) δ bx = .ok (.bl true) bx := W.eq (by
  rw [W_f2, hrdRef h f, W_ok]
  simp only [WS_next, W_B, W_f1, W_f2, W_fA, W_cons, W_pur, W_var, W_not, W_ifT, W_ifB, W_call, W_callK, W_chain, W_wk, W_sl, W_po, W_poN, W_ok, W_err, W_noErr, W_fnD, ev_plus, ev_sub, ev_iB, ev_toB, ev_not, ev_neg, ev_isN, ev_notN, ev_isB, ev_int, ev_abs, ev_max, ev_min, ev_eqI, ev_neI, Ms.isNon, Option.some.injEq, exists_eq_left', List.getElem?_cons_zero, List.getElem?_cons_succ, List.set_cons_zero, List.set_cons_succ, List.map_cons, List.map_nil, List.cons_append, List.nil_append, List.length_cons, List.length_nil, List.reduceReplicate, Nat.reduceAdd, Nat.reduceSub, Bool.not_true, Bool.not_false, Bool.false_eq_true, Bool.true_eq_false, if_true, if_false, decide_true, decide_false, D.int.injEq, D.bl.injEq, D.ref.injEq, exists_and_left, hi, f.repr]
  refine ⟨_, ev_tup (show [D.str "refused", D.str x.py.shown, D.bl true].length ≤ 1000 by show 3 ≤ 1000; decide), _, said_eq f.st, rfl, trivial⟩)
theorem none_ok {b c n : Nat} {bx : Sto} (hb : Bx b bx) (c2 : 2 ≤ c) (c8 : c ≤ 8) (n1 : 1 ≤ n) (nc : n ≤ c) : Th (W (m__law_none_right [.ref b, .int c, .int n] bx) (fun x _ => x = .bl true) NoE) := by
  constructor
  unfold m__law_none_right
  refine W_hideR ?_
  have hb := hide_bx hb
  obtain ⟨s0, hs0⟩ : ∃ s, s = hide bx := ⟨_, rfl⟩
  rw [← hs0] at hb ⊢
  clear hs0
  have hlt := bx_lt hb
  unfold S__law_none_right N__law_none_right
  rw [W_noErr, W_fnD, WS_seq, WS_unp]
  have l6 : ∀ (bx : Sto) (a b c d e f : D), cLst bx [a, b, c, d, e, f] = some (.lst [a, b, c, d, e, f]) := fun _ _ _ _ _ _ _ => ev_lst (by show 6 ≤ 1000; decide)
  have l5 : ∀ (bx : Sto) (a b c d e : D), cLst bx [a, b, c, d, e] = some (.lst [a, b, c, d, e]) := fun _ _ _ _ _ _ => ev_lst (by show 5 ≤ 1000; decide)
  simp only [WS_next, W_B, W_f1, W_f2, W_fA, W_cons, W_pur, W_var, W_not, W_ifT, W_ifB, W_call, W_callK, W_chain, W_wk, W_sl, W_po, W_poN, W_ok, W_err, W_noErr, W_fnD, ev_plus, ev_sub, ev_iB, ev_toB, ev_not, ev_neg, ev_isN, ev_notN, ev_isB, ev_int, ev_abs, ev_max, ev_min, ev_eqI, ev_neI, Ms.isNon, Option.some.injEq, exists_eq_left', List.getElem?_cons_zero, List.getElem?_cons_succ, List.set_cons_zero, List.set_cons_succ, List.map_cons, List.map_nil, List.cons_append, List.nil_append, List.length_cons, List.length_nil, List.reduceReplicate, Nat.reduceAdd, Nat.reduceSub, Bool.not_true, Bool.not_false, Bool.false_eq_true, Bool.true_eq_false, if_true, if_false, decide_true, decide_false, D.int.injEq, D.bl.injEq, D.ref.injEq, exists_and_left, l6]
  refine (pick_ok (l := badC) hb (.inl rfl) (by decide) (by decide)).to fun bad s1 ⟨q1, y1, k1⟩ => ?_
  simp only [l5, Option.some.injEq, exists_eq_left']
  refine (pick_ok (l := badN c) y1.bx (.inl rfl) (by simp [badN]) (by show 5 < _; decide)).to fun non s2 ⟨q2, y2, k2⟩ => ?_
  obtain ⟨b1, b2, b3⟩ := badC_ok bad q1
  obtain ⟨b4, b5, b6⟩ := badN_ok c2 c8 non q2
  have z0 : Ext b s0 s2 := y1.trans y2
  clear y1 y2 q1 q2 k1 k2
  refine ⟨_, ev_tup (show [bad, non].length ≤ 1000 by show 2 ≤ 1000; decide), _, rfl, ?_⟩
  rw [WS_seq, WS_set]
  refine asks_new (N := fun n => n < 3) (by decide) fun A0 => ?_
  simp only [WS_next, W_B, W_f1, W_f2, W_fA, W_cons, W_pur, W_var, W_not, W_ifT, W_ifB, W_call, W_callK, W_chain, W_wk, W_sl, W_po, W_poN, W_ok, W_err, W_noErr, W_fnD, ev_plus, ev_sub, ev_iB, ev_toB, ev_not, ev_neg, ev_isN, ev_notN, ev_isB, ev_int, ev_abs, ev_max, ev_min, ev_eqI, ev_neI, Ms.isNon, Option.some.injEq, exists_eq_left', List.getElem?_cons_zero, List.getElem?_cons_succ, List.set_cons_zero, List.set_cons_succ, List.map_cons, List.map_nil, List.cons_append, List.nil_append, List.length_cons, List.length_nil, List.reduceReplicate, Nat.reduceAdd, Nat.reduceSub, Bool.not_true, Bool.not_false, Bool.false_eq_true, Bool.true_eq_false, if_true, if_false, decide_true, decide_false, D.int.injEq, D.bl.injEq, D.ref.injEq, exists_and_left]
  obtain ⟨ca, hca⟩ : ∃ ca, ca = s2.length + 1 := ⟨_, rfl⟩
  have z1 : Ext b s0 (s2 ++ [Cell.lam 0] ++ [Cell.lst [D.ref s2.length]]) := ext_plus (ext_plus z0)
  have hcl : s0.length ≤ ca := by have := z0.ln; omega
  rw [← hca] at A0 ⊢
  obtain ⟨t0, ht0⟩ : ∃ t0, t0 = (s2 ++ [Cell.lam 0] ++ [Cell.lst [D.ref s2.length]]) := ⟨_, rfl⟩
  rw [← ht0] at A0 z1 ⊢
  rw [WS_seq]
  refine asks_app A0 (by decide) rfl (by simp) fun A1 => ?_
  have z2 := ext_more (x := .lam 1) (y := .lst ([D.ref s2.length] ++ [D.ref t0.length])) z1 hcl hlt
  obtain ⟨t1, ht1⟩ : ∃ t1, t1 = ((t0 ++ [Cell.lam 1]).set ca (Cell.lst ([D.ref s2.length] ++ [D.ref t0.length]))) := ⟨_, rfl⟩
  rw [← ht1] at A1 z2 ⊢
  rw [WS_seq]
  refine asks_app A1 (by decide) rfl (by simp) fun A2 => ?_
  have z3 := ext_more (x := .lam 2) (y := .lst ([D.ref s2.length] ++ [D.ref t0.length] ++ [D.ref t1.length])) z2 hcl hlt
  obtain ⟨t2, ht2⟩ : ∃ t2, t2 = ((t1 ++ [Cell.lam 2]).set ca (Cell.lst ([D.ref s2.length] ++ [D.ref t0.length] ++ [D.ref t1.length]))) := ⟨_, rfl⟩
  obtain ⟨L, hL⟩ : ∃ L, L = ([D.ref s2.length] ++ [D.ref t0.length] ++ [D.ref t1.length]) := ⟨_, rfl⟩
  have Ll : L.length = 3 := by rw [hL]; rfl
  rw [← ht2] at A2 z3 ⊢
  rw [← hL] at A2
  clear ht0 ht1 ht2 z1 z2 A0 A1 hL
  rw [WS_seq, WS_frz]
  refine ⟨ca, L, rfl, A2.at_, ?_⟩
  have z4 := ext_set (x := .dead) z3 hcl hlt
  have lams : ∀ d ∈ L, ∃ k n, d = D.ref k ∧ (t2.set ca .dead)[k]? = some (.lam n) ∧ n < 3 := fun d hd => by
    obtain ⟨k, n, e1, e2, e3, e4⟩ := A2.all d hd
    exact ⟨k, n, e1, at_ne e3 (Ne.symm e2), e4⟩
  revert z4 lams
  generalize t2.set ca .dead = s5
  intro z4 lams
  clear A2 z3 z0
  have cb1 : ∀ bx, m_need_code [bad, non] bx = .err "Refused" bad bx := fun bx => code_bad1 b1 b2 bx
  have cb2 : ∀ bx, m_need_code [.int c, non] bx = .err "Refused" non bx := fun bx => code_bad2 (by omega) (by omega) b4 b5 bx
  rw [WS_seq, WS_for]
  simp only [WS_next, W_B, W_f1, W_f2, W_fA, W_cons, W_pur, W_var, W_not, W_ifT, W_ifB, W_call, W_callK, W_chain, W_wk, W_sl, W_po, W_poN, W_ok, W_err, W_noErr, W_fnD, ev_plus, ev_sub, ev_iB, ev_toB, ev_not, ev_neg, ev_isN, ev_notN, ev_isB, ev_int, ev_abs, ev_max, ev_min, ev_eqI, ev_neI, Ms.isNon, Option.some.injEq, exists_eq_left', List.getElem?_cons_zero, List.getElem?_cons_succ, List.set_cons_zero, List.set_cons_succ, List.map_cons, List.map_nil, List.cons_append, List.nil_append, List.length_cons, List.length_nil, List.reduceReplicate, Nat.reduceAdd, Nat.reduceSub, Bool.not_true, Bool.not_false, Bool.false_eq_true, Bool.true_eq_false, if_true, if_false, decide_true, decide_false, D.int.injEq, D.bl.injEq, D.ref.injEq, exists_and_left]
  refine ⟨L, rfl, ?_⟩
  refine for_rule (fun _ δ st => st = s5 ∧ ∃ x6, δ = [some (.ref b), some (.int c), some (.int n), some bad, some non, some (.lst L), x6, none, none]) ⟨rfl, none, rfl⟩ ?_ ?_
  · rintro δ st ⟨rfl, x6, rfl⟩
    rw [WS_seq, WS_set]
    simp only [WS_next, W_B, W_f1, W_f2, W_fA, W_cons, W_pur, W_var, W_not, W_ifT, W_ifB, W_call, W_callK, W_chain, W_wk, W_sl, W_po, W_poN, W_ok, W_err, W_noErr, W_fnD, ev_plus, ev_sub, ev_iB, ev_toB, ev_not, ev_neg, ev_isN, ev_notN, ev_isB, ev_int, ev_abs, ev_max, ev_min, ev_eqI, ev_neI, Ms.isNon, Option.some.injEq, exists_eq_left', List.getElem?_cons_zero, List.getElem?_cons_succ, List.set_cons_zero, List.set_cons_succ, List.map_cons, List.map_nil, List.cons_append, List.nil_append, List.length_cons, List.length_nil, List.reduceReplicate, Nat.reduceAdd, Nat.reduceSub, Bool.not_true, Bool.not_false, Bool.false_eq_true, Bool.true_eq_false, if_true, if_false, decide_true, decide_false, D.int.injEq, D.bl.injEq, D.ref.injEq, exists_and_left]
    refine ⟨_, ev_mulS ⟨by omega, by omega, by show 1 ≤ 10; decide⟩, ?_⟩
    refine W_rep1 (v := .int 0) (n - 1) (by omega) (by omega) rfl ?_
    refine W_rep1 (v := .int 0) (n + 1) (by omega) (by omega) rfl ?_
    refine W_rep1 (v := .int 257) n rfl (by omega) rfl ?_
    refine W_rep1 (v := .non) n rfl (by omega) rfl ?_
    refine W_rep1 (v := .int (-1)) n rfl (by omega) (W.eq (by simp only [WS_next, W_B, W_f1, W_f2, W_fA, W_cons, W_pur, W_var, W_not, W_ifT, W_ifB, W_call, W_callK, W_chain, W_wk, W_sl, W_po, W_poN, W_ok, W_err, W_noErr, W_fnD, ev_plus, ev_sub, ev_iB, ev_toB, ev_not, ev_neg, ev_isN, ev_notN, ev_isB, ev_int, ev_abs, ev_max, ev_min, ev_eqI, ev_neI, Ms.isNon, Option.some.injEq, exists_eq_left', List.getElem?_cons_zero, List.getElem?_cons_succ, List.set_cons_zero, List.set_cons_succ, List.map_cons, List.map_nil, List.cons_append, List.nil_append, List.length_cons, List.length_nil, List.reduceReplicate, Nat.reduceAdd, Nat.reduceSub, Bool.not_true, Bool.not_false, Bool.false_eq_true, Bool.true_eq_false, if_true, if_false, decide_true, decide_false, D.int.injEq, D.bl.injEq, D.ref.injEq, exists_and_left]; exact ⟨rfl, trivial⟩)) ?_
    refine W_rep1 (v := .bl true) n rfl (by omega) rfl ?_
    refine ⟨_, ev_lst (by show 9 ≤ 1000; decide), ?_⟩
    have z6 := ext_plus (ys := [Cell.lst [D.bl true]]) (ext_plus (ys := [Cell.lst [D.int (-1)]]) (ext_plus (ys := [Cell.lst [D.non]]) (ext_plus (ys := [Cell.lst [D.int 257]]) (ext_plus (ys := [Cell.lst [D.int 0]]) (ext_plus (ys := [Cell.lst [D.int 0]]) z4)))))
    revert z6
    generalize st ++ [Cell.lst [D.int 0]] ++ [Cell.lst [D.int 0]] ++ [Cell.lst [D.int 257]] ++ [Cell.lst [D.non]] ++ [Cell.lst [D.int (-1)]] ++ [Cell.lst [D.bl true]] = s6
    intro z6
    refine (pick_ok (l := badD true n) z6.bx (.inl rfl) (by simp [badD]) (by show 9 < _; decide)).to fun data s7 ⟨q7, y7, k7⟩ => ?_
    have z7 := z6.trans y7
    rw [WS_seq, WS_if, said_false (x := data) (i := 7) (W.eqE (by simp only [WS_next, W_B, W_f1, W_f2, W_fA, W_cons, W_pur, W_var, W_not, W_ifT, W_ifB, W_call, W_callK, W_chain, W_wk, W_sl, W_po, W_poN, W_ok, W_err, W_noErr, W_fnD, ev_plus, ev_sub, ev_iB, ev_toB, ev_not, ev_neg, ev_isN, ev_notN, ev_isB, ev_int, ev_abs, ev_max, ev_min, ev_eqI, ev_neI, Ms.isNon, Option.some.injEq, exists_eq_left', List.getElem?_cons_zero, List.getElem?_cons_succ, List.set_cons_zero, List.set_cons_succ, List.map_cons, List.map_nil, List.cons_append, List.nil_append, List.length_cons, List.length_nil, List.reduceReplicate, Nat.reduceAdd, Nat.reduceSub, Bool.not_true, Bool.not_false, Bool.false_eq_true, Bool.true_eq_false, if_true, if_false, decide_true, decide_false, D.int.injEq, D.bl.injEq, D.ref.injEq, exists_and_left, coded_odd c2 c8 n1 nc q7, and_self])) (bad_of n1 (by omega) q7).2.1 rfl, W_ok, if_neg (by decide), WS_next, WS_seq, WS_set]
    simp only [WS_next, W_B, W_f1, W_f2, W_fA, W_cons, W_pur, W_var, W_not, W_ifT, W_ifB, W_call, W_callK, W_chain, W_wk, W_sl, W_po, W_poN, W_ok, W_err, W_noErr, W_fnD, ev_plus, ev_sub, ev_iB, ev_toB, ev_not, ev_neg, ev_isN, ev_notN, ev_isB, ev_int, ev_abs, ev_max, ev_min, ev_eqI, ev_neI, Ms.isNon, Option.some.injEq, exists_eq_left', List.getElem?_cons_zero, List.getElem?_cons_succ, List.set_cons_zero, List.set_cons_succ, List.map_cons, List.map_nil, List.cons_append, List.nil_append, List.length_cons, List.length_nil, List.reduceReplicate, Nat.reduceAdd, Nat.reduceSub, Bool.not_true, Bool.not_false, Bool.false_eq_true, Bool.true_eq_false, if_true, if_false, decide_true, decide_false, D.int.injEq, D.bl.injEq, D.ref.injEq, exists_and_left]
    refine ⟨_, ev_mulS ⟨by omega, by omega, by show 1 ≤ 10; decide⟩, ?_⟩
    refine W_rep1 (v := .int 0) (c - 1) (by omega) (by omega) rfl ?_
    refine W_rep1 (v := .int 0) (c + 1) (by omega) (by omega) rfl ?_
    refine W_rep1 (v := .int 257) c rfl (by omega) rfl ?_
    refine W_rep1 (v := .int (-1)) c rfl (by omega) (W.eq (by simp only [WS_next, W_B, W_f1, W_f2, W_fA, W_cons, W_pur, W_var, W_not, W_ifT, W_ifB, W_call, W_callK, W_chain, W_wk, W_sl, W_po, W_poN, W_ok, W_err, W_noErr, W_fnD, ev_plus, ev_sub, ev_iB, ev_toB, ev_not, ev_neg, ev_isN, ev_notN, ev_isB, ev_int, ev_abs, ev_max, ev_min, ev_eqI, ev_neI, Ms.isNon, Option.some.injEq, exists_eq_left', List.getElem?_cons_zero, List.getElem?_cons_succ, List.set_cons_zero, List.set_cons_succ, List.map_cons, List.map_nil, List.cons_append, List.nil_append, List.length_cons, List.length_nil, List.reduceReplicate, Nat.reduceAdd, Nat.reduceSub, Bool.not_true, Bool.not_false, Bool.false_eq_true, Bool.true_eq_false, if_true, if_false, decide_true, decide_false, D.int.injEq, D.bl.injEq, D.ref.injEq, exists_and_left]; exact ⟨rfl, trivial⟩)) ?_
    refine W_rep1 (v := .bl true) c rfl (by omega) rfl ?_
    refine ⟨_, ev_lst (by show 8 ≤ 1000; decide), ?_⟩
    have z8 := ext_plus (ys := [Cell.lst [D.bl true]]) (ext_plus (ys := [Cell.lst [D.int (-1)]]) (ext_plus (ys := [Cell.lst [D.int 257]]) (ext_plus (ys := [Cell.lst [D.int 0]]) (ext_plus (ys := [Cell.lst [D.int 0]]) z7))))
    revert z8
    generalize s7 ++ [Cell.lst [D.int 0]] ++ [Cell.lst [D.int 0]] ++ [Cell.lst [D.int 257]] ++ [Cell.lst [D.int (-1)]] ++ [Cell.lst [D.bl true]] = s8
    intro z8
    refine (pick_ok (l := badD false c) z8.bx (.inl rfl) (by simp [badD]) (by show 8 < _; decide)).to fun row s9 ⟨q9, y9, k9⟩ => ?_
    have sr := (bad_of (by omega) c8 q9).2.1
    rw [WS_seq, WS_if, said_false (x := row) (i := 8) (W.eqE (by simp only [WS_next, W_B, W_f1, W_f2, W_fA, W_cons, W_pur, W_var, W_not, W_ifT, W_ifB, W_call, W_callK, W_chain, W_wk, W_sl, W_po, W_poN, W_ok, W_err, W_noErr, W_fnD, ev_plus, ev_sub, ev_iB, ev_toB, ev_not, ev_neg, ev_isN, ev_notN, ev_isB, ev_int, ev_abs, ev_max, ev_min, ev_eqI, ev_neI, Ms.isNon, Option.some.injEq, exists_eq_left', List.getElem?_cons_zero, List.getElem?_cons_succ, List.set_cons_zero, List.set_cons_succ, List.map_cons, List.map_nil, List.cons_append, List.nil_append, List.length_cons, List.length_nil, List.reduceReplicate, Nat.reduceAdd, Nat.reduceSub, Bool.not_true, Bool.not_false, Bool.false_eq_true, Bool.true_eq_false, if_true, if_false, decide_true, decide_false, D.int.injEq, D.bl.injEq, D.ref.injEq, exists_and_left, fits_err (rowL_odd c2 c8 n1 nc q9 s9), and_self])) sr rfl, W_ok, if_neg (by decide), WS_next, WS_seq, WS_ret]
    rw [said_true (x := row) (i := 8) (W.eqE (by simp only [WS_next, W_B, W_f1, W_f2, W_fA, W_cons, W_pur, W_var, W_not, W_ifT, W_ifB, W_call, W_callK, W_chain, W_wk, W_sl, W_po, W_poN, W_ok, W_err, W_noErr, W_fnD, ev_plus, ev_sub, ev_iB, ev_toB, ev_not, ev_neg, ev_isN, ev_notN, ev_isB, ev_int, ev_abs, ev_max, ev_min, ev_eqI, ev_neI, Ms.isNon, Option.some.injEq, exists_eq_left', List.getElem?_cons_zero, List.getElem?_cons_succ, List.set_cons_zero, List.set_cons_succ, List.map_cons, List.map_nil, List.cons_append, List.nil_append, List.length_cons, List.length_nil, List.reduceReplicate, Nat.reduceAdd, Nat.reduceSub, Bool.not_true, Bool.not_false, Bool.false_eq_true, Bool.true_eq_false, if_true, if_false, decide_true, decide_false, D.int.injEq, D.bl.injEq, D.ref.injEq, exists_and_left, told_err (rowL_odd c2 c8 n1 nc q9 s9), and_self])) sr rfl, W_ok]
  · rintro i d δ st hd ⟨rfl, x6, rfl⟩
    obtain ⟨k, m, rfl, hk, hm⟩ := lams d (List.mem_of_getElem? hd)
    refine ⟨_, rfl, ?_⟩
    rw [WS_seq, WS_if]
    rw [said_false (x := bad) (call_bad rfl hk hm (p := bad) (q := non) (W.eq (by simp only [WS_next, W_B, W_f1, W_f2, W_fA, W_cons, W_pur, W_var, W_not, W_ifT, W_ifB, W_call, W_callK, W_chain, W_wk, W_sl, W_po, W_poN, W_ok, W_err, W_noErr, W_fnD, ev_plus, ev_sub, ev_iB, ev_toB, ev_not, ev_neg, ev_isN, ev_notN, ev_isB, ev_int, ev_abs, ev_max, ev_min, ev_eqI, ev_neI, Ms.isNon, Option.some.injEq, exists_eq_left', List.getElem?_cons_zero, List.getElem?_cons_succ, List.set_cons_zero, List.set_cons_succ, List.map_cons, List.map_nil, List.cons_append, List.nil_append, List.length_cons, List.length_nil, List.reduceReplicate, Nat.reduceAdd, Nat.reduceSub, Bool.not_true, Bool.not_false, Bool.false_eq_true, Bool.true_eq_false, if_true, if_false, decide_true, decide_false, D.int.injEq, D.bl.injEq, D.ref.injEq, exists_and_left, and_self])) (cb1 _)) b3 rfl, W_ok, if_neg (by decide), WS_next, WS_seq, WS_if]
    rw [said_false (x := non) (call_bad rfl hk hm (p := .int c) (q := non) (W.eq (by simp only [WS_next, W_B, W_f1, W_f2, W_fA, W_cons, W_pur, W_var, W_not, W_ifT, W_ifB, W_call, W_callK, W_chain, W_wk, W_sl, W_po, W_poN, W_ok, W_err, W_noErr, W_fnD, ev_plus, ev_sub, ev_iB, ev_toB, ev_not, ev_neg, ev_isN, ev_notN, ev_isB, ev_int, ev_abs, ev_max, ev_min, ev_eqI, ev_neI, Ms.isNon, Option.some.injEq, exists_eq_left', List.getElem?_cons_zero, List.getElem?_cons_succ, List.set_cons_zero, List.set_cons_succ, List.map_cons, List.map_nil, List.cons_append, List.nil_append, List.length_cons, List.length_nil, List.reduceReplicate, Nat.reduceAdd, Nat.reduceSub, Bool.not_true, Bool.not_false, Bool.false_eq_true, Bool.true_eq_false, if_true, if_false, decide_true, decide_false, D.int.injEq, D.bl.injEq, D.ref.injEq, exists_and_left, and_self])) (cb2 _)) b6 rfl, W_ok, if_neg (by decide), WS_next, WS_next]
    exact ⟨rfl, _, rfl⟩
end K23

end
section
set_option Elab.async false
set_option linter.all false
set_option maxRecDepth 100000
set_option maxHeartbeats 4000000
namespace K23
open PySem PySem.Spec PyProof.Rows L2 Ms
def Dz (ns : List Int) (δ : List (Option D)) : Prop := ∃ x1 x2 x3 x4 x5 x6 x7 x8 x9 x10, δ = [some (.scr ns), x1, x2, x3, x4, x5, x6, x7, x8, x9, x10]
theorem code_sh {data : List Int} {c : Nat} (c8 : c ≤ 8) : Sh (.lst [.tup ((codeL data c).map D.int), .tup ((codeL data c).map D.int)]) := by
  have f : Fw (.tup ((codeL data c).map D.int)) 1 400 := by
    refine ((Fw.tup (a := 0) (b := 31) fun d hd => ?_).mono (by decide) (by unfold codeL; rw [List.length_map, List.length_map, rg_len]; omega))
    obtain ⟨i, hi, rfl⟩ := List.mem_map.mp hd
    obtain ⟨x, _, rfl⟩ := List.mem_map.mp hi
    have := cd_rng (data := data) (x := x)
    exact (Fit.int (by omega)).fw
  refine (Fw.lst (a := 1) (b := 400) fun d hd => ?_).ok (by decide) (by show 2 * 401 ≤ _; decide)
  simp only [List.mem_cons, List.not_mem_nil, or_false] at hd
  rcases hd with rfl | rfl <;> exact f
/-- what comes after stays shut -/
theorem WS_hide {S T : Sn} {δ : List (Option D)} {bx : Sto} {N : List (Option D) → Sto → Prop} {Rt : D → Sto → Prop} {E : Str → D → Sto → Prop} : WS (sSeq S T δ bx) N Rt E ↔ ∀ T', T' = T → WS (S δ bx) (fun δ' bx' => WS (T' δ' bx') N Rt E) Rt E := WS_seq.trans ⟨fun h T' e => e ▸ h, fun h => h T rfl⟩
theorem data_ok {ns : List Int} {b n : Nat} {x1 x3 x4 x5 x6 x7 x8 x9 x10 : Option D} {s2 : Sto} {E : Str → D → Sto → Prop} (hb : Bx b s2) : W (lcGo (bOne 6) [some (.scr ns), x1, some (.ref b), x3, x4, x5, x6, x7, x8, x9, x10] (pur true) (fCall m__law_pick (fCons (fVar 2) (fCons (fA cLst (fCons (fCall m__law_take (fCons (fVar 2) (fCons (pur (.int 257)) (pur [])))) (fCons (pur (.int 256)) (fCons (pur (.int 0)) (fCons (pur (.int 1)) (pur [])))))) (pur [])))) ((rg 0 n).map D.int) s2 []) (fun acc st => ∃ vs : List Int, acc = vs.map D.int ∧ vs.length = n ∧ okC vs ∧ Bx b st) E := by
  refine lc_rule (fun i acc st => ∃ vs : List Int, acc = vs.map D.int ∧ vs.length = i ∧ okC vs ∧ Bx b st) ⟨[], rfl, rfl, fun x hx => by simp at hx, hb⟩ ?_ ?_
  · rintro acc s3 ⟨data, e, hl, okd, hb3⟩
    rw [List.length_map, rg_len] at hl
    exact ⟨data, e, hl, okd, hb3⟩
  · rintro i d acc st hd ⟨vs, rfl, hl, okd, hb3⟩
    obtain ⟨w, hw, rfl⟩ := map_get hd
    refine ⟨_, rfl, ?_⟩
    rw [W_pur, if_pos rfl]
    simp only [unset, List.foldl_cons, List.foldl_nil, WS_next, W_B, W_f1, W_f2, W_fA, W_cons, W_pur, W_var, W_not, W_ifT, W_ifB, W_call, W_callK, W_chain, W_wk, W_sl, W_po, W_poN, W_ok, W_err, W_noErr, W_fnD, ev_plus, ev_sub, ev_iB, ev_toB, ev_not, ev_neg, ev_isN, ev_notN, ev_isB, ev_int, ev_abs, ev_max, ev_min, ev_eqI, ev_neI, Ms.isNon, Option.some.injEq, exists_eq_left', List.getElem?_cons_zero, List.getElem?_cons_succ, List.set_cons_zero, List.set_cons_succ, List.map_cons, List.map_nil, List.cons_append, List.nil_append, List.length_cons, List.length_nil, List.reduceReplicate, Nat.reduceAdd, Nat.reduceSub, Bool.not_true, Bool.not_false, Bool.false_eq_true, Bool.true_eq_false, if_true, if_false, decide_true, decide_false, D.int.injEq, D.bl.injEq, D.ref.injEq, exists_and_left]
    refine (take_ok hb3 (by decide) (by decide)).to fun r s4 ⟨v, e, v0, v1, y4, l4⟩ => ?_
    subst e
    refine ⟨_, ev_lst (show [D.int v, D.int 256, D.int 0, D.int 1].length ≤ 1000 by show 4 ≤ 1000; decide), ?_⟩
    refine (pick_ok (l := [D.int v, D.int 256, D.int 0, D.int 1]) y4.bx (.inl rfl) (by simp) (by show 4 < _; decide)).to fun r s5 ⟨q5, y5, l5⟩ => ?_
    have hr : ∃ u, r = .int u ∧ 0 ≤ u ∧ u < 257 := by
      simp only [List.mem_cons, List.not_mem_nil, or_false] at q5
      rcases q5 with rfl | rfl | rfl | rfl
      · exact ⟨v, rfl, v0, v1⟩
      · exact ⟨_, rfl, by decide, by decide⟩
      · exact ⟨_, rfl, by decide, by decide⟩
      · exact ⟨_, rfl, by decide, by decide⟩
    obtain ⟨u, rfl, u0, u1⟩ := hr
    refine ⟨vs ++ [u], by rw [List.map_append]; rfl, by rw [List.length_append, hl]; rfl, fun x hx => ?_, y5.bx⟩
    rcases List.mem_append.mp hx with h | h
    · exact okd x h
    · cases List.mem_singleton.mp h
      exact ⟨u0, u1⟩
def Dr (ns : List Int) (i b c n : Nat) (data : List Int) (x6 x8 x9 x10 : Option D) : List (Option D) := [some (.scr ns), some (.int i), some (.ref b), some (.int c), some (.int n), some (.lst (data.map D.int)), x6, some (.lst ((codeL data c).map D.int)), x8, x9, x10]
theorem rowc_ok {b : Nat} {δ : List (Option D)} {l : List Int} {s2 : Sto} {E : Str → D → Sto → Prop} (hb : Bx b s2) (h2 : (δ.set 10 none)[2]? = some (some (.ref b))) (h10 : 10 < δ.length) (okl : okC l) : W (lcGo (bOne 10) δ (pur true) (fIfT (fB (f2 cEqD (fCall m__law_take (fCons (fVar 2) (fCons (pur (.int 3)) (pur [])))) (pur (.int 0)))) (pur .non) (fVar 10)) (l.map D.int) s2 []) (fun acc st => ∃ ρ : Row, acc = ρ.map celD ∧ ρ.length = l.length ∧ okR ρ ∧ Bx b st) E := by
  refine lc_rule (fun i acc st => ∃ ρ : Row, acc = ρ.map celD ∧ ρ.length = i ∧ okR ρ ∧ Bx b st) ⟨[], rfl, rfl, fun v hv => by simp at hv, hb⟩ ?_ ?_
  · rintro acc s3 ⟨ρ, e, hl, okd, hb3⟩
    rw [List.length_map] at hl
    exact ⟨ρ, e, hl, okd, hb3⟩
  · rintro i d acc st hd ⟨ρ, rfl, hl, okd, hb3⟩
    obtain ⟨w, hw, rfl⟩ := map_get hd
    have ow := okl w (List.mem_of_getElem? hw)
    refine ⟨_, rfl, ?_⟩
    rw [W_pur, if_pos rfl, W_ifT]
    have g2 : (δ.set 10 (some (.int w)))[2]? = some (some (.ref b)) := by
      rw [List.getElem?_set_ne (by decide)] at h2 ⊢
      exact h2
    have g10 : (δ.set 10 (some (.int w)))[10]? = some (some (.int w)) := List.getElem?_set_self h10
    simp only [WS_next, W_B, W_f1, W_f2, W_fA, W_cons, W_pur, W_var, W_not, W_ifT, W_ifB, W_call, W_callK, W_chain, W_wk, W_sl, W_po, W_poN, W_ok, W_err, W_noErr, W_fnD, ev_plus, ev_sub, ev_iB, ev_toB, ev_not, ev_neg, ev_isN, ev_notN, ev_isB, ev_int, ev_abs, ev_max, ev_min, ev_eqI, ev_neI, Ms.isNon, Option.some.injEq, exists_eq_left', List.getElem?_cons_zero, List.getElem?_cons_succ, List.set_cons_zero, List.set_cons_succ, List.map_cons, List.map_nil, List.cons_append, List.nil_append, List.length_cons, List.length_nil, List.reduceReplicate, Nat.reduceAdd, Nat.reduceSub, Bool.not_true, Bool.not_false, Bool.false_eq_true, Bool.true_eq_false, if_true, if_false, decide_true, decide_false, D.int.injEq, D.bl.injEq, D.ref.injEq, exists_and_left, g2]
    refine (take_ok hb3 (by decide) (by decide)).to fun r s4 ⟨v, e, v0, v1, y4, l4⟩ => ?_
    subst e
    refine ⟨_, ev_eqI, _, rfl, ?_⟩
    cases (v == 0) with
    | true =>
      rw [if_pos rfl, W_pur]
      refine ⟨ρ ++ [none], by rw [List.map_append]; rfl, by rw [List.length_append, hl]; rfl, fun x hx => ?_, y4.bx⟩
      rcases List.mem_append.mp hx with h | h
      · exact okd x h
      · cases List.mem_singleton.mp h
    | false =>
      rw [if_neg (by decide), W_var]
      refine ⟨_, g10, ρ ++ [some w], by rw [List.map_append]; rfl, by rw [List.length_append, hl]; rfl, fun x hx => ?_, y4.bx⟩
      rcases List.mem_append.mp hx with h | h
      · exact okd x h
      · cases List.mem_singleton.mp h
        exact ow
def RI (ns : List Int) (i b c n : Nat) (data : List Int) (p : Nat) (δ : List (Option D)) (st : Sto) : Prop := ∃ (x6 x8 x10 : Option D) (ρ : Row), δ = Dr ns i b c n data x6 x8 (some (.ref p)) x10 ∧ Bx b st ∧ st[p]? = some (.lst (ρ.map celD)) ∧ ρ.length = c ∧ okR ρ
theorem rowif_ok {ns : List Int} {i b c n p : Nat} {data : List Int} {x6 x8 x10 : Option D} {st : Sto} {ρ : Row} (hb : Bx b st) (hp : st[p]? = some (.lst (ρ.map celD))) (hl : ρ.length = c) (ok : okR ρ) (c2 : 2 ≤ c) (c8 : c ≤ 8) (bp : b ≠ p) :
    WS (sIf (fB (f2 cEqD (fCall m__law_take (fCons (fVar 2) (fCons (pur (.int 2)) (pur [])))) (pur (.int 0)))) (sSeq (sSet 6 (fCall m__law_take (fCons (fVar 2) (fCons (fVar 3) (pur []))))) (sSeq (sPut (fCall m__law_pick (fCons (fVar 2) (fCons (fA cLst (fCons (pur .non) (fCons (fCall m__law_take (fCons (fVar 2) (fCons (pur (.int 257)) (pur [])))) (fCons (f2 cMod (fA cInt (fCons (f2 cPlus (f2 cIx (fVar 7) (fVar 6)) (pur (.int 1))) (pur []))) (pur (.int 257))) (pur []))))) (pur [])))) (fVar 9) (fVar 6)) sNext)) sNext (Dr ns i b c n data x6 x8 (some (.ref p)) x10) st) (RI ns i b c n data p) (fun _ _ => False) NoE := by
  unfold Dr
  rw [WS_if]
  simp only [WS_next, W_B, W_f1, W_f2, W_fA, W_cons, W_pur, W_var, W_not, W_ifT, W_ifB, W_call, W_callK, W_chain, W_wk, W_sl, W_po, W_poN, W_ok, W_err, W_noErr, W_fnD, ev_plus, ev_sub, ev_iB, ev_toB, ev_not, ev_neg, ev_isN, ev_notN, ev_isB, ev_int, ev_abs, ev_max, ev_min, ev_eqI, ev_neI, Ms.isNon, Option.some.injEq, exists_eq_left', List.getElem?_cons_zero, List.getElem?_cons_succ, List.set_cons_zero, List.set_cons_succ, List.map_cons, List.map_nil, List.cons_append, List.nil_append, List.length_cons, List.length_nil, List.reduceReplicate, Nat.reduceAdd, Nat.reduceSub, Bool.not_true, Bool.not_false, Bool.false_eq_true, Bool.true_eq_false, if_true, if_false, decide_true, decide_false, D.int.injEq, D.bl.injEq, D.ref.injEq, exists_and_left]
  refine (take_ok hb (by decide) (by decide)).to fun r s1 ⟨v, e, v0, v1, y1, l1⟩ => ?_
  subst e
  have p1 : p < st.length := (List.getElem?_eq_some_iff.mp hp).1
  have hp1 := (y1.sm p p1 (Ne.symm bp)).trans hp
  refine ⟨_, ev_eqI, _, rfl, ?_⟩
  cases (v == 0) with
  | false =>
    rw [if_neg (by decide), WS_next]
    exact ⟨_, _, _, ρ, rfl, y1.bx, hp1, hl, ok⟩
  | true =>
    rw [if_pos rfl, WS_seq, WS_set]
    simp only [WS_next, W_B, W_f1, W_f2, W_fA, W_cons, W_pur, W_var, W_not, W_ifT, W_ifB, W_call, W_callK, W_chain, W_wk, W_sl, W_po, W_poN, W_ok, W_err, W_noErr, W_fnD, ev_plus, ev_sub, ev_iB, ev_toB, ev_not, ev_neg, ev_isN, ev_notN, ev_isB, ev_int, ev_abs, ev_max, ev_min, ev_eqI, ev_neI, Ms.isNon, Option.some.injEq, exists_eq_left', List.getElem?_cons_zero, List.getElem?_cons_succ, List.set_cons_zero, List.set_cons_succ, List.map_cons, List.map_nil, List.cons_append, List.nil_append, List.length_cons, List.length_nil, List.reduceReplicate, Nat.reduceAdd, Nat.reduceSub, Bool.not_true, Bool.not_false, Bool.false_eq_true, Bool.true_eq_false, if_true, if_false, decide_true, decide_false, D.int.injEq, D.bl.injEq, D.ref.injEq, exists_and_left]
    refine (take_ok y1.bx (by omega) (by omega)).to fun r s2 ⟨a, e, a0, a1, y2, l2⟩ => ?_
    subst e
    have hp2 := (y2.sm p (by omega) (Ne.symm bp)).trans hp1
    rw [WS_seq, WS_put]
    simp only [WS_next, W_B, W_f1, W_f2, W_fA, W_cons, W_pur, W_var, W_not, W_ifT, W_ifB, W_call, W_callK, W_chain, W_wk, W_sl, W_po, W_poN, W_ok, W_err, W_noErr, W_fnD, ev_plus, ev_sub, ev_iB, ev_toB, ev_not, ev_neg, ev_isN, ev_notN, ev_isB, ev_int, ev_abs, ev_max, ev_min, ev_eqI, ev_neI, Ms.isNon, Option.some.injEq, exists_eq_left', List.getElem?_cons_zero, List.getElem?_cons_succ, List.set_cons_zero, List.set_cons_succ, List.map_cons, List.map_nil, List.cons_append, List.nil_append, List.length_cons, List.length_nil, List.reduceReplicate, Nat.reduceAdd, Nat.reduceSub, Bool.not_true, Bool.not_false, Bool.false_eq_true, Bool.true_eq_false, if_true, if_false, decide_true, decide_false, D.int.injEq, D.bl.injEq, D.ref.injEq, exists_and_left]
    refine (take_ok y2.bx (by decide) (by decide)).to fun r s3 ⟨w, e, w0, w1, y3, l3⟩ => ?_
    subst e
    have hp3 := (y3.sm p (by omega) (Ne.symm bp)).trans hp2
    simp only [code_ix a0 a1, WS_next, W_B, W_f1, W_f2, W_fA, W_cons, W_pur, W_var, W_not, W_ifT, W_ifB, W_call, W_callK, W_chain, W_wk, W_sl, W_po, W_poN, W_ok, W_err, W_noErr, W_fnD, ev_plus, ev_sub, ev_iB, ev_toB, ev_not, ev_neg, ev_isN, ev_notN, ev_isB, ev_int, ev_abs, ev_max, ev_min, ev_eqI, ev_neI, Ms.isNon, Option.some.injEq, exists_eq_left', List.getElem?_cons_zero, List.getElem?_cons_succ, List.set_cons_zero, List.set_cons_succ, List.map_cons, List.map_nil, List.cons_append, List.nil_append, List.length_cons, List.length_nil, List.reduceReplicate, Nat.reduceAdd, Nat.reduceSub, Bool.not_true, Bool.not_false, Bool.false_eq_true, Bool.true_eq_false, if_true, if_false, decide_true, decide_false, D.int.injEq, D.bl.injEq, D.ref.injEq, exists_and_left]
    refine ⟨_, ev_mod (by decide), _, ev_lst (by show 3 ≤ 1000; decide), ?_⟩
    refine (pick_ok y3.bx (.inl rfl) (by simp) (by show 3 < _; decide)).to fun r s4 ⟨q4, y4, l4⟩ => ?_
    have hp4 := (y4.sm p (by omega) (Ne.symm bp)).trans hp3
    have p4 : p < s4.length := (List.getElem?_eq_some_iff.mp hp4).1
    have hix : ixN (ρ.map celD).length a = some a.toNat := by
      unfold ixN
      rw [if_pos a0, if_pos (by rw [List.length_map]; omega)]
    have hr : ∃ o : Option Int, r = celD o ∧ ∀ u, o = some u → 0 ≤ u ∧ u < 257 := by
      simp only [List.mem_cons, List.not_mem_nil, or_false] at q4
      rcases q4 with rfl | rfl | rfl
      · exact ⟨none, rfl, fun u h => by cases h⟩
      · exact ⟨some w, rfl, fun u h => by cases h; exact ⟨w0, w1⟩⟩
      · exact ⟨some _, rfl, fun u h => by cases h; exact ⟨Int.emod_nonneg _ (by decide), Int.emod_lt_of_pos _ (by decide)⟩⟩
    obtain ⟨o, rfl, ho⟩ := hr
    refine ⟨_, hp4, _, hix, ?_⟩
    refine ⟨_, _, _, ρ.set a.toNat o, rfl, ?_, ?_, by rw [List.length_set]; exact hl, fun u hu => ?_⟩
    · obtain ⟨g, r, e⟩ := y4.bx
      exact ⟨g, r, at_ne e (Ne.symm bp)⟩
    · rw [List.getElem?_set_self p4, List.map_set]
    · rcases List.mem_or_eq_of_mem_set hu with h | h
      · exact ok u h
      · exact ho u h.symm
theorem math : LawIs := fun ns hns => by
  have key : W (m_law [.scr ns] []) (fun a _ => a = .bl true) NoE := by
    unfold m_law
    unfold S_law N_law
    rw [W_noErr, W_fnD, WS_seq, WS_for]
    simp only [WS_next, W_B, W_f1, W_f2, W_fA, W_cons, W_pur, W_var, W_not, W_ifT, W_ifB, W_call, W_callK, W_chain, W_wk, W_sl, W_po, W_poN, W_ok, W_err, W_noErr, W_fnD, ev_plus, ev_sub, ev_iB, ev_toB, ev_not, ev_neg, ev_isN, ev_notN, ev_isB, ev_int, ev_abs, ev_max, ev_min, ev_eqI, ev_neI, Ms.isNon, Option.some.injEq, exists_eq_left', List.getElem?_cons_zero, List.getElem?_cons_succ, List.set_cons_zero, List.set_cons_succ, List.map_cons, List.map_nil, List.cons_append, List.nil_append, List.length_cons, List.length_nil, List.reduceReplicate, Nat.reduceAdd, Nat.reduceSub, Bool.not_true, Bool.not_false, Bool.false_eq_true, Bool.true_eq_false, if_true, if_false, decide_true, decide_false, D.int.injEq, D.bl.injEq, D.ref.injEq, exists_and_left, W_rg1]
    refine ⟨_, rfl, by decide, by decide, ?_⟩
    refine for_rule (fun i δ bx' => Dz ns δ) ⟨_, _, _, _, _, _, _, _, _, _, rfl⟩ ?_ ?_
    · rintro δ bx' ⟨x1, x2, x3, x4, x5, x6, x7, x8, x9, x10, rfl⟩
      rw [WS_seq, WS_ret]
      simp only [WS_next, W_B, W_f1, W_f2, W_fA, W_cons, W_pur, W_var, W_not, W_ifT, W_ifB, W_call, W_callK, W_chain, W_wk, W_sl, W_po, W_poN, W_ok, W_err, W_noErr, W_fnD, ev_plus, ev_sub, ev_iB, ev_toB, ev_not, ev_neg, ev_isN, ev_notN, ev_isB, ev_int, ev_abs, ev_max, ev_min, ev_eqI, ev_neI, Ms.isNon, Option.some.injEq, exists_eq_left', List.getElem?_cons_zero, List.getElem?_cons_succ, List.set_cons_zero, List.set_cons_succ, List.map_cons, List.map_nil, List.cons_append, List.nil_append, List.length_cons, List.length_nil, List.reduceReplicate, Nat.reduceAdd, Nat.reduceSub, Bool.not_true, Bool.not_false, Bool.false_eq_true, Bool.true_eq_false, if_true, if_false, decide_true, decide_false, D.int.injEq, D.bl.injEq, D.ref.injEq, exists_and_left]
    · rintro i d δ bx' hd ⟨x1, x2, x3, x4, x5, x6, x7, x8, x9, x10, rfl⟩
      have e := rgl_get hd
      rw [Int.zero_add] at e
      subst e
      refine ⟨_, rfl, ?_⟩
      rw [WS_seq, WS_set]
      simp only [WS_next, W_B, W_f1, W_f2, W_fA, W_cons, W_pur, W_var, W_not, W_ifT, W_ifB, W_call, W_callK, W_chain, W_wk, W_sl, W_po, W_poN, W_ok, W_err, W_noErr, W_fnD, ev_plus, ev_sub, ev_iB, ev_toB, ev_not, ev_neg, ev_isN, ev_notN, ev_isB, ev_int, ev_abs, ev_max, ev_min, ev_eqI, ev_neI, Ms.isNon, Option.some.injEq, exists_eq_left', List.getElem?_cons_zero, List.getElem?_cons_succ, List.set_cons_zero, List.set_cons_succ, List.map_cons, List.map_nil, List.cons_append, List.nil_append, List.length_cons, List.length_nil, List.reduceReplicate, Nat.reduceAdd, Nat.reduceSub, Bool.not_true, Bool.not_false, Bool.false_eq_true, Bool.true_eq_false, if_true, if_false, decide_true, decide_false, D.int.injEq, D.bl.injEq, D.ref.injEq, exists_and_left]
      refine box_ok.to fun r s0 h0 => ?_
      have h0' : ∃ b, r = .ref b ∧ Bx b s0 := by
        obtain ⟨e, g, r', e'⟩ := h0
        exact ⟨_, e, g, r', by rw [e', List.getElem?_append_right (Nat.le_refl _), Nat.sub_self]; rfl⟩
      obtain ⟨b, rfl, hb⟩ := h0'
      clear h0
      rw [WS_seq, WS_set]
      simp only [WS_next, W_B, W_f1, W_f2, W_fA, W_cons, W_pur, W_var, W_not, W_ifT, W_ifB, W_call, W_callK, W_chain, W_wk, W_sl, W_po, W_poN, W_ok, W_err, W_noErr, W_fnD, ev_plus, ev_sub, ev_iB, ev_toB, ev_not, ev_neg, ev_isN, ev_notN, ev_isB, ev_int, ev_abs, ev_max, ev_min, ev_eqI, ev_neI, Ms.isNon, Option.some.injEq, exists_eq_left', List.getElem?_cons_zero, List.getElem?_cons_succ, List.set_cons_zero, List.set_cons_succ, List.map_cons, List.map_nil, List.cons_append, List.nil_append, List.length_cons, List.length_nil, List.reduceReplicate, Nat.reduceAdd, Nat.reduceSub, Bool.not_true, Bool.not_false, Bool.false_eq_true, Bool.true_eq_false, if_true, if_false, decide_true, decide_false, D.int.injEq, D.bl.injEq, D.ref.injEq, exists_and_left]
      refine (take_ok hb (by decide) (by decide)).to fun r s1 ⟨ci, e, c0, c7, y1, l1⟩ => ?_
      subst e
      obtain ⟨c, hc⟩ : ∃ c : Nat, (c : Int) = 2 + ci := ⟨(2 + ci).toNat, by omega⟩
      simp only [ev_plus, Option.some.injEq, exists_eq_left', ← hc]
      rw [WS_seq, WS_set]
      simp only [WS_next, W_B, W_f1, W_f2, W_fA, W_cons, W_pur, W_var, W_not, W_ifT, W_ifB, W_call, W_callK, W_chain, W_wk, W_sl, W_po, W_poN, W_ok, W_err, W_noErr, W_fnD, ev_plus, ev_sub, ev_iB, ev_toB, ev_not, ev_neg, ev_isN, ev_notN, ev_isB, ev_int, ev_abs, ev_max, ev_min, ev_eqI, ev_neI, Ms.isNon, Option.some.injEq, exists_eq_left', List.getElem?_cons_zero, List.getElem?_cons_succ, List.set_cons_zero, List.set_cons_succ, List.map_cons, List.map_nil, List.cons_append, List.nil_append, List.length_cons, List.length_nil, List.reduceReplicate, Nat.reduceAdd, Nat.reduceSub, Bool.not_true, Bool.not_false, Bool.false_eq_true, Bool.true_eq_false, if_true, if_false, decide_true, decide_false, D.int.injEq, D.bl.injEq, D.ref.injEq, exists_and_left]
      have c2 : 2 ≤ c := by omega
      have c8 : c ≤ 8 := by omega
      refine (take_ok y1.bx (by omega) (by omega)).to fun r s2 ⟨ni, e, n0, n7, y2, l2⟩ => ?_
      subst e
      obtain ⟨n, hn⟩ : ∃ n : Nat, (n : Int) = 1 + ni := ⟨(1 + ni).toNat, by omega⟩
      simp only [ev_plus, Option.some.injEq, exists_eq_left', ← hn]
      rw [WS_hide]
      intro T7 hT7
      rw [WS_set, W_lc, W_lcA]
      simp only [WS_next, W_B, W_f1, W_f2, W_fA, W_cons, W_pur, W_var, W_not, W_ifT, W_ifB, W_call, W_callK, W_chain, W_wk, W_sl, W_po, W_poN, W_ok, W_err, W_noErr, W_fnD, ev_plus, ev_sub, ev_iB, ev_toB, ev_not, ev_neg, ev_isN, ev_notN, ev_isB, ev_int, ev_abs, ev_max, ev_min, ev_eqI, ev_neI, Ms.isNon, Option.some.injEq, exists_eq_left', List.getElem?_cons_zero, List.getElem?_cons_succ, List.set_cons_zero, List.set_cons_succ, List.map_cons, List.map_nil, List.cons_append, List.nil_append, List.length_cons, List.length_nil, List.reduceReplicate, Nat.reduceAdd, Nat.reduceSub, Bool.not_true, Bool.not_false, Bool.false_eq_true, Bool.true_eq_false, if_true, if_false, decide_true, decide_false, D.int.injEq, D.bl.injEq, D.ref.injEq, exists_and_left, W_rg1]
      have n1 : 1 ≤ n := by omega
      have nc : n ≤ c := by omega
      have hb2 := y2.bx
      clear hb y1 y2 l1 l2 c0 c7 n0 n7 hn hc
      refine ⟨_, rfl, by omega, by omega, ?_⟩
      have tn : ((n : Int)).toNat = n := by omega
      rw [tn, rgl_rg]
      refine ⟨by rw [List.length_map, rg_len]; omega, ?_⟩
      simp only [unset, List.foldl_cons, List.foldl_nil, List.set_cons_succ, List.set_cons_zero]
      refine (data_ok (E := NoE) hb2).to fun acc s3 h3 => ?_
      obtain ⟨data, e, hl, okd, hb3⟩ := h3
      subst e
      rw [hT7]
      clear hT7 T7
      rw [WS_hide]
      intro T8 hT8
      rw [WS_set]
      simp only [WS_next, W_B, W_f1, W_f2, W_fA, W_cons, W_pur, W_var, W_not, W_ifT, W_ifB, W_call, W_callK, W_chain, W_wk, W_sl, W_po, W_poN, W_ok, W_err, W_noErr, W_fnD, ev_plus, ev_sub, ev_iB, ev_toB, ev_not, ev_neg, ev_isN, ev_notN, ev_isB, ev_int, ev_abs, ev_max, ev_min, ev_eqI, ev_neI, Ms.isNon, Option.some.injEq, exists_eq_left', List.getElem?_cons_zero, List.getElem?_cons_succ, List.set_cons_zero, List.set_cons_succ, List.map_cons, List.map_nil, List.cons_append, List.nil_append, List.length_cons, List.length_nil, List.reduceReplicate, Nat.reduceAdd, Nat.reduceSub, Bool.not_true, Bool.not_false, Bool.false_eq_true, Bool.true_eq_false, if_true, if_false, decide_true, decide_false, D.int.injEq, D.bl.injEq, D.ref.injEq, exists_and_left]
      have hk := lawLine_ok (data := data) (c := c) (by omega) c8 s3
      rw [hl] at hk
      revert hk
      generalize m__law_line [.int (n:Int), .int (c:Int), .lst (data.map D.int)] s3 = R
      intro hk
      refine hk.h.to fun x st ⟨e1, zs, e2⟩ => ?_
      clear hk R
      subst e1 e2
      have hb4 : Bx b (s3 ++ zs) := (ext_plus (Ext.refl hb3)).bx
      revert hb4
      generalize s3 ++ zs = s4
      intro hb4
      clear hb3
      rw [hT8]
      clear hT8 T8
      rw [WS_hide]
      intro T9 hT9
      rw [WS_if, W_B, W_f2, W_fA, W_cons, W_fA, W_cons, W_call]
      simp only [WS_next, W_B, W_f1, W_f2, W_fA, W_cons, W_pur, W_var, W_not, W_ifT, W_ifB, W_call, W_callK, W_chain, W_wk, W_sl, W_po, W_poN, W_ok, W_err, W_noErr, W_fnD, ev_plus, ev_sub, ev_iB, ev_toB, ev_not, ev_neg, ev_isN, ev_notN, ev_isB, ev_int, ev_abs, ev_max, ev_min, ev_eqI, ev_neI, Ms.isNon, Option.some.injEq, exists_eq_left', List.getElem?_cons_zero, List.getElem?_cons_succ, List.set_cons_zero, List.set_cons_succ, List.map_cons, List.map_nil, List.cons_append, List.nil_append, List.length_cons, List.length_nil, List.reduceReplicate, Nat.reduceAdd, Nat.reduceSub, Bool.not_true, Bool.not_false, Bool.false_eq_true, Bool.true_eq_false, if_true, if_false, decide_true, decide_false, D.int.injEq, D.bl.injEq, D.ref.injEq, exists_and_left]
      have hk := Th.mk (coded_ok (c := c) (d := .lst (data.map D.int)) (.inl rfl) (by omega) c2 c8 (by omega) okd s4)
      rw [hl] at hk
      revert hk
      generalize m_coded [.int (c:Int), .int (n:Int), .lst (data.map D.int)] s4 = R
      intro hk
      refine hk.h.to fun x st ⟨e1, zs, e2⟩ => ?_
      clear hk R
      subst e1 e2
      refine ⟨.tup (data.map D.int), ev_tupOfL, ?_⟩
      have pk : ∀ x y z : D, Ms.pick .non [2, 1, 0] [x, y, z] = [z, y, x] := fun _ _ _ => rfl
      rw [pk]
      have hk := Th.mk (coded_ok (c := c) (d := .tup (data.map D.int)) (.inr rfl) (by omega) c2 c8 (by omega) okd (s4 ++ zs))
      rw [hl] at hk
      revert hk
      generalize m_coded [.int (c:Int), .int (n:Int), .tup (data.map D.int)] (s4 ++ zs) = R
      intro hk
      refine hk.h.to fun x st ⟨e1, zs2, e2⟩ => ?_
      clear hk R
      subst e1 e2
      refine ⟨_, ev_lst (by show 2 ≤ 1000; decide), _, (code_sh c8).repr, ?_⟩
      refine W_rep1 (v := .tup ((codeL data c).map D.int)) 2 rfl (by decide) (W.eq (by simp only [WS_next, W_B, W_f1, W_f2, W_fA, W_cons, W_pur, W_var, W_not, W_ifT, W_ifB, W_call, W_callK, W_chain, W_wk, W_sl, W_po, W_poN, W_ok, W_err, W_noErr, W_fnD, ev_plus, ev_sub, ev_iB, ev_toB, ev_not, ev_neg, ev_isN, ev_notN, ev_isB, ev_int, ev_abs, ev_max, ev_min, ev_eqI, ev_neI, Ms.isNon, Option.some.injEq, exists_eq_left', List.getElem?_cons_zero, List.getElem?_cons_succ, List.set_cons_zero, List.set_cons_succ, List.map_cons, List.map_nil, List.cons_append, List.nil_append, List.length_cons, List.length_nil, List.reduceReplicate, Nat.reduceAdd, Nat.reduceSub, Bool.not_true, Bool.not_false, Bool.false_eq_true, Bool.true_eq_false, if_true, if_false, decide_true, decide_false, D.int.injEq, D.bl.injEq, D.ref.injEq, exists_and_left]; exact ⟨_, ev_tupOfL, rfl, trivial⟩)) ?_
      refine ⟨_, (code_sh c8).repr, _, ev_neS (code_sh c8).st, _, rfl, ?_⟩
      have hb5 : Bx b (s4 ++ zs ++ zs2 ++ [Cell.lst [D.tup ((codeL data c).map D.int)]]) := (ext_plus (ext_plus (ext_plus (Ext.refl hb4)))).bx
      revert hb5
      generalize s4 ++ zs ++ zs2 ++ [Cell.lst [D.tup ((codeL data c).map D.int)]] = s5
      intro hb5
      rw [if_neg (by decide), WS_next, hT9]
      clear hT9 T9 hb4
      rw [WS_hide]
      intro T10 hT10
      rw [WS_for]
      simp only [WS_next, W_B, W_f1, W_f2, W_fA, W_cons, W_pur, W_var, W_not, W_ifT, W_ifB, W_call, W_callK, W_chain, W_wk, W_sl, W_po, W_poN, W_ok, W_err, W_noErr, W_fnD, ev_plus, ev_sub, ev_iB, ev_toB, ev_not, ev_neg, ev_isN, ev_notN, ev_isB, ev_int, ev_abs, ev_max, ev_min, ev_eqI, ev_neI, Ms.isNon, Option.some.injEq, exists_eq_left', List.getElem?_cons_zero, List.getElem?_cons_succ, List.set_cons_zero, List.set_cons_succ, List.map_cons, List.map_nil, List.cons_append, List.nil_append, List.length_cons, List.length_nil, List.reduceReplicate, Nat.reduceAdd, Nat.reduceSub, Bool.not_true, Bool.not_false, Bool.false_eq_true, Bool.true_eq_false, if_true, if_false, decide_true, decide_false, D.int.injEq, D.bl.injEq, D.ref.injEq, exists_and_left, W_rg1]
      refine ⟨_, rfl, by decide, by decide, ?_⟩
      refine for_rule (fun j δ st => Bx b st ∧ ∃ x6 x8 x9 x10, δ = Dr ns i b c n data x6 x8 x9 x10) ⟨hb5, _, _, _, _, rfl⟩ ?_ ?_
      · rintro δ st ⟨hb6, x6, x8, x9, x10, rfl⟩
        rw [hT10]
        clear hT10 T10
        unfold Dr
        rw [WS_seq, WS_if]
        simp only [WS_next, W_B, W_f1, W_f2, W_fA, W_cons, W_pur, W_var, W_not, W_ifT, W_ifB, W_call, W_callK, W_chain, W_wk, W_sl, W_po, W_poN, W_ok, W_err, W_noErr, W_fnD, ev_plus, ev_sub, ev_iB, ev_toB, ev_not, ev_neg, ev_isN, ev_notN, ev_isB, ev_int, ev_abs, ev_max, ev_min, ev_eqI, ev_neI, Ms.isNon, Option.some.injEq, exists_eq_left', List.getElem?_cons_zero, List.getElem?_cons_succ, List.set_cons_zero, List.set_cons_succ, List.map_cons, List.map_nil, List.cons_append, List.nil_append, List.length_cons, List.length_nil, List.reduceReplicate, Nat.reduceAdd, Nat.reduceSub, Bool.not_true, Bool.not_false, Bool.false_eq_true, Bool.true_eq_false, if_true, if_false, decide_true, decide_false, D.int.injEq, D.bl.injEq, D.ref.injEq, exists_and_left]
        have hk := none_ok hb6 c2 c8 n1 nc
        revert hk
        generalize m__law_none_right [.ref b, .int (c:Int), .int (n:Int)] st = R
        intro hk
        refine hk.h.to fun x st e => ?_
        clear hk R
        subst e
        refine ⟨_, rfl, ?_⟩
        rw [if_neg (by decide), WS_next]
        exact ⟨_, _, _, _, _, _, _, _, _, _, rfl⟩
      · rintro j d δ st hd ⟨hb6, x6, x8, x9, x10, rfl⟩
        unfold Dr
        refine ⟨_, rfl, ?_⟩
        rw [WS_hide]
        intro T11 hT11
        rw [WS_set, W_lcM, W_lcA]
        simp only [WS_next, W_B, W_f1, W_f2, W_fA, W_cons, W_pur, W_var, W_not, W_ifT, W_ifB, W_call, W_callK, W_chain, W_wk, W_sl, W_po, W_poN, W_ok, W_err, W_noErr, W_fnD, ev_plus, ev_sub, ev_iB, ev_toB, ev_not, ev_neg, ev_isN, ev_notN, ev_isB, ev_int, ev_abs, ev_max, ev_min, ev_eqI, ev_neI, Ms.isNon, Option.some.injEq, exists_eq_left', List.getElem?_cons_zero, List.getElem?_cons_succ, List.set_cons_zero, List.set_cons_succ, List.map_cons, List.map_nil, List.cons_append, List.nil_append, List.length_cons, List.length_nil, List.reduceReplicate, Nat.reduceAdd, Nat.reduceSub, Bool.not_true, Bool.not_false, Bool.false_eq_true, Bool.true_eq_false, if_true, if_false, decide_true, decide_false, D.int.injEq, D.bl.injEq, D.ref.injEq, exists_and_left]
        refine ⟨_, rfl, by unfold codeL; rw [List.length_map, List.length_map, rg_len]; omega, ?_⟩
        refine (rowc_ok (E := NoE) hb6 (by simp [unset]) (by simp [unset]) fun x hx => ?_).to fun acc s7 h7 => ?_
        · obtain ⟨y, _, rfl⟩ := List.mem_map.mp hx
          exact cd_rng
        obtain ⟨ρ, e, rl, rok, hb7⟩ := h7
        subst e
        have rl' : ρ.length = c := by rw [rl]; unfold codeL; rw [List.length_map, rg_len]
        rw [hT11]
        clear hT11 T11 rl
        have hb8 : Bx b (s7 ++ [Cell.lst (ρ.map celD)]) := (ext_plus (Ext.refl hb7)).bx
        have hp8 : (s7 ++ [Cell.lst (ρ.map celD)])[s7.length]? = some (.lst (ρ.map celD)) := at_end rfl
        have bp : b ≠ s7.length := by have := bx_lt hb7; omega
        revert hb8 hp8 bp
        generalize s7 ++ [Cell.lst (ρ.map celD)] = s8
        generalize s7.length = p
        intro hb8 hp8 bp
        rw [WS_hide]
        intro T12 hT12
        refine WS.imp (rowif_ok (ns := ns) (i := i) (x6 := x6) (n := n) (data := data) (x8 := some d) (x10 := x10) hb8 hp8 rl' rok c2 c8 bp) (fun δ' s9 h9 => ?_) (fun _ _ z => False.elim z) (fun _ _ _ z => False.elim z)
        obtain ⟨y6, y8, y10, ρ', e, hb9, hp9, rl9, ok9⟩ := h9
        subst e
        rw [hT12]
        clear hT12 T12 hb8 hp8 rl' rok
        unfold Dr
        rw [WS_hide]
        intro T13 hT13
        rw [WS_frz]
        refine ⟨p, ρ'.map celD, rfl, hp9, ?_⟩
        have hb10 : Bx b (s9.set p .dead) := by
          obtain ⟨g, r, e⟩ := hb9
          exact ⟨g, r, at_ne e (Ne.symm bp)⟩
        revert hb10
        generalize s9.set p .dead = s10
        intro hb10
        rw [hT13]
        clear hT13 T13
        rw [WS_seq, WS_if]
        simp only [WS_next, W_B, W_f1, W_f2, W_fA, W_cons, W_pur, W_var, W_not, W_ifT, W_ifB, W_call, W_callK, W_chain, W_wk, W_sl, W_po, W_poN, W_ok, W_err, W_noErr, W_fnD, ev_plus, ev_sub, ev_iB, ev_toB, ev_not, ev_neg, ev_isN, ev_notN, ev_isB, ev_int, ev_abs, ev_max, ev_min, ev_eqI, ev_neI, Ms.isNon, Option.some.injEq, exists_eq_left', List.getElem?_cons_zero, List.getElem?_cons_succ, List.set_cons_zero, List.set_cons_succ, List.map_cons, List.map_nil, List.cons_append, List.nil_append, List.length_cons, List.length_nil, List.reduceReplicate, Nat.reduceAdd, Nat.reduceSub, Bool.not_true, Bool.not_false, Bool.false_eq_true, Bool.true_eq_false, if_true, if_false, decide_true, decide_false, D.int.injEq, D.bl.injEq, D.ref.injEq, exists_and_left]
        have hk := row_right rl9 c2 c8 n1 nc ok9 s10
        revert hk
        generalize m__law_row_right [.int (c:Int), .int (n:Int), .lst (ρ'.map celD)] s10 = R
        intro hk
        refine hk.h.to fun x st ⟨e1, zs, e2⟩ => ?_
        clear hk R
        subst e1 e2
        have hb11 : Bx b (s10 ++ zs) := (ext_plus (Ext.refl hb10)).bx
        revert hb11
        generalize s10 ++ zs = s11
        intro hb11
        refine ⟨_, rfl, ?_⟩
        rw [if_neg (by decide)]
        simp only [WS_next, W_B, W_f1, W_f2, W_fA, W_cons, W_pur, W_var, W_not, W_ifT, W_ifB, W_call, W_callK, W_chain, W_wk, W_sl, W_po, W_poN, W_ok, W_err, W_noErr, W_fnD, ev_plus, ev_sub, ev_iB, ev_toB, ev_not, ev_neg, ev_isN, ev_notN, ev_isB, ev_int, ev_abs, ev_max, ev_min, ev_eqI, ev_neI, Ms.isNon, Option.some.injEq, exists_eq_left', List.getElem?_cons_zero, List.getElem?_cons_succ, List.set_cons_zero, List.set_cons_succ, List.map_cons, List.map_nil, List.cons_append, List.nil_append, List.length_cons, List.length_nil, List.reduceReplicate, Nat.reduceAdd, Nat.reduceSub, Bool.not_true, Bool.not_false, Bool.false_eq_true, Bool.true_eq_false, if_true, if_false, decide_true, decide_false, D.int.injEq, D.bl.injEq, D.ref.injEq, exists_and_left]
        have hk := few_ok (data := data) hb11 c2 c8 n1 nc
        revert hk
        generalize m__law_few_right [.ref b, .int (c:Int), .int (n:Int), .lst ((codeL data c).map D.int)] s11 = R
        intro hk
        refine hk.h.to fun x st ⟨e1, y⟩ => ?_
        clear hk R
        subst e1
        refine ⟨_, rfl, ?_⟩
        rw [if_neg (by decide), WS_next]
        exact ⟨y.bx, _, _, _, _, rfl⟩
  obtain ⟨a, st, e, rfl⟩ := W.ok_iff.mpr key
  exact ⟨st, e⟩
end K23

end
set_option Elab.async false
set_option maxRecDepth 100000
set_option maxHeartbeats 0
open PySem PySem.W PySem.Calls PyProof.Rows in
theorem PySem.Challenge.cw_wrecktold_k23_whole_any_that_are_enough_holds : PySem.Challenge.rw_wrecktold_k23_whole_any_that_are_enough.Holds := by
  w_on; o_law
  refine HandSHeadRun.head_any (r := OpenLaw.row PySem.Challenge.rw_wrecktold_k23_whole_any_that_are_enough) (q := view (OpenLaw.row PySem.Challenge.rw_wrecktold_k23_whole_any_that_are_enough).prog [39]) (H := K23.hk) (ob := K23.ob) (M := 12000) (loose := K23.loose) (d := HandSHeadRun.topDef (OpenLaw.row PySem.Challenge.rw_wrecktold_k23_whole_any_that_are_enough).prog 39) (kwd := []) K23.ob_eq
    (by kernel_rfl) (fun s => by kernel_rfl) K23.run (by kernel_rfl) (by kernel_rfl) (by kernel_rfl) (by rfl) (by first | assumption | decide +kernel) (by decide +kernel) ⟨rfl, rfl, rfl, rfl, rfl, by decide +kernel⟩ ?hw ?hc
  case hw => w_witness2
  case hc =>
    refine Ms.walkX (l := PySem.Challenge.rw_wrecktold_k23_whole_any_that_are_enough) (n := 63) rfl (by decide) (by kernel_rfl) ?F
    intro w mg fa h Y G hmg0
    obtain ⟨K, KX, c⟩ := Y
    have hmg : mg ("law" : PySem.Str) = some (.ref fa) := by
      have e : (HandSHeadRun.topDef (OpenLaw.row PySem.Challenge.rw_wrecktold_k23_whole_any_that_are_enough).prog 39).name = ("law" : PySem.Str) := by kernel_rfl
      rw [← e]
      exact hmg0
    exact ⟨K, KX, K23.all_mk K23.math KX G hmg c⟩

