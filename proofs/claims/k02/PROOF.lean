import PyProof.Rows.All
import Wide.All
import OpenK.AllK
import Wide.FinOn
import HandS.ForMost
import HandS.IsInst
import HandS.TupLe
import HandS.TupAny
import HandS.Text
import HandS.Ends
import HandS.Strs
import HandS.Zip
import HandS.Comp
import HandS.Style
import PyProof.Rows.IntBool
import HandS.More
import HandS.Sort
import PyProof.DictUpdate
import HandS.Dict
import KE.KStrBytes
import KE.KStrOpen
import PyProof.FitsInt
import PyProof.ReprBulk
import PySem.Challenge.RW_coeditry_k02_whats_and_deeds
set_option Elab.async false
set_option linter.all false
set_option maxRecDepth 100000
namespace DL
open PySem PySem.Spec PyProof.Rows L2

/-- a value with its tuples and frozen lists written out -/
inductive D where
  | non | bl (b : Bool) | int (i : Int) | str (x : Str) | tup (ds : List D) | lst (ds : List D) | ref (a : Addr) | oth (v : V) | scr (ns : List Int)

inductive MO where
  | lst (ds : List D)
  | dK (kvs : List (Key × D))
  | fd (cs : List Int)
abbrev Mu := Addr → Option MO
def mset (m : Mu) (a : Addr) (o : MO) : Mu := fun b => if b = a then some o else m b
theorem mset_same {m : Mu} {a : Addr} {o : MO} : mset m a o a = some o := by unfold mset; rw [if_pos rfl]
theorem mset_ne {m : Mu} {a b : Addr} {o : MO} (h : b ≠ a) : mset m a o b = m b := by unfold mset; rw [if_neg h]
def mdel (m : Mu) (a : Addr) : Mu := fun b => if b = a then none else m b
theorem mdel_same {m : Mu} {a : Addr} : mdel m a a = none := by unfold mdel; rw [if_pos rfl]
theorem mdel_ne {m : Mu} {a b : Addr} (h : b ≠ a) : mdel m a b = m b := by unfold mdel; rw [if_neg h]

/-- what is tracked and not about to change stays -/
def Ext (m : Mu) (H : Hp) (m' : Mu) (H' : Hp) : Prop := ∀ a o, m a = none → H a = some o → H' a = some o ∧ m' a = none
theorem Ext.refl (m : Mu) (H : Hp) : Ext m H m H := fun _ _ h1 h2 => ⟨h2, h1⟩
theorem Ext.trans {m m1 m2 : Mu} {H H1 H2 : Hp} (a : Ext m H m1 H1) (b : Ext m1 H1 m2 H2) : Ext m H m2 H2 := fun c o h1 h2 =>
  let ⟨x, y⟩ := a c o h1 h2
  b c o y x

/-- the written part alone -/
def KT (K : PySem.W.Frag) (a : Addr) (xs : List V) : Prop := ∃ (o : Obj) (its : Array Value) (n : Nat), K.lookup a = some o ∧ o.cls = .type "tuple" ∧ o.data = .seq its n ∧ its.size ≤ sizeLine ∧ Vals xs its.toList
def KL (K : PySem.W.Frag) (a : Addr) (xs : List V) : Prop := ∃ (o : Obj) (its : Array Value) (n : Nat), K.lookup a = some o ∧ o.cls = .type "list" ∧ o.dict = none ∧ o.data = .seq its n ∧ its.size ≤ sizeLine ∧ Vals xs its.toList
def FzT (K : PySem.W.Frag) (m : Mu) (H : Hp) (a : Addr) (xs : List V) : Prop := (m a = none ∧ H a = some (.tup xs)) ∨ KT K a xs
def FzL (m : Mu) (H : Hp) (a : Addr) (xs : List V) : Prop := m a = none ∧ H a = some (.lst xs)
def FzS (K : PySem.W.Frag) (m : Mu) (H : Hp) (a : Addr) (xs : List V) : Prop := (m a = none ∧ Rd H a (.lst xs)) ∨ KL K a xs
section
variable {K : PySem.W.Frag} {m m' : Mu} {H H' : Hp} {a : Addr} {xs : List V}
theorem FzT.seq (h : FzT K m H a xs) : SqT K H a xs := by
  rcases h with ⟨_, h⟩ | h
  · exact SqT.of h
  · exact .inr h
theorem FzL.seq (h : FzL m H a xs) : SqL K H a xs := SqL.of h.2
theorem FzS.seq (h : FzS K m H a xs) : SqL K H a xs := by
  rcases h with ⟨_, h⟩ | h
  · exact .inl h
  · exact .inr h
theorem FzT.mono (e : Ext m H m' H') (h : FzT K m H a xs) : FzT K m' H' a xs := by
  rcases h with ⟨h1, h⟩ | h
  · exact .inl (e a _ h1 h).symm
  · exact .inr h
theorem FzL.mono (e : Ext m H m' H') (h : FzL m H a xs) : FzL m' H' a xs := (e a _ h.1 h.2).symm
theorem FzS.mono (e : Ext m H m' H') (h : FzS K m H a xs) : FzS K m' H' a xs := by
  rcases h with ⟨h1, h | ⟨o, h⟩⟩ | h
  · exact .inl ⟨(e a _ h1 h).2, .inl (e a _ h1 h).1⟩
  · exact .inl ⟨(e a _ h1 h).2, .inr ⟨o, (e a _ h1 h).1⟩⟩
  · exact .inr h
end

mutual
/-- v is the value d -/
def Rp (K : PySem.W.Frag) (m : Mu) (H : Hp) : D → V → Prop
  | .non, v => v = .non
  | .bl b, v => v = .bl b
  | .int i, v => v = .int i
  | .str x, v => v = .str x
  | .tup ds, v => ∃ a xs, v = .ref a ∧ FzT K m H a xs ∧ Rps K m H ds xs
  | .lst ds, v => ∃ a xs, v = .ref a ∧ FzL m H a xs ∧ Rps K m H ds xs
  | .ref a, v => v = .ref a
  | .oth u, v => v = u
  | .scr ns, v => ∃ a, v = .ref a ∧ FzS K m H a (ns.map V.int)
def Rps (K : PySem.W.Frag) (m : Mu) (H : Hp) : List D → List V → Prop
  | [], xs => xs = []
  | d :: ds, xs => ∃ x r, xs = x :: r ∧ Rp K m H d x ∧ Rps K m H ds r
end
section
variable {K : PySem.W.Frag} {m m' : Mu} {H H' : Hp}
mutual
theorem Rp.mono (e : Ext m H m' H') : ∀ (d : D) (v : V), Rp K m H d v → Rp K m' H' d v
  | .non, _, h => h
  | .bl _, _, h => h
  | .int _, _, h => h
  | .str _, _, h => h
  | .tup ds, _, h => by
    obtain ⟨a, xs, h1, h2, h3⟩ := h
    exact ⟨a, xs, h1, h2.mono e, Rps.mono e ds xs h3⟩
  | .lst ds, _, h => by
    obtain ⟨a, xs, h1, h2, h3⟩ := h
    exact ⟨a, xs, h1, h2.mono e, Rps.mono e ds xs h3⟩
  | .ref _, _, h => h
  | .oth _, _, h => h
  | .scr _, _, h => by
    obtain ⟨a, h1, h2⟩ := h
    exact ⟨a, h1, h2.mono e⟩
theorem Rps.mono (e : Ext m H m' H') : ∀ (ds : List D) (vs : List V), Rps K m H ds vs → Rps K m' H' ds vs
  | [], _, h => h
  | d :: ds, _, h => by
    obtain ⟨x, r, h1, h2, h3⟩ := h
    exact ⟨x, r, h1, Rp.mono e d x h2, Rps.mono e ds r h3⟩
end
theorem Rps.length : ∀ {ds : List D} {vs : List V}, Rps K m H ds vs → vs.length = ds.length
  | [], _, h => by have h : _ = [] := h; rw [h]; rfl
  | d :: ds, _, h => by
    obtain ⟨x, r, rfl, _, h3⟩ := h
    rw [List.length_cons, List.length_cons, Rps.length h3]
theorem Rps.nil : Rps K m H [] [] := rfl
theorem Rps.cons {d : D} {v : V} {ds : List D} {vs : List V} (h : Rp K m H d v) (hs : Rps K m H ds vs) : Rps K m H (d :: ds) (v :: vs) := ⟨v, vs, rfl, h, hs⟩
theorem Rps.get : ∀ {ds : List D} {vs : List V} {i : Nat} {d : D}, Rps K m H ds vs → ds[i]? = some d → ∃ v, vs[i]? = some v ∧ Rp K m H d v
  | [], _, _, _, _, e => by simp at e
  | d :: ds, _, 0, d', h, e => by
    obtain ⟨x, r, rfl, h2, _⟩ := h
    simp at e; subst e
    exact ⟨x, rfl, h2⟩
  | d :: ds, _, i + 1, d', h, e => by
    obtain ⟨x, r, rfl, _, h3⟩ := h
    obtain ⟨v, e1, e2⟩ := Rps.get (i := i) h3 (by simpa using e)
    exact ⟨v, by simpa using e1, e2⟩
theorem Rps.app : ∀ {ds es : List D} {vs us : List V}, Rps K m H ds vs → Rps K m H es us → Rps K m H (ds ++ es) (vs ++ us)
  | [], _, _, _, h, g => by have h : _ = [] := h; rw [h]; exact g
  | d :: ds, _, _, _, h, g => by
    obtain ⟨x, r, rfl, h2, h3⟩ := h
    exact ⟨x, _, rfl, h2, Rps.app h3 g⟩
theorem Rps.take : ∀ {ds : List D} {vs : List V} (n : Nat), Rps K m H ds vs → Rps K m H (ds.take n) (vs.take n)
  | _, _, 0, _ => rfl
  | [], _, n + 1, h => by have h : _ = [] := h; rw [h]; rfl
  | d :: ds, _, n + 1, h => by
    obtain ⟨x, r, rfl, h2, h3⟩ := h
    exact ⟨x, _, rfl, h2, Rps.take n h3⟩
theorem Rps.drop : ∀ {ds : List D} {vs : List V} (n : Nat), Rps K m H ds vs → Rps K m H (ds.drop n) (vs.drop n)
  | _, _, 0, h => h
  | [], _, n + 1, h => by have h : _ = [] := h; rw [h]; rfl
  | d :: ds, _, n + 1, h => by
    obtain ⟨x, r, rfl, h2, h3⟩ := h
    exact Rps.drop n h3
theorem Rps.rev : ∀ {ds : List D} {vs : List V}, Rps K m H ds vs → Rps K m H ds.reverse vs.reverse
  | [], _, h => by have h : _ = [] := h; rw [h]; rfl
  | d :: ds, _, h => by
    obtain ⟨x, r, rfl, h2, h3⟩ := h
    rw [List.reverse_cons, List.reverse_cons]
    exact Rps.app (Rps.rev h3) (Rps.cons h2 Rps.nil)
end

/-- the entries of a dict -/
def Rkv (K : PySem.W.Frag) (m : Mu) (H : Hp) : List (Key × D) → List (Key × V) → Prop
  | [], ys => ys = []
  | p :: ps, ys => ∃ q r, ys = q :: r ∧ q.1 = p.1 ∧ Rp K m H p.2 q.2 ∧ Rkv K m H ps r
theorem Rkv.mono {K : PySem.W.Frag} {m m' : Mu} {H H' : Hp} (e : Ext m H m' H') : ∀ (ps : List (Key × D)) (ys : List (Key × V)), Rkv K m H ps ys → Rkv K m' H' ps ys
  | [], _, h => h
  | p :: ps, _, h => by
    obtain ⟨q, r, h1, h2, h3, h4⟩ := h
    exact ⟨q, r, h1, h2, Rp.mono e _ _ h3, Rkv.mono e ps r h4⟩

def kCells : Key := Sum.inr "cells"
def kAt : Key := Sum.inr "at"
def kLeft : Key := Sum.inr "left"
def kCount : Key := Sum.inr "count"
/-- what stands at a place that may change -/
def MOok (K : PySem.W.Frag) (m : Mu) (H : Hp) (a : Addr) : MO → Prop
  | .lst ds => ∃ xs, H a = some (.lst xs) ∧ Rps K m H ds xs
  | .dK kvs => ∃ vs, H a = some (.dK vs) ∧ Rkv K m H kvs vs
  | .fd cs => ∃ (l : Addr) (at_ left cnt : Int), H a = some (.dK [(kCells, .ref l), (kAt, .int at_), (kLeft, .int left), (kCount, .int cnt)]) ∧ m l = none ∧ H l = some (.lst (cs.map V.int)) ∧ cs.length ≤ 63 ∧ 0 ≤ at_ ∧ 0 ≤ left ∧ 0 ≤ cnt
def RS (K : PySem.W.Frag) (m : Mu) (H : Hp) : Prop := ∀ a o, m a = some o → MOok K m H a o
theorem RS.there {K : PySem.W.Frag} {m : Mu} {H : Hp} (r : RS K m H) {a : Addr} {o : MO} (h : m a = some o) : ∃ u, H a = some u ∧ Mut (some u) := by
  have q := r a o h
  cases o with
  | lst ds => obtain ⟨xs, e, _⟩ := q; exact ⟨_, e, trivial⟩
  | dK kvs => obtain ⟨xs, e, _⟩ := q; exact ⟨_, e, trivial⟩
  | fd cs => obtain ⟨_, _, _, _, e, _⟩ := q; exact ⟨_, e, trivial⟩
theorem RS.fresh {K : PySem.W.Frag} {m : Mu} {H : Hp} (r : RS K m H) {a : Addr} (h : H a = none) : m a = none := by
  cases e : m a with
  | none => rfl
  | some o =>
    obtain ⟨u, q, _⟩ := r.there e
    rw [h] at q; cases q
/-- what a place leans on stays, and its own object -/
theorem MOok.mono {K : PySem.W.Frag} {m m' : Mu} {H H' : Hp} (e : Ext m H m' H') {a : Addr} (hs : ∀ u, H a = some u → H' a = some u) : ∀ {o : MO}, MOok K m H a o → MOok K m' H' a o
  | .lst ds, h => by
    obtain ⟨xs, h1, h2⟩ := h
    exact ⟨xs, hs _ h1, Rps.mono e _ _ h2⟩
  | .dK kvs, h => by
    obtain ⟨xs, h1, h2⟩ := h
    exact ⟨xs, hs _ h1, Rkv.mono e _ _ h2⟩
  | .fd cs, h => by
    obtain ⟨l, x, y, z, h1, h2, h3, h4⟩ := h
    exact ⟨l, x, y, z, hs _ h1, (e _ _ h2 h3).2, (e _ _ h2 h3).1, h4⟩
/-- a new object that is not to change -/
theorem Ext.laid {m : Mu} {H : Hp} {p : Addr} {o : HO} (h : H p = none) : Ext m H m (upd H p o) := fun a u h1 h2 => ⟨by rw [upd_ne (ne_of_none h2 h)]; exact h2, h1⟩
theorem RS.laid {K : PySem.W.Frag} {m : Mu} {H : Hp} {p : Addr} {o : HO} (r : RS K m H) (h : H p = none) : RS K m (upd H p o) := fun a u q =>
  MOok.mono (Ext.laid h) (fun v e => by rw [upd_ne (ne_of_none e h)]; exact e) (r a u q)
/-- a new object that may change -/
theorem Ext.laidM {m : Mu} {H : Hp} {p : Addr} {o : HO} {q : MO} (h : H p = none) : Ext m H (mset m p q) (upd H p o) := fun a u h1 h2 => by
  have e := ne_of_none h2 h
  exact ⟨by rw [upd_ne e]; exact h2, by rw [mset_ne e]; exact h1⟩
theorem RS.laidM {K : PySem.W.Frag} {m : Mu} {H : Hp} {p : Addr} {o : HO} {q : MO} (r : RS K m H) (h : H p = none) (new : MOok K (mset m p q) (upd H p o) p q) : RS K (mset m p q) (upd H p o) := fun a u e => by
  by_cases hp : a = p
  · subst hp
    rw [mset_same] at e
    cases e
    exact new
  · rw [mset_ne hp] at e
    exact MOok.mono (Ext.laidM h) (fun v w => by rw [upd_ne (ne_of_none w h)]; exact w) (r a u e)
/-- one that may change is changed -/
theorem Ext.write {m : Mu} {H : Hp} {p : Addr} {o : HO} {q q' : MO} (h : m p = some q) : Ext m H (mset m p q') (upd H p o) := fun a u h1 h2 => by
  have e : a ≠ p := fun z => by rw [z, h] at h1; cases h1
  exact ⟨by rw [upd_ne e]; exact h2, by rw [mset_ne e]; exact h1⟩
theorem RS.write {K : PySem.W.Frag} {m : Mu} {H : Hp} {p : Addr} {o : HO} {q q' : MO} (r : RS K m H) (h : m p = some q) (new : MOok K (mset m p q') (upd H p o) p q') : RS K (mset m p q') (upd H p o) := fun a u e => by
  by_cases hp : a = p
  · subst hp
    rw [mset_same] at e
    cases e
    exact new
  · rw [mset_ne hp] at e
    exact MOok.mono (Ext.write h) (fun v w => by rw [upd_ne hp]; exact w) (r a u e)
/-- one that may change shall change no more -/
theorem Ext.freeze {m : Mu} {H : Hp} {p : Addr} : Ext m H (mdel m p) H := fun a u h1 h2 => ⟨h2, by
  by_cases hp : a = p
  · rw [hp, mdel_same]
  · rw [mdel_ne hp]; exact h1⟩
theorem RS.freeze {K : PySem.W.Frag} {m : Mu} {H : Hp} {p : Addr} (r : RS K m H) : RS K (mdel m p) H := fun a u e => by
  by_cases hp : a = p
  · rw [hp, mdel_same] at e; cases e
  · rw [mdel_ne hp] at e
    exact MOok.mono Ext.freeze (fun v w => w) (r a u e)

/-- the names' values -/
abbrev Ev := List (Option D)
def Sl1 (K : PySem.W.Frag) (m : Mu) (H : Hp) : Option D → Option V → Prop
  | some d, some v => Rp K m H d v
  | some _, none => False
  | none, _ => True
def Sl (K : PySem.W.Frag) (m : Mu) (H : Hp) (s : L2.St) (e : Ev) : Prop := s.length = e.length ∧ ∀ (i : Nat) (d : D), e[i]? = some (some d) → ∃ v, s[i]? = some (some v) ∧ Rp K m H d v
theorem Sl.mono {K : PySem.W.Frag} {m m' : Mu} {H H' : Hp} {s : L2.St} {e : Ev} (x : Ext m H m' H') (h : Sl K m H s e) : Sl K m' H' s e := ⟨h.1, fun i d q =>
  let ⟨v, h1, h2⟩ := h.2 i d q
  ⟨v, h1, Rp.mono x d v h2⟩⟩
theorem Sl.set {K : PySem.W.Frag} {m : Mu} {H : Hp} {s : L2.St} {e : Ev} (h : Sl K m H s e) {i : Nat} {d : D} {v : V} (r : Rp K m H d v) : Sl K m H (s.set i (some v)) (e.set i (some d)) := by
  refine ⟨by rw [List.length_set, List.length_set]; exact h.1, fun j d' q => ?_⟩
  by_cases hj : i = j
  · subst hj
    by_cases hi : i < e.length
    · rw [List.getElem?_set_self hi] at q
      cases q
      exact ⟨v, by rw [List.getElem?_set_self (by rw [h.1]; exact hi)], r⟩
    · rw [List.getElem?_eq_none (by rw [List.length_set]; omega)] at q
      cases q
  · rw [List.getElem?_set_ne hj] at q
    obtain ⟨w, h1, h2⟩ := h.2 j d' q
    exact ⟨w, by rw [List.getElem?_set_ne hj]; exact h1, h2⟩

/-! ### the judgements -/
abbrev DK := D → Mu → Prop
abbrev DTE := Ev → Mu → DK → Prop
abbrev DTT := Ev → Mu → (Bool → Mu → Prop) → Prop
abbrev DTA := Ev → Mu → (List D → Mu → Prop) → Prop
structure DEnds where
  nx : Ev → Mu → Prop
  rt : DK
  bk : Ev → Mu → Prop := fun _ _ => False
  ct : Ev → Mu → Prop := fun _ _ => False
abbrev DTS := DEnds → Ev → Mu → Prop
/-- what follows a value -/
def CoE (K : PySem.W.Frag) (m : Mu) (H : Hp) (Q : DK) (R : VK) : Prop := ∀ v H' d m', Ext m H m' H' → RS K m' H' → Rp K m' H' d v → Q d m' → R v H'
def CoT (K : PySem.W.Frag) (m : Mu) (H : Hp) (Q : Bool → Mu → Prop) (R : Bool → Hp → Prop) : Prop := ∀ b H' m', Ext m H m' H' → RS K m' H' → Q b m' → R b H'
def CoA (K : PySem.W.Frag) (m : Mu) (H : Hp) (Q : List D → Mu → Prop) (R : List V → Hp → Prop) : Prop := ∀ vs H' ds m', Ext m H m' H' → RS K m' H' → Rps K m' H' ds vs → Q ds m' → R vs H'
def CoS (K : PySem.W.Frag) (m : Mu) (H : Hp) (Q : Ev → Mu → Prop) (R : L2.St → Hp → Prop) : Prop := ∀ s' H' e' m', Ext m H m' H' → RS K m' H' → Sl K m' H' s' e' → Q e' m' → R s' H'
structure CoD (K : PySem.W.Frag) (m : Mu) (H : Hp) (D : DEnds) (E : Ends) : Prop where
  nx : CoS K m H D.nx E.nx
  rt : CoE K m H D.rt E.rt
  bk : CoS K m H D.bk E.bk
  ct : CoS K m H D.ct E.ct
def lE (K : PySem.W.Frag) (t : DTE) : TE := fun s H R => ∃ e m Q, Sl K m H s e ∧ RS K m H ∧ t e m Q ∧ CoE K m H Q R
def lT (K : PySem.W.Frag) (t : DTT) : TT := fun s H R => ∃ e m Q, Sl K m H s e ∧ RS K m H ∧ t e m Q ∧ CoT K m H Q R
def lA (K : PySem.W.Frag) (t : DTA) : TA := fun s H R => ∃ e m Q, Sl K m H s e ∧ RS K m H ∧ t e m Q ∧ CoA K m H Q R
def lS (K : PySem.W.Frag) (t : DTS) : TS := fun E s H => ∃ e m D, Sl K m H s e ∧ RS K m H ∧ t D e m ∧ CoD K m H D E
abbrev DE (X : Cx) (e : Expr) (t : DTE) : Prop := PE X e (lE X.K t)
abbrev DT (X : Cx) (e : Expr) (t : DTT) : Prop := PT X e (lT X.K t)
abbrev DW (X : Cx) (e : Expr) (t : DTT) : Prop := PW X e (lT X.K t)
abbrev DA (X : Cx) (es : List Expr) (t : DTA) : Prop := PA X es (lA X.K t)
abbrev DS (X : Cx) (st : Stmt) (t : DTS) : Prop := PS X st (lS X.K t)
abbrev DSs (X : Cx) (st : List Stmt) (t : DTS) : Prop := PSs X st (lS X.K t)
section
variable {K : PySem.W.Frag} {m m' m1 : Mu} {H H' H1 : Hp}
theorem CoE.from {Q : DK} {R : VK} (c : CoE K m H Q R) (x : Ext m H m1 H1) : CoE K m1 H1 Q R := fun v H' d m' e => c v H' d m' (x.trans e)
theorem CoT.from {Q : Bool → Mu → Prop} {R : Bool → Hp → Prop} (c : CoT K m H Q R) (x : Ext m H m1 H1) : CoT K m1 H1 Q R := fun v H' m' e => c v H' m' (x.trans e)
theorem CoA.from {Q : List D → Mu → Prop} {R : List V → Hp → Prop} (c : CoA K m H Q R) (x : Ext m H m1 H1) : CoA K m1 H1 Q R := fun v H' d m' e => c v H' d m' (x.trans e)
theorem CoS.from {Q : Ev → Mu → Prop} {R : L2.St → Hp → Prop} (c : CoS K m H Q R) (x : Ext m H m1 H1) : CoS K m1 H1 Q R := fun v H' d m' e => c v H' d m' (x.trans e)
theorem CoD.from {D : DEnds} {E : Ends} (c : CoD K m H D E) (x : Ext m H m1 H1) : CoD K m1 H1 D E := ⟨c.nx.from x, c.rt.from x, c.bk.from x, c.ct.from x⟩
end
theorem _root_.L2.PE.imp {X : Cx} {e : Expr} {t t' : TE} (h : PE X e t) (i : ∀ s H Q, t' s H Q → t s H Q) : PE X e t' := ⟨fun pins s σ H Q I q => h.run pins s σ H Q I (i _ _ _ q)⟩
theorem _root_.L2.PT.imp {X : Cx} {e : Expr} {t t' : TT} (h : PT X e t) (i : ∀ s H Q, t' s H Q → t s H Q) : PT X e t' := ⟨fun pins s σ H Q I q => h.run pins s σ H Q I (i _ _ _ q)⟩
theorem _root_.L2.PW.imp {X : Cx} {e : Expr} {t t' : TT} (h : PW X e t) (i : ∀ s H Q, t' s H Q → t s H Q) : PW X e t' := ⟨fun w pins s σ H Q I q => h.run w pins s σ H Q I (i _ _ _ q)⟩
theorem _root_.L2.PA.imp {X : Cx} {e : List Expr} {t t' : TA} (h : PA X e t) (i : ∀ s H Q, t' s H Q → t s H Q) : PA X e t' := ⟨fun w pins s σ H Q I q => h.run w pins s σ H Q I (i _ _ _ q)⟩
theorem _root_.L2.PS.imp {X : Cx} {e : Stmt} {t t' : TS} (h : PS X e t) (i : ∀ D s H, t' D s H → t D s H) : PS X e t' := ⟨fun pins s σ H D I q => h.run pins s σ H D I (i _ _ _ q)⟩
theorem _root_.L2.PSs.imp {X : Cx} {e : List Stmt} {t t' : TS} (h : PSs X e t) (i : ∀ D s H, t' D s H → t D s H) : PSs X e t' := ⟨fun pins s σ H D I q => h.run pins s σ H D I (i _ _ _ q)⟩
end DL

set_option Elab.async false
set_option linter.all false
set_option maxRecDepth 100000
namespace DL
open PySem PySem.Spec PyProof.Rows L2
section
variable {X : Cx}

/-! ### names, constants -/
def dVar (i : Nat) : DTE := fun e m Q => match e[i]? with
  | some (some d) => Q d m
  | _ => False
theorem de_v (i : Nat) {x : Str} {pos : Pos} (hN : X.N[i]? = some x := by rfl) (hv : Vis X.env.scope x := by first | exact Or.inl rfl | exact Or.inr (Or.inl rfl) | exact Or.inr (Or.inr rfl)) (hd : (x == ("__debug__" : Str)) = false := by decide)
    (hcd : (x == ("__classdict__" : Str)) = false := by decide) : DE X (.Name x pos) (dVar i) :=
  (pe_var hN hv hd hcd).imp fun s H R h => by
    obtain ⟨e, m, Q, sl, rs, t, c⟩ := h
    unfold dVar at t
    split at t
    · rename_i d q
      obtain ⟨v, h1, h2⟩ := sl.2 i d q
      exact ⟨v, h1, c v H d m (Ext.refl _ _) rs h2 t⟩
    · exact t.elim
def dC (d : D) : DTE := fun _ m Q => Q d m
theorem de_c {e : Expr} {v : V} {d : D} (h : PE X e (tC v)) (r : ∀ m H, Rp X.K m H d v) : DE X e (dC d) :=
  h.imp fun s H R h => by
    obtain ⟨e, m, Q, sl, rs, t, c⟩ := h
    exact c v H d m (Ext.refl _ _) rs (r m H) t
theorem de_int {i : Int} {j pos} : DE X (.Constant (.int i) j pos) (dC (.int i)) := de_c pe_int fun _ _ => rfl
theorem de_bl {b : Bool} {j pos} : DE X (.Constant (.bool b) j pos) (dC (.bl b)) := de_c pe_bl fun _ _ => rfl
theorem de_non {j pos} : DE X (.Constant .none j pos) (dC .non) := de_c pe_non fun _ _ => rfl
theorem de_str {x : Str} {j pos} : DE X (.Constant (.str x) j pos) (dC (.str x)) := de_c pe_str fun _ _ => rfl
theorem de_glob {x : Str} {v : V} {d : D} {u : Value} {pos : Pos} (hg : Gl X x) (hm : X.mg x = some u) (r : RelV v u) (rp : ∀ m H, Rp X.K m H d v) (hd : (x == ("__debug__" : Str)) = false := by decide) : DE X (.Name x pos) (dC d) := de_c (pe_glob hg hm r hd) rp
theorem de_ty {x : Str} {n : String} {pos : Pos} (hg : Gl X x) (hm : X.mg x = none) (hv : bootBuiltins x = some (.type n)) (hn : x ≠ "__name__" := by decide) (hd : (x == ("__debug__" : Str)) = false := by decide) : DE X (.Name x pos) (dC (.oth (.ty n))) :=
  de_c (pe_bltn hg hm hv (show RelV (.ty n) (.type n) from rfl) hn hd) fun _ _ => rfl

/-! ### two operands -/
abbrev G2 := D → D → Mu → DK → Prop
def OpI (K : PySem.W.Frag) (r : R2) (g : G2) : Prop := ∀ x y dx dy m H Q R, RS K m H → Rp K m H dx x → Rp K m H dy y → g dx dy m Q → CoE K m H Q R → r x y H R
def dOp (g : G2) (ta tb : DTE) : DTE := fun e m Q => ta e m fun x m1 => tb e m1 fun y m2 => g x y m2 Q
theorem op_imp {K : PySem.W.Frag} {r : R2} {g : G2} {ta tb : DTE} (hi : OpI K r g) : ∀ s H R, lE K (dOp g ta tb) s H R → tOp r (lE K ta) (lE K tb) s H R := by
  rintro s H R ⟨e, m, Q, sl, rs, t, c⟩
  refine ⟨e, m, _, sl, rs, t, fun v H1 d m1 x1 rs1 r1 t1 => ?_⟩
  refine ⟨e, m1, _, sl.mono x1, rs1, t1, fun u H2 d2 m2 x2 rs2 r2 t2 => ?_⟩
  exact hi _ _ _ _ m2 H2 Q R rs2 (Rp.mono x2 _ _ r1) r2 t2 ((c.from x1).from x2)
section
variable {a b : Expr} {ta tb : DTE} {r : R2} {g : G2} {pos : Pos}
theorem de_bin {op : Operator} (ho : OpR X (binaryOp op) r) (hi : OpI X.K r g) (ha : DE X a ta) (hb : DE X b tb) : DE X (.BinOp a op b pos) (dOp g ta tb) := (pe_op ho ha hb).imp (op_imp hi)
theorem de_cmp {op : CmpOp} (ho : OpR X (compareOp op) r) (hi : OpI X.K r g) (ha : DE X a ta) (hb : DE X b tb) (hm : behindInMarks op b = false) : DE X (.Compare a [op] [b] pos) (dOp g ta tb) := (pe_cmpR ho ha hb hm).imp (op_imp hi)
theorem de_ix (hr : IxR X r) (hi : OpI X.K r g) (ha : DE X a ta) (hb : DE X b tb) (hs : PlainIx b) : DE X (.Subscript a b pos) (dOp g ta tb) := (pe_ix hr ha hb hs).imp (op_imp hi)
end
def dB (t : DTE) : DTT := fun e m Q => t e m fun d m1 => match d with
  | .bl k => Q k m1
  | _ => False
theorem b_imp {K : PySem.W.Frag} {t : DTE} : ∀ s H R, lT K (dB t) s H R → lE K t s H fun x H' => ∃ k, x = .bl k ∧ R k H' := by
  rintro s H R ⟨e, m, Q, sl, rs, t, c⟩
  refine ⟨e, m, _, sl, rs, t, fun v H1 d m1 x1 rs1 r1 t1 => ?_⟩
  cases d with
  | bl k =>
    have r1 : v = .bl k := r1
    exact ⟨k, r1, c k H1 m1 x1 rs1 t1⟩
  | _ => exact False.elim t1
theorem dt_val {e : Expr} {t : DTE} (h : DE X e t) (he : ∀ whole, isTrue e X.env whole = (do let v ← whole; standAt e.pos; holding [v] (truthy v)) := by intro _; rfl) : DT X e (dB t) := (pt_val h he).imp b_imp
theorem dt_cmp {op : CmpOp} {a b : Expr} {ta tb : DTE} {r : R2} {g : G2} {pos : Pos} (ho : OpR X (compareOp op) r) (hi : OpI X.K r g) (ha : DE X a ta) (hb : DE X b tb) (hm : behindInMarks op b = false) : DT X (.Compare a [op] [b] pos) (dB (dOp g ta tb)) :=
  (pt_cmpR ho ha hb hm).imp fun s H R h => by
    obtain ⟨e, m, Q, sl, rs, t, c⟩ := b_imp s H R h
    exact op_imp hi s H _ ⟨e, m, Q, sl, rs, t, c⟩
/-- a chain of two -/
def dChain (g g' : G2) (ta tb tc : DTE) : DTE := fun e m Q => ta e m fun x m1 => tb e m1 fun y m2 => g x y m2 fun z m3 => match z with
  | .bl true => tc e m3 fun w m4 => g' y w m4 Q
  | .bl false => Q (.bl false) m3
  | _ => False
theorem chain_imp {K : PySem.W.Frag} {r r' : R2} {g g' : G2} {ta tb tc : DTE} (hi : OpI K r g) (hi' : OpI K r' g') : ∀ s H R, lE K (dChain g g' ta tb tc) s H R → tChain r r' (lE K ta) (lE K tb) (lE K tc) s H R := by
  rintro s H R ⟨e, m, Q, sl, rs, t, c⟩
  refine ⟨e, m, _, sl, rs, t, fun v H1 d m1 x1 rs1 r1 t1 => ?_⟩
  refine ⟨e, m1, _, sl.mono x1, rs1, t1, fun u H2 d2 m2 x2 rs2 r2 t2 => ?_⟩
  refine hi _ _ _ _ m2 H2 _ _ rs2 (Rp.mono x2 _ _ r1) r2 t2 fun z H3 d3 m3 x3 rs3 r3 t3 => ?_
  cases d3 with
  | bl k =>
    have r3 : z = .bl k := r3
    subst r3
    refine ⟨k, rfl, ?_⟩
    cases k with
    | true =>
      refine (show lE K tc s H3 _ from ⟨e, m3, _, ((sl.mono x1).mono x2).mono x3, rs3, t3, fun w H4 d4 m4 x4 rs4 r4 t4 => ?_⟩)
      exact hi' _ _ _ _ m4 H4 Q R rs4 (Rp.mono x4 _ _ (Rp.mono x3 _ _ r2)) r4 t4 ((((c.from x1).from x2).from x3).from x4)
    | false => exact c (.bl false) H3 (.bl false) m3 ((x1.trans x2).trans x3) rs3 rfl t3
  | _ => exact False.elim t3

section
variable {a b c : Expr} {rest : List Expr} {ta tb tc : DTE} {tA tB : DTT} {r r' : R2} {g g' : G2} {pos : Pos}
theorem de_chain {op op' : CmpOp} (ho : OpR X (compareOp op) r) (hi : OpI X.K r g) (ho' : OpR X (compareOp op') r') (hi' : OpI X.K r' g') (ha : DE X a ta) (hb : DE X b tb) (hc : DE X c tc)
    (hm : lastMarks [op, op'] [b, c] = false := by with_unfolding_all rfl) : DE X (.Compare a [op, op'] [b, c] pos) (dChain g g' ta tb tc) := (pe_chain ho ho' ha hb hc hm).imp (chain_imp hi hi')
theorem dt_chain {op op' : CmpOp} (ho : OpR X (compareOp op) r) (hi : OpI X.K r g) (ho' : OpR X (compareOp op') r') (hi' : OpI X.K r' g') (ha : DE X a ta) (hb : DE X b tb) (hc : DE X c tc)
    (hm : lastMarks [op, op'] [b, c] = false := by with_unfolding_all rfl) : DT X (.Compare a [op, op'] [b, c] pos) (dB (dChain g g' ta tb tc)) :=
  (pt_chain ho ho' ha hb hc hm).imp fun s H R h => by
    obtain ⟨e, m, Q, sl, rs, t, c⟩ := b_imp s H R h
    exact chain_imp hi hi' s H _ ⟨e, m, Q, sl, rs, t, c⟩
/-! ### and, or, not, if -/
def dAndT (t u : DTT) : DTT := fun e m Q => t e m fun k m1 => match k with
  | true => u e m1 Q
  | false => Q false m1
def dOrT (t u : DTT) : DTT := fun e m Q => t e m fun k m1 => match k with
  | true => Q true m1
  | false => u e m1 Q
def dNotT (t : DTT) : DTT := fun e m Q => t e m fun k m1 => Q (!k) m1
theorem dw_and1 (ha : DT X a tA) : DW X (.BoolOp .And [a] pos) tA := pw_and1 ha
theorem dw_or1 (ha : DT X a tA) : DW X (.BoolOp .Or [a] pos) tA := pw_or1 ha
theorem dw_and (ha : DT X a tA) (hb : DW X (.BoolOp .And (b :: rest) pos) tB) : DW X (.BoolOp .And (a :: b :: rest) pos) (dAndT tA tB) :=
  (pw_and ha hb).imp fun s H R ⟨e, m, Q, sl, rs, t, c⟩ => ⟨e, m, _, sl, rs, t, fun k H1 m1 x1 rs1 t1 => by
    cases k with
    | true => exact iteT ⟨e, m1, Q, sl.mono x1, rs1, t1, c.from x1⟩
    | false => exact iteF (c false H1 m1 x1 rs1 t1)⟩
theorem dw_or (ha : DT X a tA) (hb : DW X (.BoolOp .Or (b :: rest) pos) tB) : DW X (.BoolOp .Or (a :: b :: rest) pos) (dOrT tA tB) :=
  (pw_or ha hb).imp fun s H R ⟨e, m, Q, sl, rs, t, c⟩ => ⟨e, m, _, sl, rs, t, fun k H1 m1 x1 rs1 t1 => by
    cases k with
    | true => exact iteT (c true H1 m1 x1 rs1 t1)
    | false => exact iteF ⟨e, m1, Q, sl.mono x1, rs1, t1, c.from x1⟩⟩
theorem dt_not (ha : DT X a tA) : DT X (.UnaryOp .Not a pos) (dNotT tA) :=
  (pt_not ha).imp fun s H R ⟨e, m, Q, sl, rs, t, c⟩ => ⟨e, m, _, sl, rs, t, fun k H1 m1 x1 rs1 t1 => c (!k) H1 m1 x1 rs1 t1⟩
def dAndV (ta tb : DTE) : DTE := fun e m Q => ta e m fun d m1 => match d with
  | .bl true => tb e m1 Q
  | .bl false => Q (.bl false) m1
  | _ => False
def dOrV (ta tb : DTE) : DTE := fun e m Q => ta e m fun d m1 => match d with
  | .bl true => Q (.bl true) m1
  | .bl false => tb e m1 Q
  | _ => False
def dNotV (ta : DTE) : DTE := fun e m Q => ta e m fun d m1 => match d with
  | .bl k => Q (.bl (!k)) m1
  | _ => False
theorem de_one {op} {t : DTE} (h : DE X a t) : DE X (.BoolOp op [a] pos) t := pe_one h
theorem de_and (ha : DE X a ta) (hb : DE X (.BoolOp .And (b :: rest) pos) tb) : DE X (.BoolOp .And (a :: b :: rest) pos) (dAndV ta tb) :=
  (pe_and ha hb).imp fun s H R ⟨e, m, Q, sl, rs, t, c⟩ => ⟨e, m, _, sl, rs, t, fun v H1 d m1 x1 rs1 r1 t1 => by
    cases d with
    | bl k =>
      have r1 : v = .bl k := r1
      subst r1
      cases k with
      | true => exact ⟨true, rfl, iteT ⟨e, m1, Q, sl.mono x1, rs1, t1, c.from x1⟩⟩
      | false => exact ⟨false, rfl, iteF (c (.bl false) H1 (.bl false) m1 x1 rs1 rfl t1)⟩
    | _ => exact False.elim t1⟩
theorem de_or (ha : DE X a ta) (hb : DE X (.BoolOp .Or (b :: rest) pos) tb) : DE X (.BoolOp .Or (a :: b :: rest) pos) (dOrV ta tb) :=
  (pe_or ha hb).imp fun s H R ⟨e, m, Q, sl, rs, t, c⟩ => ⟨e, m, _, sl, rs, t, fun v H1 d m1 x1 rs1 r1 t1 => by
    cases d with
    | bl k =>
      have r1 : v = .bl k := r1
      subst r1
      cases k with
      | true => exact ⟨true, rfl, iteT (c (.bl true) H1 (.bl true) m1 x1 rs1 rfl t1)⟩
      | false => exact ⟨false, rfl, iteF ⟨e, m1, Q, sl.mono x1, rs1, t1, c.from x1⟩⟩
    | _ => exact False.elim t1⟩
theorem de_not (ha : DE X a ta) : DE X (.UnaryOp .Not a pos) (dNotV ta) :=
  (pe_not ha).imp fun s H R ⟨e, m, Q, sl, rs, t, c⟩ => ⟨e, m, _, sl, rs, t, fun v H1 d m1 x1 rs1 r1 t1 => by
    cases d with
    | bl k =>
      have r1 : v = .bl k := r1
      exact ⟨k, r1, c (.bl (!k)) H1 (.bl (!k)) m1 x1 rs1 rfl t1⟩
    | _ => exact False.elim t1⟩
def dIf (t : DTT) (ta tb : DTE) : DTE := fun e m Q => t e m fun k m1 => match k with
  | true => ta e m1 Q
  | false => tb e m1 Q
theorem de_ifE (hc : DT X c tA) (ha : DE X a ta) (hb : DE X b tb) : DE X (.IfExp c a b pos) (dIf tA ta tb) :=
  (pe_ifExp hc ha hb).imp fun s H R ⟨e, m, Q, sl, rs, t, c⟩ => ⟨e, m, _, sl, rs, t, fun k H1 m1 x1 rs1 t1 => by
    cases k with
    | true => exact iteT ⟨e, m1, Q, sl.mono x1, rs1, t1, c.from x1⟩
    | false => exact iteF ⟨e, m1, Q, sl.mono x1, rs1, t1, c.from x1⟩⟩
/-- -a -/
def dNeg (ta : DTE) : DTE := fun e m Q => ta e m fun d m1 => match d with
  | .int i => Q (.int (-i)) m1
  | _ => False
theorem de_neg (ha : DE X a ta) : DE X (.UnaryOp .USub a pos) (dNeg ta) :=
  (pe_un un_neg ha).imp fun s H R ⟨e, m, Q, sl, rs, t, c⟩ => ⟨e, m, _, sl, rs, t, fun v H1 d m1 x1 rs1 r1 t1 => by
    cases d with
    | int k =>
      have r1 : v = .int k := r1
      exact ⟨k, r1, c (.int (-k)) H1 (.int (-k)) m1 x1 rs1 rfl t1⟩
    | _ => exact False.elim t1⟩
/-! ### lists of arguments, displays -/
def dNil : DTA := fun _ m Q => Q [] m
def dCons (ta : DTE) (tr : DTA) : DTA := fun e m Q => ta e m fun d m1 => tr e m1 fun ds m2 => Q (d :: ds) m2
variable {es : List Expr} {tas : DTA}
theorem da_nil : DA X [] dNil := pa_nil.imp fun s H R ⟨e, m, Q, sl, rs, t, c⟩ => c [] H [] m (Ext.refl _ _) rs rfl t
theorem da_cons (ha : DE X a ta) (hr : DA X es tas) (hs : starEach (a :: es) X.env = (false, eval a X.env) :: starEach es X.env := by rfl) : DA X (a :: es) (dCons ta tas) :=
  (pa_cons ha hr hs).imp fun s H R ⟨e, m, Q, sl, rs, t, c⟩ => ⟨e, m, _, sl, rs, t, fun v H1 d m1 x1 rs1 r1 t1 =>
    ⟨e, m1, _, sl.mono x1, rs1, t1, fun vs H2 ds m2 x2 rs2 r2 t2 => c (v :: vs) H2 (d :: ds) m2 (x1.trans x2) rs2 (Rps.cons (Rp.mono x2 _ _ r1) r2) t2⟩⟩
def dTup (t : DTA) : DTE := fun e m Q => t e m fun ds m1 => ds.length ≤ sizeLine ∧ Q (.tup ds) m1
def dLst (t : DTA) : DTE := fun e m Q => t e m fun ds m1 => ds.length ≤ sizeLine ∧ Q (.lst ds) m1
/-- a list that shall change -/
def dLstM (t : DTA) : DTE := fun e m Q => t e m fun ds m1 => ds.length ≤ sizeLine ∧ ∀ p, m1 p = none → Q (.ref p) (mset m1 p (.lst ds))
theorem laidT {K : PySem.W.Frag} {m : Mu} {H : Hp} {p : Addr} {ds : List D} {xs : List V} {Q : DK} {R : VK} (h : H p = none) (rs : RS K m H) (r : Rps K m H ds xs) (q : Q (.tup ds) m) (c : CoE K m H Q R) : R (.ref p) (upd H p (.tup xs)) :=
  c (.ref p) _ (.tup ds) m (Ext.laid h) (rs.laid h) ⟨p, xs, rfl, .inl ⟨rs.fresh h, upd_same⟩, Rps.mono (Ext.laid h) _ _ r⟩ q
theorem laidL {K : PySem.W.Frag} {m : Mu} {H : Hp} {p : Addr} {ds : List D} {xs : List V} {Q : DK} {R : VK} (h : H p = none) (rs : RS K m H) (r : Rps K m H ds xs) (q : Q (.lst ds) m) (c : CoE K m H Q R) : R (.ref p) (upd H p (.lst xs)) :=
  c (.ref p) _ (.lst ds) m (Ext.laid h) (rs.laid h) ⟨p, xs, rfl, ⟨rs.fresh h, upd_same⟩, Rps.mono (Ext.laid h) _ _ r⟩ q
theorem laidM {K : PySem.W.Frag} {m : Mu} {H : Hp} {p : Addr} {ds : List D} {xs : List V} {Q : DK} {R : VK} (h : H p = none) (rs : RS K m H) (r : Rps K m H ds xs) (q : Q (.ref p) (mset m p (.lst ds))) (c : CoE K m H Q R) : R (.ref p) (upd H p (.lst xs)) :=
  c (.ref p) _ (.ref p) _ (Ext.laidM h) (rs.laidM (q := .lst ds) h ⟨xs, upd_same, Rps.mono (Ext.laidM h) _ _ r⟩) rfl q
theorem de_tup {x1} (h : DA X es tas) : DE X (.Tuple es x1 pos) (dTup tas) :=
  (pe_tup h).imp fun s H R ⟨e, m, Q, sl, rs, t, c⟩ => ⟨e, m, _, sl, rs, t, fun vs H1 ds m1 x1 rs1 r1 ⟨z, t1⟩ => ⟨by rw [Rps.length r1]; exact z, fun p hp => laidT hp rs1 r1 t1 (c.from x1)⟩⟩
theorem de_lst (h : DA X es tas) : DE X (.List es pos) (dLst tas) :=
  (pe_lst h).imp fun s H R ⟨e, m, Q, sl, rs, t, c⟩ => ⟨e, m, _, sl, rs, t, fun vs H1 ds m1 x1 rs1 r1 ⟨z, t1⟩ => ⟨by rw [Rps.length r1]; exact z, fun p hp => laidL hp rs1 r1 t1 (c.from x1)⟩⟩
theorem de_lstM (h : DA X es tas) : DE X (.List es pos) (dLstM tas) :=
  (pe_lst h).imp fun s H R ⟨e, m, Q, sl, rs, t, c⟩ => ⟨e, m, _, sl, rs, t, fun vs H1 ds m1 x1 rs1 r1 ⟨z, t1⟩ => ⟨by rw [Rps.length r1]; exact z, fun p hp => laidM hp rs1 r1 (t1 p (rs1.fresh hp)) (c.from x1)⟩⟩
end
end
end DL

set_option Elab.async false
set_option linter.all false
set_option maxRecDepth 100000
namespace DL
open PySem PySem.Spec PyProof.Rows L2

/-! ### the value as plain data -/
mutual
def D.py : D → PyData
  | .non => .none
  | .bl b => .bool b
  | .int i => .int i
  | .str x => .str x
  | .tup ds => .tuple (pys ds)
  | .lst ds => .list (pys ds)
  | .ref _ => .none
  | .oth _ => .none
  | .scr _ => .none
def pys : List D → List PyData
  | [] => []
  | d :: ds => d.py :: pys ds
end
mutual
/-- plain: no place, nothing else within -/
def D.pu : D → Bool
  | .non => true
  | .bl _ => true
  | .int _ => true
  | .str _ => true
  | .tup ds => pus ds
  | .lst ds => pus ds
  | .ref _ => false
  | .oth _ => false
  | .scr _ => false
def pus : List D → Bool
  | [] => true
  | d :: ds => d.pu && pus ds
end
theorem pys_length : ∀ ds : List D, (pys ds).length = ds.length
  | [] => rfl
  | d :: ds => by show (pys ds).length + 1 = ds.length + 1; rw [pys_length ds]
section
variable {K : PySem.W.Frag} {m : Mu} {H : Hp}
mutual
theorem Rp.dp : ∀ (d : D) (v : V), d.pu = true → Rp K m H d v → Dp K H v d.py
  | .non, _, _, h => by have h : _ = V.non := h; subst h; exact .non
  | .bl b, _, _, h => by have h : _ = V.bl b := h; subst h; exact .bl b
  | .int i, _, _, h => by have h : _ = V.int i := h; subst h; exact .int i
  | .str x, _, _, h => by have h : _ = V.str x := h; subst h; exact .str x
  | .tup ds, _, p, h => by
    obtain ⟨a, xs, rfl, h2, h3⟩ := h
    exact .tup h2.seq (Rps.dp ds xs p h3)
  | .lst ds, _, p, h => by
    obtain ⟨a, xs, rfl, h2, h3⟩ := h
    exact .lst h2.seq (Rps.dp ds xs p h3)
  | .ref _, _, p, _ => by cases p
  | .oth _, _, p, _ => by cases p
  | .scr _, _, p, _ => by cases p
theorem Rps.dp : ∀ (ds : List D) (vs : List V), pus ds = true → Rps K m H ds vs → DpAll K H vs (pys ds)
  | [], _, _, h => by have h : _ = [] := h; subst h; exact .nil
  | d :: ds, _, p, h => by
    obtain ⟨x, r, rfl, h2, h3⟩ := h
    have p' : (d.pu && pus ds) = true := p
    have p2 := Bool.and_eq_true_iff.mp p'
    exact .cons (Rp.dp d x p2.1 h2) (Rps.dp ds r p2.2 h3)
end
end

/-! ### order -/
mutual
def ltP : PyData → PyData → Option Bool
  | .int i, .int j => some (decide (i < j))
  | .str x, .str y => some (decide (x.cps.toList < y.cps.toList))
  | .tuple xs, .tuple ys => ltPs xs ys
  | _, _ => none
def ltPs : List PyData → List PyData → Option Bool
  | [], [] => some false
  | [], _ :: _ => some true
  | _ :: _, [] => some false
  | x :: xs, y :: ys => match PyData.eqv x y, ltPs xs ys, ltP x y with
    | true, r, _ => r
    | false, some _, some b => some b
    | false, _, _ => none
end
mutual
def leP : PyData → PyData → Option Bool
  | .int i, .int j => some (decide (i ≤ j))
  | .str x, .str y => some (!decide (y.cps.toList < x.cps.toList))
  | .tuple xs, .tuple ys => lePs xs ys
  | _, _ => none
def lePs : List PyData → List PyData → Option Bool
  | [], [] => some true
  | [], _ :: _ => some true
  | _ :: _, [] => some false
  | x :: xs, y :: ys => match PyData.eqv x y, lePs xs ys, leP x y with
    | true, r, _ => r
    | false, some _, some b => some b
    | false, _, _ => none
end
section
variable {f : PyData → PyData → Option Bool} {fs : List PyData → List PyData → Option Bool} {z : Nat → Nat → Bool}
/-- what the library's order by places says, in the words of the lists -/
theorem lex_of (e0 : ∀ ys, fs [] ys = some (z 0 ys.length)) (e1 : ∀ x xs, fs (x :: xs) [] = some (z (xs.length + 1) 0)) (hz : ∀ a b, z (a + 1) (b + 1) = z a b)
    (es : ∀ x xs y ys, fs (x :: xs) (y :: ys) = match PyData.eqv x y, fs xs ys, f x y with
      | true, r, _ => r
      | false, some _, some b => some b
      | false, _, _ => none) : ∀ (xs ys : List PyData) (b : Bool), fs xs ys = some b →
    (∀ (j : Nat) (x y : PyData), xs[j]? = some x → ys[j]? = some y → PyData.eqv x y = false → ∃ c, f x y = some c) ∧
    ∀ (e r : Nat → Bool) (i : Nat), (∀ (j : Nat) (x y : PyData), xs[j]? = some x → ys[j]? = some y → e (i + j) = PyData.eqv x y ∧ (PyData.eqv x y = false → f x y = some (r (i + j)))) → Ob.lexAt e r (z xs.length ys.length) i (min xs.length ys.length) = b
  | [], ys, b, h => by
    refine ⟨fun j x y h1 => by simp at h1, fun e r i _ => ?_⟩
    rw [e0] at h
    simp only [List.length_nil, Nat.zero_min]
    exact Option.some.inj h
  | x :: xs, [], b, h => by
    refine ⟨fun j x y _ h1 => by simp at h1, fun e r i _ => ?_⟩
    rw [e1] at h
    simp only [List.length_nil, Nat.min_zero]
    exact Option.some.inj h
  | x :: xs, y :: ys, b, h => by
    rw [es] at h
    have main : ∀ c, fs xs ys = some c → (PyData.eqv x y = true → c = b) → (PyData.eqv x y = false → f x y = some b) → _ := fun c hc h1 h2 => by
      obtain ⟨p, q⟩ := lex_of e0 e1 hz es xs ys c hc
      refine (⟨fun j x' y' g1 g2 g3 => ?_, fun e r i g => ?_⟩ : (∀ (j : Nat) (x' y' : PyData), (x :: xs)[j]? = some x' → (y :: ys)[j]? = some y' → PyData.eqv x' y' = false → ∃ c, f x' y' = some c) ∧
        ∀ (e r : Nat → Bool) (i : Nat), (∀ (j : Nat) (x' y' : PyData), (x :: xs)[j]? = some x' → (y :: ys)[j]? = some y' → e (i + j) = PyData.eqv x' y' ∧ (PyData.eqv x' y' = false → f x' y' = some (r (i + j)))) → Ob.lexAt e r (z (x :: xs).length (y :: ys).length) i (min (x :: xs).length (y :: ys).length) = b)
      · cases j with
        | zero => simp at g1 g2; subst g1; subst g2; exact ⟨b, h2 g3⟩
        | succ j => exact p j x' y' (by simpa using g1) (by simpa using g2) g3
      · have g0 := g 0 x y rfl rfl
        have el : min (x :: xs).length (y :: ys).length = min xs.length ys.length + 1 := by simp only [List.length_cons]; omega
        rw [el, Ob.lexAt_succ, List.length_cons, List.length_cons, hz]
        rw [Nat.add_zero] at g0
        cases hv : PyData.eqv x y with
        | true =>
          rw [g0.1, hv, if_pos rfl, q e r (i + 1) fun j x' y' k1 k2 => by
            have := g (j + 1) x' y' (by simpa using k1) (by simpa using k2)
            rw [show i + 1 + j = i + (j + 1) by omega]
            exact this]
          exact h1 hv
        | false =>
          rw [g0.1, hv, if_neg Bool.false_ne_true]
          have := (g0.2 hv).symm.trans (h2 hv)
          exact Option.some.inj this
    cases hv : PyData.eqv x y with
    | true =>
      rw [hv] at h
      exact main b h (fun _ => rfl) fun k => by cases (hv.symm.trans k)
    | false =>
      rw [hv] at h
      cases hc : fs xs ys with
      | none => rw [hc] at h; cases hf : f x y <;> rw [hf] at h <;> cases h
      | some c =>
        rw [hc] at h
        cases hf : f x y with
        | none => rw [hf] at h; cases h
        | some b' => rw [hf] at h; exact main c hc (fun k => by cases (hv.symm.trans k)) fun _ => hf.trans h
end
theorem readsAll_at {h : Heap} : ∀ {vs : List Value} {xs : List PyData} {as : List Addr} {j : Nat} {v : Value}, ReadsAll h vs xs as → vs[j]? = some v → ∃ d bs, xs[j]? = some d ∧ Reads h v d bs
  | [], _, _, _, _, _, e => by simp at e
  | u :: vs, _, _, 0, v, r, e => by
    cases r with
    | cons r1 r2 => simp at e; subst e; exact ⟨_, _, rfl, r1⟩
  | u :: vs, _, _, j + 1, v, r, e => by
    cases r with
    | cons r1 r2 =>
      obtain ⟨d, bs, h1, h2⟩ := readsAll_at (j := j) r2 (by simpa using e)
      exact ⟨d, bs, by simpa using h1, h2⟩
theorem readsAll_len {h : Heap} : ∀ {vs : List Value} {xs : List PyData} {as : List Addr}, ReadsAll h vs xs as → vs.length = xs.length
  | [], _, _, r => by cases r; rfl
  | u :: vs, _, _, r => by
    cases r with
    | cons r1 r2 => rw [List.length_cons, List.length_cons, readsAll_len r2]
theorem canLay_at : ∀ {xs : List PyData} {j : Nat} {d : PyData}, PyData.canLayAll0 xs = true → xs[j]? = some d → d.canLay0 = true
  | [], _, _, _, e => by simp at e
  | x :: xs, 0, d, h, e => by
    have h' : (x.canLay0 && PyData.canLayAll0 xs) = true := by simpa [PyData.canLayAll0] using h
    simp at e; subst e
    exact (Bool.and_eq_true_iff.mp h').1
  | x :: xs, j + 1, d, h, e => by
    have h' : (x.canLay0 && PyData.canLayAll0 xs) = true := by simpa [PyData.canLayAll0] using h
    exact canLay_at (j := j) (Bool.and_eq_true_iff.mp h').2 (by simpa using e)
theorem depth_at : ∀ {xs : List PyData} {j : Nat} {d : PyData}, xs[j]? = some d → d.depth ≤ PyData.depthAll xs
  | [], _, _, e => by simp at e
  | x :: xs, 0, d, e => by
    simp at e; subst e
    simp only [PyData.depthAll]; omega
  | x :: xs, j + 1, d, e => by
    have := depth_at (xs := xs) (j := j) (by simpa using e)
    simp only [PyData.depthAll]; omega
theorem in1_units (A : Around) : A.in1.units = A.units + 1 := rfl
theorem RcOp.lt_str {A : Around} {s : Shared} (a b : Str) (t u : Tok) : Ob.RcOp .Lt A s (.str a t) (.str b u) (decide (a.cps.toList < b.cps.toList)) := fun _ _ _ _ h => PyProof.Rows.lt_str h
theorem RcOp.le_str {A : Around} {s : Shared} (a b : Str) (t u : Tok) : Ob.RcOp .LtE A s (.str a t) (.str b u) (!decide (b.cps.toList < a.cps.toList)) := fun _ _ _ _ h => PySem.P.le_str h
/-- < of data -/
theorem lt_reads : ∀ (n : Nat) (d e : PyData) (A : Around) (s : Shared) (u v : Value) (as bs : List Addr) (b : Bool), d.depth ≤ n → e.depth ≤ n → Reads s.heap u d as → Reads s.heap v e bs → d.canLay0 = true → e.canLay0 = true → A.units + (n + 1) < cLine → ltP d e = some b →
    Ob.RcOp .Lt A s u v b := by
  intro n
  induction n with
  | zero =>
    intro d e A s u v as bs b hd he r1 r2 c1 c2 hu h
    cases d <;> cases e <;> simp only [ltP] at h <;> try (cases h)
    · cases r1; cases r2; exact Ob.RcOp.lt_int _ _ _ _
    · cases r1; cases r2; exact RcOp.lt_str _ _ _ _
    · simp only [PyData.depth] at hd; omega
  | succ n ih =>
    intro d e A s u v as bs b hd he r1 r2 c1 c2 hu h
    cases d <;> cases e <;> simp only [ltP] at h <;> try (cases h)
    · cases r1; cases r2; exact Ob.RcOp.lt_int _ _ _ _
    · cases r1; cases r2; exact RcOp.lt_str _ _ _ _
    · rename_i xs ys
      simp only [PyData.depth] at hd he
      have c1' : PyData.canLayAll0 xs = true := by simpa [PyData.canLay0] using c1
      have c2' : PyData.canLayAll0 ys = true := by simpa [PyData.canLay0] using c2
      cases r1 with
      | @tuple l o vs k _ as' a1 a2 a3 a4 =>
        cases r2 with
        | @tuple l2 o2 vs2 k2 _ as2' b1 b2 b3 b4 =>
          have n1 := readsAll_len a4
          have n2 := readsAll_len b4
          simp only [Array.length_toList] at n1 n2
          obtain ⟨p, q⟩ := lex_of (f := ltP) (fs := ltPs) (z := fun a b => decide (a < b)) (fun ys => by cases ys <;> simp [ltPs]) (fun x xs => by simp [ltPs]) (fun a b => by simp) (fun x xs y ys => by simp only [ltPs]) xs ys b h
          have E : ∀ j (h1 : j < vs.size) (h2 : j < vs2.size), ∃ x y xa ya, xs[j]? = some x ∧ ys[j]? = some y ∧ Reads s.heap vs[j] x xa ∧ Reads s.heap vs2[j] y ya := fun j h1 h2 => by
            obtain ⟨x, xa, e1, e2⟩ := readsAll_at (j := j) (v := vs[j]) a4 (by simp [h1])
            obtain ⟨y, ya, e3, e4⟩ := readsAll_at (j := j) (v := vs2[j]) b4 (by simp [h2])
            exact ⟨x, y, xa, ya, e1, e3, e2, e4⟩
          have key := Ob.RcOp.tuples_lt (A := A) (s := s) (l := l) (b := l2) (items := vs) (items2 := vs2) (e := fun j => PyData.eqv (xs.getD j .none) (ys.getD j .none)) (r := fun j => (ltP (xs.getD j .none) (ys.getD j .none)).getD false) ⟨o, a1, a2, k, a3⟩ ⟨o2, b1, b2, k2, b3⟩ (by omega)
            (fun j h1 h2 => by
              obtain ⟨x, y, xa, ya, e1, e2, e3, e4⟩ := E j h1 h2
              rw [List.getD_eq_getElem?_getD, List.getD_eq_getElem?_getD, e1, e2]
              have d1 := depth_at e1
              exact SeqAt.eqAt_reads x y A.in1 s _ _ xa ya e3 e4 (canLay_at c1' e1) (canLay_at c2' e2) (by rw [in1_units]; have : min x.depth y.depth ≤ x.depth := Nat.min_le_left _ _; omega))
            (fun j h1 h2 hj => by
              obtain ⟨x, y, xa, ya, e1, e2, e3, e4⟩ := E j h1 h2
              rw [List.getD_eq_getElem?_getD, List.getD_eq_getElem?_getD, e1, e2] at hj ⊢
              obtain ⟨c, hc⟩ := p j x y e1 e2 hj
              have d1 := depth_at e1
              have d2 := depth_at e2
              show Ob.RcOp .Lt A.in1 s _ _ ((ltP x y).getD false)
              rw [hc]
              exact ih x y A.in1 s _ _ xa ya c (by omega) (by omega) e3 e4 (canLay_at c1' e1) (canLay_at c2' e2) (by rw [in1_units]; omega) hc)
          rw [n1, n2] at key
          rw [q _ _ 0 fun j x y e1 e2 => by
            rw [Nat.zero_add, List.getD_eq_getElem?_getD, List.getD_eq_getElem?_getD, e1, e2]
            refine ⟨rfl, fun hj => ?_⟩
            obtain ⟨c, hc⟩ := p j x y e1 e2 hj
            show ltP x y = some ((ltP x y).getD false)
            rw [hc]; rfl] at key
          exact key
/-- <= of data -/
theorem le_reads : ∀ (n : Nat) (d e : PyData) (A : Around) (s : Shared) (u v : Value) (as bs : List Addr) (b : Bool), d.depth ≤ n → e.depth ≤ n → Reads s.heap u d as → Reads s.heap v e bs → d.canLay0 = true → e.canLay0 = true → A.units + (n + 1) < cLine → leP d e = some b →
    Ob.RcOp .LtE A s u v b := by
  intro n
  induction n with
  | zero =>
    intro d e A s u v as bs b hd he r1 r2 c1 c2 hu h
    cases d <;> cases e <;> simp only [leP] at h <;> try (cases h)
    · cases r1; cases r2; exact Ob.RcOp.le_int _ _ _ _
    · cases r1; cases r2; exact RcOp.le_str _ _ _ _
    · simp only [PyData.depth] at hd; omega
  | succ n ih =>
    intro d e A s u v as bs b hd he r1 r2 c1 c2 hu h
    cases d <;> cases e <;> simp only [leP] at h <;> try (cases h)
    · cases r1; cases r2; exact Ob.RcOp.le_int _ _ _ _
    · cases r1; cases r2; exact RcOp.le_str _ _ _ _
    · rename_i xs ys
      simp only [PyData.depth] at hd he
      have c1' : PyData.canLayAll0 xs = true := by simpa [PyData.canLay0] using c1
      have c2' : PyData.canLayAll0 ys = true := by simpa [PyData.canLay0] using c2
      cases r1 with
      | @tuple l o vs k _ as' a1 a2 a3 a4 =>
        cases r2 with
        | @tuple l2 o2 vs2 k2 _ as2' b1 b2 b3 b4 =>
          have n1 := readsAll_len a4
          have n2 := readsAll_len b4
          simp only [Array.length_toList] at n1 n2
          obtain ⟨p, q⟩ := lex_of (f := leP) (fs := lePs) (z := fun a b => decide (a ≤ b)) (fun ys => by cases ys <;> simp [lePs]) (fun x xs => by simp [lePs]) (fun a b => by simp) (fun x xs y ys => by simp only [lePs]) xs ys b h
          have E : ∀ j (h1 : j < vs.size) (h2 : j < vs2.size), ∃ x y xa ya, xs[j]? = some x ∧ ys[j]? = some y ∧ Reads s.heap vs[j] x xa ∧ Reads s.heap vs2[j] y ya := fun j h1 h2 => by
            obtain ⟨x, xa, e1, e2⟩ := readsAll_at (j := j) (v := vs[j]) a4 (by simp [h1])
            obtain ⟨y, ya, e3, e4⟩ := readsAll_at (j := j) (v := vs2[j]) b4 (by simp [h2])
            exact ⟨x, y, xa, ya, e1, e3, e2, e4⟩
          have key := Ob.RcOp.tuples_le (A := A) (s := s) (l := l) (b := l2) (items := vs) (items2 := vs2) (e := fun j => PyData.eqv (xs.getD j .none) (ys.getD j .none)) (r := fun j => (leP (xs.getD j .none) (ys.getD j .none)).getD false) ⟨o, a1, a2, k, a3⟩ ⟨o2, b1, b2, k2, b3⟩ (by omega)
            (fun j h1 h2 => by
              obtain ⟨x, y, xa, ya, e1, e2, e3, e4⟩ := E j h1 h2
              rw [List.getD_eq_getElem?_getD, List.getD_eq_getElem?_getD, e1, e2]
              have d1 := depth_at e1
              exact SeqAt.eqAt_reads x y A.in1 s _ _ xa ya e3 e4 (canLay_at c1' e1) (canLay_at c2' e2) (by rw [in1_units]; have : min x.depth y.depth ≤ x.depth := Nat.min_le_left _ _; omega))
            (fun j h1 h2 hj => by
              obtain ⟨x, y, xa, ya, e1, e2, e3, e4⟩ := E j h1 h2
              rw [List.getD_eq_getElem?_getD, List.getD_eq_getElem?_getD, e1, e2] at hj ⊢
              obtain ⟨c, hc⟩ := p j x y e1 e2 hj
              have d1 := depth_at e1
              have d2 := depth_at e2
              show Ob.RcOp .LtE A.in1 s _ _ ((leP x y).getD false)
              rw [hc]
              exact ih x y A.in1 s _ _ xa ya c (by omega) (by omega) e3 e4 (canLay_at c1' e1) (canLay_at c2' e2) (by rw [in1_units]; omega) hc)
          rw [n1, n2] at key
          rw [q _ _ 0 fun j x y e1 e2 => by
            rw [Nat.zero_add, List.getD_eq_getElem?_getD, List.getD_eq_getElem?_getD, e1, e2]
            refine ⟨rfl, fun hj => ?_⟩
            obtain ⟨c, hc⟩ := p j x y e1 e2 hj
            show leP x y = some ((leP x y).getD false)
            rw [hc]; rfl] at key
          exact key
end DL

set_option Elab.async false
set_option linter.all false
set_option maxRecDepth 100000
namespace DL
open PySem PySem.Spec PyProof.Rows L2

/-! ### what a value is seen as -/
def lv (m : Mu) : D → Option (List D)
  | .lst ds => some ds
  | .ref a => match m a with
    | some (.lst ds) => some ds
    | _ => none
  | _ => none
section
variable {K : PySem.W.Frag} {m : Mu} {H : Hp} {d : D} {v : V} {ds : List D}
theorem lv_ref {a : Addr} (h : lv m (.ref a) = some ds) : m a = some (.lst ds) := by
  simp only [lv] at h
  split at h
  · cases h; assumption
  · cases h
theorem lv_at (rs : RS K m H) (r : Rp K m H d v) (h : lv m d = some ds) : ∃ a xs, v = .ref a ∧ H a = some (.lst xs) ∧ Rps K m H ds xs := by
  cases d with
  | lst es =>
    obtain ⟨a, xs, h1, h2, h3⟩ := r
    cases h
    exact ⟨a, xs, h1, h2.2, h3⟩
  | ref a =>
    obtain ⟨xs, h1, h2⟩ := rs a _ (lv_ref h)
    exact ⟨a, xs, r, h1, h2⟩
  | _ => cases h
theorem Rp_tup (r : Rp K m H (.tup ds) v) : ∃ a xs, v = .ref a ∧ SqT K H a xs ∧ Rps K m H ds xs := by
  obtain ⟨a, xs, h1, h2, h3⟩ := r
  exact ⟨a, xs, h1, h2.seq, h3⟩
end

/-! ### operators -/
section
variable {X : Cx} {K : PySem.W.Frag}
/-- ints -/
def gI (C : Int → Int → Prop) (f : Int → Int → D) : G2 := fun x y m Q => match x, y with
  | .int i, .int j => C i j ∧ Q (f i j) m
  | _, _ => False
def gI0 (f : Int → Int → D) : G2 := fun x y m Q => match x, y with
  | .int i, .int j => Q (f i j) m
  | _, _ => False
theorem i_int {C : Int → Int → Prop} {f : Int → Int → Int} : OpI K (rI C fun i j => .int (f i j)) (gI C fun i j => .int (f i j)) := fun x y dx dy m H Q R rs rx ry q c => by
  cases dx <;> try exact q.elim
  cases dy <;> try exact q.elim
  exact ⟨_, _, rx, ry, q.1, c (.int _) H (.int _) m (Ext.refl _ _) rs rfl q.2⟩
theorem i_int0 {f : Int → Int → Int} : OpI K (rI0 fun i j => .int (f i j)) (gI0 fun i j => .int (f i j)) := fun x y dx dy m H Q R rs rx ry q c => by
  cases dx <;> try exact q.elim
  cases dy <;> try exact q.elim
  exact ⟨_, _, rx, ry, c (.int _) H (.int _) m (Ext.refl _ _) rs rfl q⟩
theorem i_bl0 {f : Int → Int → Bool} : OpI K (rI0 fun i j => .bl (f i j)) (gI0 fun i j => .bl (f i j)) := fun x y dx dy m H Q R rs rx ry q c => by
  cases dx <;> try exact q.elim
  cases dy <;> try exact q.elim
  exact ⟨_, _, rx, ry, c (.bl _) H (.bl _) m (Ext.refl _ _) rs rfl q⟩
theorem i_sub : OpI K (rI0 fun i j => .int (i - j)) (gI0 fun i j => .int (i - j)) := i_int0 (f := fun i j => i - j)
theorem i_mod : OpI K (rI (fun _ j => 0 < j) fun i j => .int (i % j)) (gI (fun _ j => 0 < j) fun i j => .int (i % j)) := i_int (f := fun i j => i % j)
theorem i_fdiv : OpI K (rI CDiv fun i j => .int (i / j)) (gI CDiv fun i j => .int (i / j)) := i_int (f := fun i j => i / j)
theorem i_pow : OpI K (rI CPow fun i j => .int (i ^ j.toNat)) (gI CPow fun i j => .int (i ^ j.toNat)) := i_int (f := fun i j => i ^ j.toNat)
theorem i_gt : OpI K (rI0 fun i j => .bl (decide (j < i))) (gI0 fun i j => .bl (decide (j < i))) := i_bl0 (f := fun i j => decide (j < i))
theorem i_ge : OpI K (rI0 fun i j => .bl (decide (j ≤ i))) (gI0 fun i j => .bl (decide (j ≤ i))) := i_bl0 (f := fun i j => decide (j ≤ i))
/-- + of ints, texts, tuples, lists -/
def gAdd : G2 := fun x y m Q => match x, y with
  | .int i, .int j => Q (.int (i + j)) m
  | .str a, .str b => a.length + b.length ≤ sizeLine ∧ Q (.str (a ++ b)) m
  | .tup a, .tup b => a.length + b.length ≤ sizeLine ∧ Q (.tup (a ++ b)) m
  | x, y => match lv m x, lv m y with
    | some a, some b => a.length + b.length ≤ sizeLine ∧ Q (.lst (a ++ b)) m
    | _, _ => False
def gAddS : G2 := fun x y m Q => match x, y with
  | .str a, .str b => a.length + b.length ≤ sizeLine ∧ Q (.str (a ++ b)) m
  | _, _ => False
def gAddT : G2 := fun x y m Q => match x, y with
  | .tup a, .tup b => a.length + b.length ≤ sizeLine ∧ Q (.tup (a ++ b)) m
  | _, _ => False
def gAddL : G2 := fun x y m Q => match lv m x, lv m y with
    | some a, some b => a.length + b.length ≤ sizeLine ∧ Q (.lst (a ++ b)) m
    | _, _ => False
theorem i_addS : OpI K (fun x y H Q => ∃ i j, x = .str i ∧ y = .str j ∧ i.length + j.length ≤ sizeLine ∧ Q (.str (i ++ j)) H) gAddS := fun x y dx dy m H Q R rs rx ry q c => by
  cases dx <;> try exact q.elim
  cases dy <;> try exact q.elim
  exact ⟨_, _, rx, ry, q.1, c (.str _) H (.str _) m (Ext.refl _ _) rs rfl q.2⟩
theorem i_addT : OpI K (rCatA K) gAddT := fun x y dx dy m H Q R rs rx ry q c => by
  cases dx <;> try exact q.elim
  cases dy <;> try exact q.elim
  rename_i a b
  obtain ⟨p, xs, rfl, h2, h3⟩ := Rp_tup rx
  obtain ⟨p', ys, rfl, h2', h3'⟩ := Rp_tup ry
  refine ⟨p, p', xs, ys, rfl, rfl, h2, h2', by rw [h3.length, h3'.length]; exact q.1, fun e => ?_, fun _ e => ?_, fun _ _ z hz => ?_⟩
  · subst e
    have : a = [] := by have := h3.length; cases a with
      | nil => rfl
      | cons _ _ => simp at this
    subst this
    exact c _ H _ m (Ext.refl _ _) rs ry q.2
  · subst e
    have : b = [] := by have := h3'.length; cases b with
      | nil => rfl
      | cons _ _ => simp at this
    subst this
    have := q.2
    rw [List.append_nil] at this
    exact c _ H _ m (Ext.refl _ _) rs rx this
  · exact laidT hz rs (h3.app h3') q.2 c
theorem i_addL : OpI K rCat gAddL := fun x y dx dy m H Q R rs rx ry q c => by
  unfold gAddL at q
  split at q
  · rename_i a b ha hb
    obtain ⟨p, xs, rfl, h2, h3⟩ := lv_at rs rx ha
    obtain ⟨p', ys, rfl, h2', h3'⟩ := lv_at rs ry hb
    exact ⟨p, p', xs, ys, rfl, rfl, h2, h2', by rw [h3.length, h3'.length]; exact q.1, fun z hz => laidL hz rs (h3.app h3') q.2 c⟩
  · exact q.elim
def rAddS : R2 := fun x y H Q => ∃ i j, x = .str i ∧ y = .str j ∧ i.length + j.length ≤ sizeLine ∧ Q (.str (i ++ j)) H
def rPlus (K : PySem.W.Frag) : R2 := fun x y H Q => ((rI0 (fun i j => .int (i + j)) x y H Q ∨ rAddS x y H Q) ∨ rCatA K x y H Q) ∨ rCat x y H Q
theorem op_plus : OpR X (binaryOp .Add) (rPlus X.K) := ((op_add.or op_add_str).or op_catA).or op_cat
theorem i_add : OpI K (rPlus K) gAdd := fun x y dx dy m H Q R rs rx ry q c => by
  cases dx with
  | int i => cases dy with
    | int j => exact .inl (.inl (.inl (i_int0 (f := fun i j => i + j) _ _ (.int i) (.int j) m H Q R rs rx ry q c)))
    | _ => exact False.elim q
  | str i => cases dy with
    | str j => exact .inl (.inl (.inr (i_addS _ _ (.str i) (.str j) m H Q R rs rx ry q c)))
    | _ => exact False.elim q
  | tup i => cases dy with
    | tup j => exact .inl (.inr (i_addT _ _ (.tup i) (.tup j) m H Q R rs rx ry q c))
    | _ => exact False.elim q
  | lst i => exact .inr (i_addL _ _ (.lst i) dy m H Q R rs rx ry (by cases dy <;> exact q) c)
  | ref i => exact .inr (i_addL _ _ (.ref i) dy m H Q R rs rx ry (by cases dy <;> exact q) c)
  | _ => exact False.elim (by cases dy <;> exact q)
/-- * of ints, a text or a list and an int -/
def gMul : G2 := fun x y m Q => match x, y with
  | .int i, .int j => CMul i j ∧ Q (.int (i * j)) m
  | .lst ds, .int k => -(2 ^ 63) ≤ k ∧ k < 2 ^ 63 ∧ ds.length * k.toNat ≤ sizeLine ∧ Q (.lst (List.replicate k.toNat ds).flatten) m
  | _, _ => False
def gRep : G2 := fun x y m Q => match x, y with
  | .lst ds, .int k => -(2 ^ 63) ≤ k ∧ k < 2 ^ 63 ∧ ds.length * k.toNat ≤ sizeLine ∧ Q (.lst (List.replicate k.toNat ds).flatten) m
  | _, _ => False
theorem Rps.rep {m : Mu} {H : Hp} {ds : List D} {xs : List V} (h : Rps K m H ds xs) : ∀ n, Rps K m H (List.replicate n ds).flatten (List.replicate n xs).flatten
  | 0 => rfl
  | n + 1 => by
    rw [List.replicate_succ, List.replicate_succ, List.flatten_cons, List.flatten_cons]
    exact h.app (Rps.rep h n)
theorem i_rep : OpI K rRep gRep := fun x y dx dy m H Q R rs rx ry q c => by
  cases dx <;> try exact q.elim
  cases dy <;> try exact q.elim
  obtain ⟨p, xs, rfl, h2, h3⟩ := rx
  obtain ⟨q1, q2, q3, q4⟩ := q
  exact ⟨p, _, xs, rfl, ry, h2.2, q1, q2, by rw [h3.length]; exact q3, fun z hz => laidL hz rs (Rps.rep h3 _) q4 c⟩
def rTimes : R2 := fun x y H Q => rI CMul (fun i j => .int (i * j)) x y H Q ∨ rRep x y H Q
theorem op_times : OpR X (binaryOp .Mult) rTimes := op_mul.or op_rep
theorem i_mul : OpI K rTimes gMul := fun x y dx dy m H Q R rs rx ry q c => by
  cases dx with
  | int i => cases dy with
    | int j => exact .inl (i_int (f := fun i j => i * j) _ _ (.int i) (.int j) m H Q R rs rx ry q c)
    | _ => exact False.elim q
  | lst i => cases dy with
    | int j => exact .inr (i_rep _ _ (.lst i) (.int j) m H Q R rs rx ry q c)
    | _ => exact False.elim q
  | _ => exact False.elim (by cases dy <;> exact q)

/-! ### comparisons -/
def fitD (d : D) : Prop := d.pu = true ∧ SeqAt.shaped d.py = true
def gLtG : G2 := fun x y m Q => fitD x ∧ fitD y ∧ ∃ b, ltP x.py y.py = some b ∧ Q (.bl b) m
def gLeG : G2 := fun x y m Q => fitD x ∧ fitD y ∧ ∃ b, leP x.py y.py = some b ∧ Q (.bl b) m
def gLt : G2 := fun x y m Q => match x, y with
  | .int i, .int j => Q (.bl (decide (i < j))) m
  | .str i, .str j => Q (.bl (decide (i.cps.toList < j.cps.toList))) m
  | x, y => gLtG x y m Q
def gLe : G2 := fun x y m Q => match x, y with
  | .int i, .int j => Q (.bl (decide (i ≤ j))) m
  | .str i, .str j => Q (.bl (!decide (j.cps.toList < i.cps.toList))) m
  | x, y => gLeG x y m Q
def gLtS : G2 := fun x y m Q => match x, y with
  | .str i, .str j => Q (.bl (decide (i.cps.toList < j.cps.toList))) m
  | _, _ => False
def gLeS : G2 := fun x y m Q => match x, y with
  | .str i, .str j => Q (.bl (!decide (j.cps.toList < i.cps.toList))) m
  | _, _ => False
def rLtG (K : PySem.W.Frag) : R2 := fun x y H Q => ∃ d e b, Dp K H x d ∧ Dp K H y e ∧ SeqAt.shaped d = true ∧ SeqAt.shaped e = true ∧ ltP d e = some b ∧ Q (.bl b) H
def rLeG (K : PySem.W.Frag) : R2 := fun x y H Q => ∃ d e b, Dp K H x d ∧ Dp K H y e ∧ SeqAt.shaped d = true ∧ SeqAt.shaped e = true ∧ leP d e = some b ∧ Q (.bl b) H
theorem op_ltG (hu : X.A.units + 65 < cLine) : OpR X (compareOp .Lt) (rLtG X.K) := by
  intro pins s σ H x y v u Q I rx ry h
  obtain ⟨d, e, b, hd, he, sd, se, hb, q⟩ := h
  obtain ⟨as, r1⟩ := Dp.reads I d x v hd rx
  obtain ⟨bs, r2⟩ := Dp.reads I e y u he ry
  exact lt_reads 64 d e X.A s v u as bs b (SeqAt.depth_of_shaped sd) (SeqAt.depth_of_shaped se) r1 r2 (SeqAt.canLay_of_shaped sd) (SeqAt.canLay_of_shaped se) hu hb X.prog X.w X.xe _ ⟨.bl _, H, I, rfl, q⟩
theorem op_leG (hu : X.A.units + 65 < cLine) : OpR X (compareOp .LtE) (rLeG X.K) := by
  intro pins s σ H x y v u Q I rx ry h
  obtain ⟨d, e, b, hd, he, sd, se, hb, q⟩ := h
  obtain ⟨as, r1⟩ := Dp.reads I d x v hd rx
  obtain ⟨bs, r2⟩ := Dp.reads I e y u he ry
  exact le_reads 64 d e X.A s v u as bs b (SeqAt.depth_of_shaped sd) (SeqAt.depth_of_shaped se) r1 r2 (SeqAt.canLay_of_shaped sd) (SeqAt.canLay_of_shaped se) hu hb X.prog X.w X.xe _ ⟨.bl _, H, I, rfl, q⟩
theorem i_ltG : OpI K (rLtG K) gLtG := fun x y dx dy m H Q R rs rx ry q c => by
  obtain ⟨⟨p1, s1⟩, ⟨p2, s2⟩, b, hb, q⟩ := q
  exact ⟨_, _, b, Rp.dp _ _ p1 rx, Rp.dp _ _ p2 ry, s1, s2, hb, c (.bl b) H (.bl b) m (Ext.refl _ _) rs rfl q⟩
theorem i_leG : OpI K (rLeG K) gLeG := fun x y dx dy m H Q R rs rx ry q c => by
  obtain ⟨⟨p1, s1⟩, ⟨p2, s2⟩, b, hb, q⟩ := q
  exact ⟨_, _, b, Rp.dp _ _ p1 rx, Rp.dp _ _ p2 ry, s1, s2, hb, c (.bl b) H (.bl b) m (Ext.refl _ _) rs rfl q⟩
theorem i_ltS : OpI K (fun x y H Q => ∃ i j, x = .str i ∧ y = .str j ∧ Q (.bl (decide (i.cps.toList < j.cps.toList))) H) gLtS := fun x y dx dy m H Q R rs rx ry q c => by
  cases dx <;> try exact q.elim
  cases dy <;> try exact q.elim
  exact ⟨_, _, rx, ry, c (.bl _) H (.bl _) m (Ext.refl _ _) rs rfl q⟩
theorem i_leS : OpI K (fun x y H Q => ∃ i j, x = .str i ∧ y = .str j ∧ Q (.bl (!decide (j.cps.toList < i.cps.toList))) H) gLeS := fun x y dx dy m H Q R rs rx ry q c => by
  cases dx <;> try exact q.elim
  cases dy <;> try exact q.elim
  exact ⟨_, _, rx, ry, c (.bl _) H (.bl _) m (Ext.refl _ _) rs rfl q⟩
theorem op_leS : OpR X (compareOp .LtE) (fun x y H Q => ∃ i j, x = .str i ∧ y = .str j ∧ Q (.bl (!decide (j.cps.toList < i.cps.toList))) H) := by
  intro pins s σ H x y v u Q I rx ry h
  obtain ⟨i, j, rfl, rfl, q⟩ := h
  obtain ⟨t, rfl⟩ := rx
  obtain ⟨t', rfl⟩ := ry
  exact PySem.P.le_str (fin_bl I q rfl)
def rLtS : R2 := fun x y H Q => ∃ i j, x = .str i ∧ y = .str j ∧ Q (.bl (decide (i.cps.toList < j.cps.toList))) H
def rLeS : R2 := fun x y H Q => ∃ i j, x = .str i ∧ y = .str j ∧ Q (.bl (!decide (j.cps.toList < i.cps.toList))) H
def rLtA (K : PySem.W.Frag) : R2 := fun x y H Q => (rI0 (fun i j => .bl (decide (i < j))) x y H Q ∨ rLtS x y H Q) ∨ rLtG K x y H Q
def rLeA (K : PySem.W.Frag) : R2 := fun x y H Q => (rI0 (fun i j => .bl (decide (i ≤ j))) x y H Q ∨ rLeS x y H Q) ∨ rLeG K x y H Q
theorem op_ltA (hu : X.A.units + 65 < cLine) : OpR X (compareOp .Lt) (rLtA X.K) := (op_lt.or op_lt_str).or (op_ltG hu)
theorem op_leA (hu : X.A.units + 65 < cLine) : OpR X (compareOp .LtE) (rLeA X.K) := (op_le.or op_leS).or (op_leG hu)
theorem i_lt : OpI K (rLtA K) gLt := fun x y dx dy m H Q R rs rx ry q c => by
  cases dx with
  | int i => cases dy with
    | int j => exact .inl (.inl (i_bl0 (f := fun i j => decide (i < j)) _ _ (.int i) (.int j) m H Q R rs rx ry q c))
    | _ => exact .inr (i_ltG _ _ _ _ m H Q R rs rx ry q c)
  | str i => cases dy with
    | str j => exact .inl (.inr (i_ltS _ _ (.str i) (.str j) m H Q R rs rx ry q c))
    | _ => exact .inr (i_ltG _ _ _ _ m H Q R rs rx ry q c)
  | _ => exact .inr (i_ltG _ _ _ _ m H Q R rs rx ry (by cases dy <;> exact q) c)
theorem i_le : OpI K (rLeA K) gLe := fun x y dx dy m H Q R rs rx ry q c => by
  cases dx with
  | int i => cases dy with
    | int j => exact .inl (.inl (i_bl0 (f := fun i j => decide (i ≤ j)) _ _ (.int i) (.int j) m H Q R rs rx ry q c))
    | _ => exact .inr (i_leG _ _ _ _ m H Q R rs rx ry q c)
  | str i => cases dy with
    | str j => exact .inl (.inr (i_leS _ _ (.str i) (.str j) m H Q R rs rx ry q c))
    | _ => exact .inr (i_leG _ _ _ _ m H Q R rs rx ry q c)
  | _ => exact .inr (i_leG _ _ _ _ m H Q R rs rx ry (by cases dy <;> exact q) c)
/-- == and != -/
def gEqG : G2 := fun x y m Q => fitD x ∧ fitD y ∧ Q (.bl (PyData.eqv x.py y.py)) m
def gEq : G2 := fun x y m Q => match x, y with
  | .int i, .int j => Q (.bl (decide (i = j))) m
  | .str i, .str j => Q (.bl (decide (i = j))) m
  | x, y => gEqG x y m Q
def gNeG : G2 := fun x y m Q => fitD x ∧ fitD y ∧ Q (.bl (!PyData.eqv x.py y.py)) m
def gNe : G2 := fun x y m Q => match x, y with
  | .int i, .int j => Q (.bl (!decide (i = j))) m
  | .str i, .str j => Q (.bl (!decide (i = j))) m
  | x, y => gNeG x y m Q
def gEqS : G2 := fun x y m Q => match x, y with
  | .int i, .int j => Q (.bl (decide (i = j))) m
  | .str i, .str j => Q (.bl (decide (i = j))) m
  | _, _ => False
def gNeS : G2 := fun x y m Q => match x, y with
  | .int i, .int j => Q (.bl (!decide (i = j))) m
  | .str i, .str j => Q (.bl (!decide (i = j))) m
  | _, _ => False
theorem dV_int (i j : Int) : decide (V.int i = V.int j) = decide (i = j) := by
  by_cases h : i = j
  · subst h; simp
  · rw [decide_eq_false h, decide_eq_false fun e => h (V.int.inj e)]
theorem dV_str (i j : Str) : decide (V.str i = V.str j) = decide (i = j) := by
  by_cases h : i = j
  · subst h; simp
  · rw [decide_eq_false h, decide_eq_false fun e => h (V.str.inj e)]
theorem i_eqS : OpI K rEq gEqS := fun x y dx dy m H Q R rs rx ry q c => by
  cases dx <;> try exact q.elim
  all_goals (cases dy <;> try exact q.elim)
  · rename_i i j
    have rx : x = .int i := rx
    have ry : y = .int j := ry
    subst rx ry
    refine ⟨rfl, c _ H (.bl _) m (Ext.refl _ _) rs (by rw [dV_int]; rfl) q⟩
  · rename_i i j
    have rx : x = .str i := rx
    have ry : y = .str j := ry
    subst rx ry
    refine ⟨rfl, c _ H (.bl _) m (Ext.refl _ _) rs (by rw [dV_str]; rfl) q⟩
theorem i_neS : OpI K rNe gNeS := fun x y dx dy m H Q R rs rx ry q c => by
  cases dx <;> try exact q.elim
  all_goals (cases dy <;> try exact q.elim)
  · rename_i i j
    have rx : x = .int i := rx
    have ry : y = .int j := ry
    subst rx ry
    refine ⟨rfl, c _ H (.bl _) m (Ext.refl _ _) rs (by rw [dV_int]; rfl) q⟩
  · rename_i i j
    have rx : x = .str i := rx
    have ry : y = .str j := ry
    subst rx ry
    refine ⟨rfl, c _ H (.bl _) m (Ext.refl _ _) rs (by rw [dV_str]; rfl) q⟩
theorem i_eqG : OpI K (rEqD K) gEqG := fun x y dx dy m H Q R rs rx ry q c => by
  obtain ⟨⟨p1, s1⟩, ⟨p2, s2⟩, q⟩ := q
  exact ⟨_, _, Rp.dp _ _ p1 rx, Rp.dp _ _ p2 ry, s1, s2, c (.bl _) H (.bl _) m (Ext.refl _ _) rs rfl q⟩
theorem i_neG : OpI K (rNeD K) gNeG := fun x y dx dy m H Q R rs rx ry q c => by
  obtain ⟨⟨p1, s1⟩, ⟨p2, s2⟩, q⟩ := q
  exact ⟨_, _, Rp.dp _ _ p1 rx, Rp.dp _ _ p2 ry, s1, s2, c (.bl _) H (.bl _) m (Ext.refl _ _) rs rfl q⟩
def rEqA (K : PySem.W.Frag) : R2 := fun x y H Q => rEq x y H Q ∨ rEqD K x y H Q
def rNeA (K : PySem.W.Frag) : R2 := fun x y H Q => rNe x y H Q ∨ rNeD K x y H Q
theorem op_eqA (hu : X.A.units + 64 < cLine) : OpR X (compareOp .Eq) (rEqA X.K) := op_eq.or (op_eqD hu)
theorem op_neA (hu : X.A.units + 64 < cLine) : OpR X (compareOp .NotEq) (rNeA X.K) := op_ne.or (op_neD hu)
theorem i_eq : OpI K (rEqA K) gEq := fun x y dx dy m H Q R rs rx ry q c => by
  cases dx with
  | int i => cases dy with
    | int j => exact .inl (i_eqS _ _ (.int i) (.int j) m H Q R rs rx ry q c)
    | _ => exact .inr (i_eqG _ _ _ _ m H Q R rs rx ry q c)
  | str i => cases dy with
    | str j => exact .inl (i_eqS _ _ (.str i) (.str j) m H Q R rs rx ry q c)
    | _ => exact .inr (i_eqG _ _ _ _ m H Q R rs rx ry q c)
  | _ => exact .inr (i_eqG _ _ _ _ m H Q R rs rx ry (by cases dy <;> exact q) c)
theorem i_ne : OpI K (rNeA K) gNe := fun x y dx dy m H Q R rs rx ry q c => by
  cases dx with
  | int i => cases dy with
    | int j => exact .inl (i_neS _ _ (.int i) (.int j) m H Q R rs rx ry q c)
    | _ => exact .inr (i_neG _ _ _ _ m H Q R rs rx ry q c)
  | str i => cases dy with
    | str j => exact .inl (i_neS _ _ (.str i) (.str j) m H Q R rs rx ry q c)
    | _ => exact .inr (i_neG _ _ _ _ m H Q R rs rx ry q c)
  | _ => exact .inr (i_neG _ _ _ _ m H Q R rs rx ry (by cases dy <;> exact q) c)
/-- is None -/
def isNon : D → Bool
  | .non => true
  | _ => false
def notOth : D → Prop
  | .oth _ => False
  | _ => True
def gIsN : G2 := fun x y m Q => match y with
  | .non => notOth x ∧ Q (.bl (isNon x)) m
  | _ => False
def gNotN : G2 := fun x y m Q => match y with
  | .non => notOth x ∧ Q (.bl (!isNon x)) m
  | _ => False
theorem isNon_eq {m : Mu} {H : Hp} {d : D} {v : V} (r : Rp K m H d v) (h : notOth d) : decide (v = V.non) = isNon d := by
  cases d with
  | non => have r : v = .non := r; subst r; rfl
  | bl b => have r : v = .bl b := r; subst r; rfl
  | int b => have r : v = .int b := r; subst r; rfl
  | str b => have r : v = .str b := r; subst r; rfl
  | ref b => have r : v = .ref b := r; subst r; rfl
  | oth u => exact h.elim
  | tup ds => obtain ⟨a, xs, rfl, _⟩ := r; rfl
  | lst ds => obtain ⟨a, xs, rfl, _⟩ := r; rfl
  | scr ds => obtain ⟨a, rfl, _⟩ := r; rfl
theorem i_isN : OpI K (fun x y H Q => y = .non ∧ Q (.bl (decide (x = .non))) H) gIsN := fun x y dx dy m H Q R rs rx ry q c => by
  cases dy <;> try exact q.elim
  exact ⟨ry, c _ H (.bl _) m (Ext.refl _ _) rs (by rw [isNon_eq rx q.1]; rfl) q.2⟩
theorem i_notN : OpI K (fun x y H Q => y = .non ∧ Q (.bl (!decide (x = .non))) H) gNotN := fun x y dx dy m H Q R rs rx ry q c => by
  cases dy <;> try exact q.elim
  exact ⟨ry, c _ H (.bl _) m (Ext.refl _ _) rs (by rw [isNon_eq rx q.1]; rfl) q.2⟩
/-- in, not in: flat things in a list or a tuple of such -/
def flD : D → Bool
  | .non => true
  | .bl _ => true
  | .int _ => true
  | .str _ => true
  | _ => false
def inD (x : D) (ds : List D) : Bool := ds.any fun y => PyData.eqv y.py x.py
def sq (m : Mu) : D → Option (List D)
  | .tup ds => some ds
  | d => lv m d
theorem sq_at {m : Mu} {H : Hp} {d : D} {v : V} {ds : List D} (rs : RS K m H) (r : Rp K m H d v) (h : sq m d = some ds) : ∃ a xs, v = .ref a ∧ (SqL K H a xs ∨ SqT K H a xs) ∧ Rps K m H ds xs := by
  cases d with
  | tup es =>
    cases h
    obtain ⟨a, xs, h1, h2, h3⟩ := Rp_tup r
    exact ⟨a, xs, h1, .inr h2, h3⟩
  | lst es =>
    obtain ⟨a, xs, h1, h2, h3⟩ := lv_at rs r h
    exact ⟨a, xs, h1, .inl (SqL.of h2), h3⟩
  | ref a =>
    obtain ⟨a, xs, h1, h2, h3⟩ := lv_at rs r h
    exact ⟨a, xs, h1, .inl (SqL.of h2), h3⟩
  | _ => cases h
theorem flV_of {m : Mu} {H : Hp} {d : D} {v : V} (r : Rp K m H d v) (h : flD d = true) : flatV v = true := by
  cases d with
  | non => have r : v = .non := r; subst r; rfl
  | bl b => have r : v = .bl b := r; subst r; rfl
  | int b => have r : v = .int b := r; subst r; rfl
  | str b => have r : v = .str b := r; subst r; rfl
  | _ => cases h
theorem eqV_of {m : Mu} {H : Hp} {d e : D} {v u : V} (r : Rp K m H d v) (r' : Rp K m H e u) (h : flD d = true) (h' : flD e = true) : eqV v u = PyData.eqv d.py e.py := by
  cases d with
  | non => have r : v = .non := r; subst r; cases e with
    | non => have r' : u = .non := r'; subst r'; rfl
    | bl b => have r' : u = .bl b := r'; subst r'; rfl
    | int b => have r' : u = .int b := r'; subst r'; rfl
    | str b => have r' : u = .str b := r'; subst r'; rfl
    | _ => cases h'
  | bl a => have r : v = .bl a := r; subst r; cases e with
    | non => have r' : u = .non := r'; subst r'; rfl
    | bl b => have r' : u = .bl b := r'; subst r'; rfl
    | int b => have r' : u = .int b := r'; subst r'; rfl
    | str b => have r' : u = .str b := r'; subst r'; rfl
    | _ => cases h'
  | int a => have r : v = .int a := r; subst r; cases e with
    | non => have r' : u = .non := r'; subst r'; rfl
    | bl b => have r' : u = .bl b := r'; subst r'; rfl
    | int b => have r' : u = .int b := r'; subst r'; rfl
    | str b => have r' : u = .str b := r'; subst r'; rfl
    | _ => cases h'
  | str a => have r : v = .str a := r; subst r; cases e with
    | non => have r' : u = .non := r'; subst r'; rfl
    | bl b => have r' : u = .bl b := r'; subst r'; rfl
    | int b => have r' : u = .int b := r'; subst r'; rfl
    | str b => have r' : u = .str b := r'; subst r'; rfl
    | _ => cases h'
  | _ => cases h
theorem in_of {m : Mu} {H : Hp} {d : D} {v : V} (r : Rp K m H d v) (h : flD d = true) : ∀ {ds : List D} {xs : List V}, Rps K m H ds xs → ds.all flD = true → xs.all flatV = true ∧ inV v xs = inD d ds
  | [], _, hs, _ => by have hs : _ = [] := hs; subst hs; exact ⟨rfl, rfl⟩
  | e :: ds, _, hs, hf => by
    obtain ⟨u, xs, rfl, h1, h2⟩ := hs
    rw [List.all_cons, Bool.and_eq_true] at hf
    obtain ⟨i1, i2⟩ := in_of r h h2 hf.2
    refine ⟨by rw [List.all_cons, flV_of h1 hf.1, i1]; rfl, ?_⟩
    unfold inV inD at i2 ⊢
    rw [List.any_cons, List.any_cons, i2, eqV_of h1 r hf.1 h]
def gIn (neg : Bool) : G2 := fun x y m Q => match sq m y with
  | some ds => flD x = true ∧ ds.all flD = true ∧ Q (.bl (if neg then !inD x ds else inD x ds)) m
  | none => False
theorem i_in {neg : Bool} : OpI K (rIn K neg) (gIn neg) := fun x y dx dy m H Q R rs rx ry q c => by
  unfold gIn at q
  split at q
  · rename_i ds hs
    obtain ⟨a, xs, rfl, h2, h3⟩ := sq_at rs ry hs
    obtain ⟨i1, i2⟩ := in_of rx q.1 h3 q.2.1
    exact ⟨a, xs, rfl, h2, flV_of rx q.1, i1, c _ H (.bl _) m (Ext.refl _ _) rs (by rw [i2]; rfl) q.2.2⟩
  · exact q.elim
/-! ### subscripts -/
theorem atI_of {α β : Type} {xs : List α} {ys : List β} {i : Int} {x : α} (hl : ys.length = xs.length) (h : atI xs i = some x) (P : β → Prop) (hp : ∀ (j : Nat), xs[j]? = some x → ∃ y, ys[j]? = some y ∧ P y) : ∃ y, atI ys i = some y ∧ P y := by
  unfold atI at h ⊢
  rw [hl]
  cases e : ixN xs.length i with
  | none => rw [e] at h; cases h
  | some j =>
    rw [e] at h
    exact hp j h
def gIx : G2 := fun x y m Q => match x, y with
  | .str z, .int i => z.length ≤ sizeLine ∧ (match atI z.cps.toList i with
    | some c => Q (.str ⟨#[c]⟩) m
    | none => False)
  | x, .int i => (match sq m x with
    | some ds => (match atI ds i with
      | some d => Q d m
      | none => False)
    | none => False)
  | _, _ => False
def rIxA (K : PySem.W.Frag) : R2 := fun x y H Q => (rIxL K x y H Q ∨ rIxT K x y H Q) ∨ rIxS x y H Q
theorem ix_all : IxR X (rIxA X.K) := (ix_list.or ix_tup).or ix_str
theorem i_ixQ {m : Mu} {H : Hp} {x y : V} {dx : D} {i : Int} {Q : DK} {R : VK} (rs : RS K m H) (rx : Rp K m H dx x) (ry : y = .int i) (q : match sq m dx with
    | some ds => (match atI ds i with
      | some d => Q d m
      | none => False)
    | none => False) (c : CoE K m H Q R) : rIxL K x y H R ∨ rIxT K x y H R := by
  split at q
  · rename_i ds hs
    split at q
    · rename_i d hd
      obtain ⟨a, xs, rfl, h2, h3⟩ := sq_at rs rx hs
      obtain ⟨v, e1, e2⟩ := atI_of (ys := xs) h3.length hd (fun v => Rp K m H d v) fun j hj => h3.get hj
      rcases h2 with h2 | h2
      · exact .inl ⟨a, xs, i, v, rfl, ry, h2, e1, c v H d m (Ext.refl _ _) rs e2 q⟩
      · exact .inr ⟨a, xs, i, v, rfl, ry, h2, e1, c v H d m (Ext.refl _ _) rs e2 q⟩
    · exact q.elim
  · exact q.elim
theorem i_ix : OpI K (rIxA K) gIx := fun x y dx dy m H Q R rs rx ry q c => by
  cases dy with
  | int i =>
    cases dx with
    | str z =>
      obtain ⟨q1, q2⟩ := q
      split at q2
      · rename_i cc hc
        exact .inr ⟨z, i, cc, rx, ry, q1, hc, c (.str _) H (.str _) m (Ext.refl _ _) rs rfl q2⟩
      · exact q2.elim
    | _ => exact .inl (i_ixQ rs rx ry q c)
  | _ => cases dx <;> exact q.elim
/-! ### slices -/
abbrev DTO := Ev → Mu → (Option Int → Mu → Prop) → Prop
def CoO (K : PySem.W.Frag) (m : Mu) (H : Hp) (Q : Option Int → Mu → Prop) (R : Option Int → Hp → Prop) : Prop := ∀ b H' m', Ext m H m' H' → RS K m' H' → Q b m' → R b H'
theorem CoO.from {m m1 : Mu} {H H1 : Hp} {Q : Option Int → Mu → Prop} {R : Option Int → Hp → Prop} (c : CoO K m H Q R) (x : Ext m H m1 H1) : CoO K m1 H1 Q R := fun v H' m' e => c v H' m' (x.trans e)
def lO (K : PySem.W.Frag) (t : DTO) : TO := fun s H R => ∃ e m Q, Sl K m H s e ∧ RS K m H ∧ t e m Q ∧ CoO K m H Q R
abbrev DO (X : Cx) (e : Option Expr) (t : DTO) : Prop := PO X e (lO X.K t)
theorem _root_.L2.PO.imp {X : Cx} {e : Option Expr} {t t' : TO} (h : PO X e t) (i : ∀ s H Q, t' s H Q → t s H Q) : PO X e t' := ⟨fun pins s σ H Q I q => h.run pins s σ H Q I (i _ _ _ q)⟩
def dNoPart : DTO := fun _ m Q => Q none m
def dPart (t : DTE) : DTO := fun e m Q => t e m fun d m1 => match d with
  | .int i => Q (some i) m1
  | _ => False
theorem do_none : DO X none dNoPart := po_none.imp fun s H R ⟨e, m, Q, sl, rs, t, c⟩ => c none H m (Ext.refl _ _) rs t
theorem do_some {e : Expr} {t : DTE} (h : DE X e t) : DO X (some e) (dPart t) := (po_some h).imp fun s H R ⟨e, m, Q, sl, rs, t, c⟩ => ⟨e, m, _, sl, rs, t, fun v H1 d m1 x1 rs1 r1 t1 => by
  cases d with
  | int i => exact ⟨i, r1, c _ H1 m1 x1 rs1 t1⟩
  | _ => exact t1.elim⟩
def cutG {α : Type} (xs : List α) (lo hi : Option Int) : List α := (xs.drop (HT.sIx xs.length 0 lo)).take (HT.sIx xs.length xs.length hi - HT.sIx xs.length 0 lo)
theorem cutG_V (xs : List V) (lo hi : Option Int) : cutG xs lo hi = cutV xs lo hi := rfl
theorem Rps.cut {m : Mu} {H : Hp} {ds : List D} {xs : List V} {lo hi : Option Int} (h : Rps K m H ds xs) : Rps K m H (cutG ds lo hi) (cutV xs lo hi) := by
  unfold cutG cutV
  rw [h.length]
  exact Rps.take _ (Rps.drop _ h)
def gSl : D → Option Int → Option Int → Mu → DK → Prop := fun x lo hi m Q => match x with
  | .str z => z.length ≤ sizeLine ∧ Q (.str (cutS z lo hi)) m
  | .tup ds => Q (.tup (cutG ds lo hi)) m
  | .scr ns => Q (.lst ((cutG ns lo hi).map D.int)) m
  | x => match lv m x with
    | some ds => Q (.lst (cutG ds lo hi)) m
    | none => False
def dSl (te : DTE) (tl th : DTO) : DTE := fun e m Q => te e m fun x m1 => tl e m1 fun lo m2 => th e m2 fun hi m3 => gSl x lo hi m3 Q
def rSlAll (K : PySem.W.Frag) : V → Option Int → Option Int → Hp → VK → Prop := fun x lo hi H Q => (rSlL K x lo hi H Q ∨ rSlA K x lo hi H Q) ∨ rSlS x lo hi H Q
theorem sl_all : SlR X (rSlAll X.K) := (sl_list.or sl_tupA).or sl_str
theorem Rps.ints {m : Mu} {H : Hp} : ∀ ns : List Int, Rps K m H (ns.map D.int) (ns.map V.int)
  | [] => rfl
  | n :: ns => ⟨_, _, rfl, rfl, Rps.ints ns⟩
theorem cutV_int (ns : List Int) (lo hi : Option Int) : cutV (ns.map V.int) lo hi = (cutG ns lo hi).map V.int := by
  unfold cutV cutG
  rw [List.length_map, List.map_take, List.map_drop]
theorem sl_imp {m : Mu} {H : Hp} {x : V} {dx : D} {lo hi : Option Int} {Q : DK} {R : VK} (rs : RS K m H) (rx : Rp K m H dx x) (q : gSl dx lo hi m Q) (c : CoE K m H Q R) : rSlAll K x lo hi H R := by
  cases dx with
  | str z => exact .inr ⟨z, rx, q.1, c (.str _) H (.str _) m (Ext.refl _ _) rs rfl q.2⟩
  | tup ds =>
    obtain ⟨a, xs, e, h2, h3⟩ := Rp_tup rx
    refine .inl (.inr ⟨a, xs, e, h2, fun hw => ?_, fun _ p hp => laidT hp rs h3.cut q c⟩)
    have : cutG ds lo hi = ds := by
      unfold cutG
      rw [h3.length] at hw
      rw [hw.1, hw.2, Nat.sub_zero, List.drop_zero, List.take_length]
    have q : Q (.tup (cutG ds lo hi)) m := q
    rw [this] at q
    exact c (.ref a) H (.tup ds) m (Ext.refl _ _) rs (by rw [← e]; exact rx) q
  | scr ns =>
    obtain ⟨a, e, h2⟩ := rx
    refine .inl (.inl ⟨a, _, e, h2.seq, fun p hp => ?_⟩)
    rw [cutV_int]
    exact laidL hp rs (Rps.ints _) q c
  | lst ds =>
    obtain ⟨a, xs, e, h2, h3⟩ := lv_at rs rx rfl
    exact .inl (.inl ⟨a, xs, e, SqL.of h2, fun p hp => laidL hp rs h3.cut q c⟩)
  | ref b =>
    unfold gSl at q
    simp only at q
    split at q
    · rename_i ds hs
      obtain ⟨a, xs, e, h2, h3⟩ := lv_at rs rx hs
      exact .inl (.inl ⟨a, xs, e, SqL.of h2, fun p hp => laidL hp rs h3.cut q c⟩)
    · exact q.elim
  | _ => exact q.elim
theorem de_sl {e : Expr} {lo hi : Option Expr} {te : DTE} {tl th : DTO} {p2 pos : Pos} (he : DE X e te) (hl : DO X lo tl) (hh : DO X hi th) : DE X (.Subscript e (.Slice lo hi none p2) pos) (dSl te tl th) :=
  (pe_slice sl_all he hl hh).imp fun s H R ⟨e, m, Q, sl, rs, t, c⟩ => ⟨e, m, _, sl, rs, t, fun v H1 d m1 x1 rs1 r1 t1 =>
    ⟨e, m1, _, sl.mono x1, rs1, t1, fun l H2 m2 x2 rs2 t2 => ⟨e, m2, _, (sl.mono x1).mono x2, rs2, t2, fun u H3 m3 x3 rs3 t3 =>
      sl_imp rs3 (Rp.mono x3 _ _ (Rp.mono x2 _ _ r1)) t3 (((c.from x1).from x2).from x3)⟩⟩⟩
end
end DL

set_option Elab.async false
set_option linter.all false
set_option maxRecDepth 100000
namespace DL
open PySem PySem.Spec PyProof.Rows L2

/-! ### what a def is worth, where nothing is being shown (repr may be called) -/
structure RoomG (k : Nat) (A : Around) : Prop where
  room : Room k A
  idle : A.guards = some []
theorem RoomG.mono {j k : Nat} {A : Around} (r : RoomG k A) (h : j ≤ k) : RoomG j A := ⟨r.room.mono h, r.idle⟩
theorem deeper_guards (A : Around) (env : Env) : (A.deeper env).guards = A.guards := rfl
theorem RoomG.deeper {k : Nat} {A : Around} (r : RoomG (k + 1) A) (env : Env) : RoomG k (A.deeper env) := ⟨r.room.deeper env, r.idle⟩
theorem RoomG.u65 {k : Nat} {A : Around} (r : RoomG k A) : A.units + 65 < cLine := by have := r.room.un; omega
theorem RoomG.u64 {k : Nat} {A : Around} (r : RoomG k A) : A.units + 64 < cLine := by have := r.room.un; omega
structure FnG (P : Program) (w : World) (K : PySem.W.Frag) (mg : Str → Option Value) (base : Heap) (CX : CXT) (k : Nat) (f : Addr) (fd : FuncData) (ps : List Str) (sp : Sp) : Prop where
  arity : ∀ vs H Q E, sp vs H Q E → vs.length = ps.length
  goes : ∀ (A : Around) (fr : List Env) (t : Shared) (H : Hp) (args : Args) (us : List Value) (vs : List V) (Q : VK) (E : XK), RoomG k A → Env0 P w K mg base A fr t H → BindsTo t fd args (ps.zip us) → Vals vs us → sp vs H Q E →
    codeAny (model P w) A (.call (.ref f) args) (CR CX fr P w H t Q E) t
theorem FnG.mono {P : Program} {w : World} {K : PySem.W.Frag} {mg : Str → Option Value} {base : Heap} {CX : CXT} {j k : Nat} {f : Addr} {fd : FuncData} {ps : List Str} {sp : Sp} (F : FnG P w K mg base CX j f fd ps sp) (h : j ≤ k) : FnG P w K mg base CX k f fd ps sp :=
  ⟨F.arity, fun A fr t H args us vs Q E r => F.goes A fr t H args us vs Q E (r.mono h)⟩
section
variable {P : Program} {w : World} {K : PySem.W.Frag} {mg : Str → Option Value} {base : Heap}
/-- a def by its body -/
theorem _root_.L2.Fun.okG {CX : CXT} {x qual : Str} {st : Stmt} {f : Addr} {fd : FuncData} {N ps : List Str} {k : Nat} {sp : Sp} (F : Fun K x qual st f fd) (S : FnScope N ps (defScope st)) (ar : ∀ vs H Q E, sp vs H Q E → vs.length = ps.length)
    (body : ∀ (cdv : Value) (A : Around) (fr : List Env) (t : Shared) (H : Hp) (vs : List V) (Q : VK) (E : XK), RoomG k (A.deeper (envOfC qual (defScope st) t.heap.objs.size f cdv)) → sp vs H Q E →
      ∃ b, PSs (cxOf CX P w K mg base N qual (defScope st) f cdv A fr t H E) (defBody st) b ∧ b { nx := fun _ H' => Q .non H', rt := Q } (start N vs) H) : FnG P w K mg base CX (k + 1) f fd ps sp := by
  obtain ⟨oc, od, kV, doc, pm, an, cdv, ct, osl, rfl, look, code⟩ := F.ex
  refine ⟨ar, fun A fr t H args us vs Q E room e0 bind rel hsp => ?_⟩
  have hn := ar _ _ _ _ hsp
  have inK : K.In t.heap := e0.mod.kin.keeps fun b o e => (e0.bs b o e).1
  have nolim : t.heap.NoLimit := e0.mod.nolimit.keeps fun b o e => (e0.bs b o e).1
  refine codeAny_call_function room.room.depth (inK _ _ look) rfl S.co S.gen rfl (PySem.W.codeRec_of inK code) (bind _ _ _ _ ?_)
  refine wpAny_newFunctionEnv_cells S.kind (fun y hy => ?_) fun env he t1 ic => ?_
  · obtain ⟨n, v⟩ := y
    have := S.par n (List.of_mem_zip hy).1
    exact this.imp id fun q => ⟨q, PySem.W.cellsFrom_some _ _ _ (.inl q)⟩
  subst he
  refine ⟨nolim.keeps ic.toInCall.keep, codeAny_func ?_⟩
  obtain ⟨b, hb, q⟩ := body cdv A fr t H vs Q E (room.deeper _) hsp
  have I := inv_start (CX := CX) (K := K) (mg := mg) (base := base) (E := E) (w := w) (P := P) S room.room.hd e0 hn rel ic
  refine wpAny_mono (hb.run [] t1 (start N vs) H _ I q) (fun fl t2 z => ?_) fun e t2 z => z
  cases fl with
  | next => obtain ⟨_, H', J, q'⟩ := z; exact ⟨V.non, H', J.os, J.bare, J.base, J.hok, rfl, q'⟩
  | ret u => obtain ⟨v, _, H', J, rv, q'⟩ := z; exact ⟨v, H', J.os, J.bare, J.base, J.hok, rv, q'⟩
  | brk => obtain ⟨_, _, _, q'⟩ := z; exact False.elim q'
  | cont => obtain ⟨_, _, _, q'⟩ := z; exact False.elim q'
end
section
variable {X : Cx} {CX : CXT} {k : Nat} {f : Addr} {fd : FuncData} {ps : List Str} {sp : Sp} {dvs : List V} {dfs : List Value} {E : XK} {x : Str} {p pos : Pos} {e : Expr} {es : List Expr} {t : TA}
theorem goes_fn {pins : List (Addr × Obj)} {σ : L2.St} {H : Hp} {s : Shared} {Q : VK} {us : List Value} {vs : List V} (F : FnG X.prog X.w X.K X.mg X.base CX k f fd ps sp) (room : RoomG k X.A) (bind : Binds X.K fd ps dfs) (hd : Vals dvs dfs) (hx : Passes CX X E)
    (I : Inv X pins σ H s) (r : Vals vs us) (h : sp (vs ++ dvs) H Q E) : wpAny (model X.prog X.w) X.A (call (.ref f) us) (EP X pins σ Q) X.xe s := by
  have rr := r.append hd
  refine wpAny_call (codeAny_mono (F.goes X.A X.stack s H ⟨us, []⟩ (us ++ dfs) (vs ++ dvs) Q E room I.env0 (bind s us I.kIn (by rw [← rr.length, F.arity _ _ _ _ h])) rr h) fun z s' hz => ?_)
  match z, hz with
  | .error e, hz => exact hx pins σ H s e s' I hz
  | .ok (.ret u), hz => exact I.after hz
theorem pe_callG (F : FnG X.prog X.w X.K X.mg X.base CX k f fd ps sp) (room : RoomG k X.A) (hg : Gl X x) (hm : X.mg x = some (.ref f)) (hk : PySem.W.keepIn X.K (.ref f) = true) (bind : Binds X.K fd ps dfs) (hd : Vals dvs dfs) (hx : Passes CX X E) (ha : PA X (e :: es) t)
    (hdb : (x == ("__debug__" : Str)) = false := by decide) (he : starEach (e :: es) X.env = (false, eval e X.env) :: starEach es X.env := by rfl) (hpl : (backTo pos (starEach es X.env)).any (·.1) = false := by rfl) : PE X (.Call (.Name x p) (e :: es) [] pos) (tCall sp dvs E t) :=
  ⟨fun pins s σ H Q I h => wpAny_Call_Name_kw (ld_glob I hg hm (PySem.W.callWith_K (h₀ := X.base) I.ok.mod.kin hk (thn (ha.run pos pins s σ H _ I h) fun us s1 ⟨vs, H1, I1, r, q⟩ => ⟨I1.kIn, goes_fn F room bind hd hx I1 r q⟩) he hpl) hdb)⟩
theorem pe_callG0 (F : FnG X.prog X.w X.K X.mg X.base CX k f fd ps sp) (room : RoomG k X.A) (hg : Gl X x) (hm : X.mg x = some (.ref f)) (hk : PySem.W.keepIn X.K (.ref f) = true) (bind : Binds X.K fd ps dfs) (hd : Vals dvs dfs) (hx : Passes CX X E)
    (hdb : (x == ("__debug__" : Str)) = false := by decide) : PE X (.Call (.Name x p) [] [] pos) (tCall sp dvs E tNil) :=
  ⟨fun pins s σ H Q I h => wpAny_Call_Name_kw (ld_glob I hg hm (PySem.W.callWith_K0 I.kIn hk (goes_fn (us := []) F room bind hd hx I .nil h)) hdb)⟩
end

/-- the law's own def, at the top -/
theorem top_call {P : Program} {w : World} {K : PySem.W.Frag} {mg mb : Str → Option Value} {CX : CXT} {k : Nat} {fa a : Addr} {fd : FuncData} {x : Str} {sp : Sp} {t : Shared} {vs : List Value} {ns : List Int} (inK : K.In t.heap) (gl : t.heap.Ns mainGlobals mg)
    (bl : t.heap.Ns builtinsNs mb) (bb : ∀ x : Str, x ≠ "__name__" → mb x = bootBuiltins x) (nolim : t.heap.NoLimit) (gens : t.gens = #[]) (at_ : t.heap.get? a = some { cls := .type "list", data := .seq vs.toArray }) (iar : IntsAre vs ns) (few : ns.length ≤ sizeLine)
    (room : RoomG k callerA) (F : ∀ base : Heap, K.In base → base.Ns mainGlobals mg → FnG P w K mg base CX k fa fd [x] sp) (bind : ∀ (s : Shared) (u : Value), BindsTo s fd ⟨[u], []⟩ [(x, u)])
    (asked : ∀ H : Hp, Only H → SqL K H a (ns.map V.int) → sp [.ref a] H (fun v _ => v = .bl true) fun _ _ _ => False) (noex : ∀ H e s', CX [] H t (fun _ _ _ => False) e s' → False) :
    codeAny (model P w) callerA (.call (.ref fa) ⟨[.ref a], []⟩) (fun z s' => z = .ok (.ret (.bool true)) ∧ OldK t.heap s'.heap ∧ s'.os = t.os ∧ AllBare s'.gens) t := by
  let sc : HO := .frz { cls := .type "list", data := .seq vs.toArray } (.lst (ns.map V.int))
  obtain ⟨H, HE, HS⟩ : ∃ H : Hp, (∀ b, H b = none ∨ (b = a ∧ H b = some sc ∧ K.lookup a = none)) ∧ SqL K H a (ns.map V.int) := by
    cases q : K.lookup a with
    | some o =>
      have z := (inK a o q).symm.trans at_
      cases z
      exact ⟨fun _ => none, fun _ => .inl rfl, .inr ⟨_, vs.toArray, _, q, rfl, rfl, rfl, by rw [List.size_toArray, iar.length]; exact few, by simpa using vals_ints iar⟩⟩
    | none =>
      refine ⟨fun b => if b = a then some sc else none, fun b => ?_, .inl (.inr ⟨_, if_pos rfl⟩)⟩
      by_cases hb : b = a
      · exact .inr ⟨hb, if_pos hb, rfl⟩
      · exact .inl (if_neg hb)
  have only : Only H := fun b => (HE b).imp id fun h => ⟨_, _, h.2.1⟩
  have hok : HOk P w H t.heap := fun b o e => by
    rcases HE b with z | ⟨rfl, z, _⟩
    · rw [z] at e; cases e
    · rw [z] at e; cases e
      exact ⟨at_, by rw [List.length_map]; exact few, vs, _, vals_ints iar, at_⟩
  have nsOf : ∀ {b : Addr} {m : Str → Option Value}, t.heap.Ns b m → (hidT t.heap H).Ns b m := fun {b m} ⟨o, es, ep, e, d, r⟩ => by
    refine ⟨o, es, ep, hidT_get e ?_, d, r⟩
    rcases HE b with z | ⟨rfl, z, _⟩
    · exact z
    · rw [at_] at e; cases e
      cases (show Data.seq vs.toArray _ = Data.dict es ep from d)
  have kB : K.In (hidT t.heap H) := fun b o e => hidT_get (inK b o e) (by
    rcases HE b with z | ⟨rfl, z, q⟩
    · exact z
    · rw [q] at e; cases e)
  obtain ⟨ml, l1, l2⟩ := nolim
  have M : Mod K mg (hidT t.heap H) := ⟨kB, nsOf gl, ⟨mb, nsOf bl, bb⟩, ⟨ml, nsOf l1, l2⟩⟩
  have e0 : Env0 P w K mg (hidT t.heap H) callerA [] t H := ⟨rfl, M, fun b o e => of_hidT e, Nat.le_of_eq (hidT_size _ _), trivial, fun b hb => absurd hb List.not_mem_nil, hok, .of_eq gens⟩
  refine codeAny_mono ((F _ kB (nsOf gl)).goes callerA [] t H ⟨[.ref a], []⟩ [.ref a] [.ref a] _ _ room e0 (bind t (.ref a)) (.cons rfl .nil) (asked H only HS)) fun z s' h => ?_
  match z, h with
  | .error e, h => exact (noex H e s' h).elim
  | .ok (.ret u), h =>
    obtain ⟨v, H', os, bare, un, hok', rv, q⟩ := h
    have q : v = .bl true := q
    subst q
    obtain rfl : u = Value.bool true := rv
    refine ⟨rfl, OldK.of_keep fun b o e => ?_, os, bare⟩
    rcases HE b with z | ⟨rfl, z, _⟩
    · exact un.keep b o e z (fun y => absurd (show b ∈ ([] : List Addr) from y) List.not_mem_nil) List.not_mem_nil
    · rw [at_] at e
      cases e
      exact (hok' b _ (un.frzs b _ _ z)).1
theorem walk_ofG {l : PySem.W.OpenLaw} {n k : Nat} {q : Program} {loose : List Str} {XP : (Str → Option Value) → Heap → Prop} {YP : World → Heap → Prop} {d : DefRec} {K : Params → PySem.W.Frag} {sp : PySem.W.Frag → Sp} {x : Str} (hn : l.most = some n) (hn2 : n ≤ sizeLine) (hdf : d.params.defaults = [])
    (room : RoomG k callerA) (hY : ∀ (w : World) (h : Heap), YP w h → (K w.params).In h)
    (F : ∀ (w : World) (mg : Str → Option Value) (fa : Addr) (h : Heap), (K w.params).In h → h.Ns mainGlobals mg → mg d.name = some (.ref fa) → ∃ fd : FuncData, (∀ (s : Shared) (u : Value), BindsTo s fd ⟨[u], []⟩ [(x, u)]) ∧
      ∀ base : Heap, (K w.params).In base → base.Ns mainGlobals mg → FnG l.prog w (K w.params) mg base CX0 k fa fd [x] (sp (K w.params)))
    (asked : ∀ (K : PySem.W.Frag) (H : Hp) (a : Addr) (ns : List Int), ns.length ≤ n → Only H → SqL K H a (ns.map V.int) → sp K [.ref a] H (fun v _ => v = .bl true) fun _ _ _ => False) :
    PySem.W.WalkO q loose XP YP l.row.toRowW d [] (fun f vs => PySem.call f vs) :=
  Att.attach_call hn hdf fun w s₀ t mg mb fa o pm cd doc a vs ns G Y ho hd hcd hmg hobj hints hlen hg => by
    obtain ⟨fd, hb, hF⟩ := F w mg fa _ (hY w _ Y) G.T.g hmg
    exact top_call (hY w _ Y) G.T.g G.T.b G.T.builtins G.T.nolimit hg hobj hints (Nat.le_trans hlen hn2) room hF hb (fun H h1 h2 => asked _ H a ns hlen h1 h2) fun H e s' h => h
end DL

set_option Elab.async false
set_option linter.all false
set_option maxRecDepth 100000
namespace DL
open PySem PySem.Spec PyProof.Rows L2

/-! ### calls of what is built in -/
abbrev G1 := List D → Mu → DK → Prop
def CallI (K : PySem.W.Frag) (r : List V → Hp → VK → Prop) (g : G1) : Prop := ∀ vs ds m H Q R, RS K m H → Rps K m H ds vs → g ds m Q → CoE K m H Q R → r vs H R
def dCB (g : G1) (ta : DTA) : DTE := fun e m Q => ta e m fun ds m1 => g ds m1 Q
section
variable {X : Cx} {K : PySem.W.Frag} {x : Str} {p pos : Pos} {e : Expr} {es : List Expr} {ta : DTA} {id T : String} {r : List V → Hp → VK → Prop} {g : G1}
theorem cb_imp (hi : CallI K r g) : ∀ s H R, lE K (dCB g ta) s H R → tCB r (lA K ta) s H R := by
  rintro s H R ⟨e, m, Q, sl, rs, t, c⟩
  exact ⟨e, m, _, sl, rs, t, fun vs H1 ds m1 x1 rs1 r1 t1 => hi vs ds m1 H1 Q R rs1 r1 t1 (c.from x1)⟩
theorem de_callB (hc : CallR X (.builtin id) r) (hi : CallI X.K r g) (hg : Gl X x) (hm : X.mg x = none) (hv : bootBuiltins x = some (.builtin id)) (ha : DA X (e :: es) ta) (hn : x ≠ "__name__" := by decide) (hdb : (x == ("__debug__" : Str)) = false := by decide)
    (he : starEach (e :: es) X.env = (false, eval e X.env) :: starEach es X.env := by rfl) (hpl : (backTo pos (starEach es X.env)).any (·.1) = false := by rfl) : DE X (.Call (.Name x p) (e :: es) [] pos) (dCB g ta) :=
  (pe_callB hc hg hm hv ha hn hdb he hpl).imp (cb_imp hi)
theorem de_callTy (hc : CallR X (.type T) r) (hi : CallI X.K r g) (hg : Gl X x) (hm : X.mg x = none) (hv : bootBuiltins x = some (.type T)) (ha : DA X (e :: es) ta) (hn : x ≠ "__name__" := by decide) (hdb : (x == ("__debug__" : Str)) = false := by decide)
    (he : starEach (e :: es) X.env = (false, eval e X.env) :: starEach es X.env := by rfl) (hpl : (backTo pos (starEach es X.env)).any (·.1) = false := by rfl) : DE X (.Call (.Name x p) (e :: es) [] pos) (dCB g ta) :=
  (pe_callTy hc hg hm hv ha hn hdb he hpl).imp (cb_imp hi)
end
section
variable {X : Cx} {K : PySem.W.Frag} {m : Mu} {H : Hp}
theorem Rps1 {d : D} {vs : List V} (h : Rps K m H [d] vs) : ∃ v, vs = [v] ∧ Rp K m H d v := by
  obtain ⟨v, r, rfl, h2, h3⟩ := h
  have h3 : r = [] := h3
  subst h3
  exact ⟨v, rfl, h2⟩
theorem Rps2 {d e : D} {vs : List V} (h : Rps K m H [d, e] vs) : ∃ v u, vs = [v, u] ∧ Rp K m H d v ∧ Rp K m H e u := by
  obtain ⟨v, r, rfl, h2, h3⟩ := h
  obtain ⟨u, rfl, h4⟩ := Rps1 h3
  exact ⟨v, u, rfl, h2, h4⟩
/-- of one argument -/
def g1 (f : D → Mu → DK → Prop) : G1 := fun ds m Q => match ds with
  | [d] => f d m Q
  | _ => False
theorem g1_at {f : D → Mu → DK → Prop} {ds : List D} {vs : List V} {Q : DK} (q : g1 f ds m Q) (r : Rps K m H ds vs) : ∃ d v, vs = [v] ∧ Rp K m H d v ∧ f d m Q := by
  match ds, q, r with
  | [d], q, r =>
    obtain ⟨v, e, h⟩ := Rps1 r
    exact ⟨d, v, e, h, q⟩
/-- len -/
def gLen1 : D → Mu → DK → Prop := fun d m Q => match d with
  | .str z => z.length ≤ sizeLine ∧ Q (.int (z.length : Nat)) m
  | d => match sq m d with
    | some xs => Q (.int (xs.length : Nat)) m
    | none => False
def gLen : G1 := g1 gLen1
theorem lenQ {d : D} {v : V} {Q : DK} {R : VK} (rs : RS K m H) (r : Rp K m H d v) (q : match sq m d with
    | some xs => Q (.int (xs.length : Nat)) m
    | none => False) (c : CoE K m H Q R) : ∃ x n, [v] = [x] ∧ LenV K x H n ∧ R (.int n) H := by
  split at q
  · rename_i xs hs
    obtain ⟨a, ys, rfl, h2, h3⟩ := sq_at rs r hs
    refine ⟨_, xs.length, rfl, ?_, c (.int _) H (.int _) m (Ext.refl _ _) rs rfl q⟩
    rcases h2 with h2 | h2
    · exact .inl ⟨ys, h2, h3.length.symm⟩
    · exact .inr ⟨ys, h2, h3.length.symm⟩
  · exact q.elim
theorem i_len : CallI K (fun xs H Q => ∃ x n, xs = [x] ∧ LenV K x H n ∧ Q (.int n) H) gLen := fun vs ds m H Q R rs rv q c => by
  obtain ⟨d, v, rfl, r, q⟩ := g1_at q rv
  cases d with
  | str z =>
    have r : v = .str z := r
    subst r
    exact ⟨_, z.length, rfl, ⟨q.1, rfl⟩, c (.int _) H (.int _) m (Ext.refl _ _) rs rfl q.2⟩
  | _ => exact lenQ rs r q c
/-- isinstance -/
def kindD (m : Mu) : D → String
  | .non => "NoneType"
  | .bl _ => "bool"
  | .int _ => "int"
  | .str _ => "str"
  | .tup _ => "tuple"
  | .lst _ => "list"
  | .ref a => match m a with
    | some (.lst _) => "list"
    | _ => "?"
  | .oth _ => "?"
  | .scr _ => "?"
def isiB (k n : String) : Bool := k == n || (k == "bool" && n == "int")
def isiOk (k n : String) : Bool := ["NoneType", "bool", "int", "str", "tuple", "list"].contains k && ["bool", "int", "str", "tuple", "list"].contains n
theorem kit_isi {k n : String} (h : isiOk k n = true) : kitB k n = some (isiB k n) := by
  have all : ∀ k ∈ ["NoneType", "bool", "int", "str", "tuple", "list"], ∀ n ∈ ["bool", "int", "str", "tuple", "list"], kitB k n = some (isiB k n) := by decide +kernel
  unfold isiOk at h
  rw [Bool.and_eq_true, List.contains_iff_mem, List.contains_iff_mem] at h
  exact all k h.1 n h.2
theorem tyX_of {d : D} {v : V} (rs : RS K m H) (r : Rp K m H d v) (h : kindD m d ≠ "?") : TyX K H v (.type (kindD m d)) := by
  cases d with
  | non => have r : v = .non := r; subst r; exact .base .non
  | bl b => have r : v = .bl b := r; subst r; exact .base (.bl _)
  | int i => have r : v = .int i := r; subst r; exact .base (.int _)
  | str z => have r : v = .str z := r; subst r; exact .base (.str _)
  | tup ds =>
    obtain ⟨a, xs, rfl, h2 | h2, _⟩ := r
    · exact .base (.tup h2.2)
    · obtain ⟨o, its, n, e, c, _⟩ := h2
      exact .kTuple e c
  | lst ds =>
    obtain ⟨a, xs, rfl, h2, _⟩ := r
    exact .base (.lst h2.2)
  | ref a =>
    have r : v = .ref a := r
    subst r
    simp only [kindD] at h ⊢
    split at h
    · rename_i ds q
      obtain ⟨xs, h1, _⟩ := rs a _ q
      exact .base (.lst h1)
    · exact absurd rfl h
  | oth u => exact absurd rfl h
  | scr ns => exact absurd rfl h
def gIsi : G1 := fun ds m Q => match ds with
  | [d, .oth (.ty n)] => isiOk (kindD m d) n = true ∧ Q (.bl (isiB (kindD m d) n)) m
  | [d, .tup [.oth (.ty n), .oth (.ty n')]] => isiOk (kindD m d) n = true ∧ isiOk (kindD m d) n' = true ∧ Q (.bl (isiB (kindD m d) n || isiB (kindD m d) n')) m
  | _ => False
theorem CallR.or {f : Value} {r r' : List V → Hp → VK → Prop} (h : CallR X f r) (h' : CallR X f r') : CallR X f (fun xs H Q => r xs H Q ∨ r' xs H Q) := fun pins s σ H xs us Q I rv q => by
  rcases q with q | q
  · exact h pins s σ H xs us Q I rv q
  · exact h' pins s σ H xs us Q I rv q
theorem isiOk_ne {k n : String} (h : isiOk k n = true) : k ≠ "?" := fun e => by
  subst e
  simp [isiOk] at h
def rIsiA (K : PySem.W.Frag) : List V → Hp → VK → Prop := fun xs H Q => (rIsi K xs H Q ∨ rIsiT K xs H Q) ∨ rIsiK K xs H Q
theorem call_isiA : CallR X (.builtin "isinstance") (rIsiA X.K) := (call_isi.or call_isiT).or call_isiK
theorem i_isi : CallI K (rIsiA K) gIsi := fun vs ds m H Q R rs rv q c => by
  unfold gIsi at q
  split at q
  · rename_i d n
    obtain ⟨v, u, rfl, r1, r2⟩ := Rps2 rv
    have r2 : u = .ty n := r2
    subst r2
    exact .inl (.inl ⟨v, _, _, _, _, rfl, .ty n, tyX_of rs r1 (isiOk_ne q.1), kit_ty (kit_isi q.1), c (.bl _) H (.bl _) m (Ext.refl _ _) rs rfl q.2⟩)
  · rename_i d n n'
    obtain ⟨v, u, rfl, r1, r2⟩ := Rps2 rv
    obtain ⟨a, xs, rfl, h2, h3⟩ := r2
    obtain ⟨x, y, rfl, h4, h5⟩ := Rps2 h3
    have h4 : x = .ty n := h4
    have h5 : y = .ty n' := h5
    subst h4 h5
    have key : PySem.W.kitAny K (.type (kindD m d)) [.type n, .type n'] = some (isiB (kindD m d) n || isiB (kindD m d) n') := by
      refine kitAny_cons (kit_ty (kit_isi q.1)) (fun e => ?_) fun e => by rw [e]; rfl
      rw [e]
      refine kitAny_cons (kit_ty (kit_isi q.2.1)) (fun e' => ?_) fun e' => by rw [e']; rfl
      rw [e']
      exact kitAny_nil
    have fin := c (.bl _) H (.bl _) m (Ext.refl _ _) rs rfl q.2.2
    rcases h2 with h2 | ⟨o, its, k, e, cc, dd, _, rr⟩
    · exact .inl (.inr ⟨v, a, _, _, [.type n, .type n'], _, rfl, h2.2, .cons (.ty n) (.cons (.ty n') .nil), tyX_of rs r1 (isiOk_ne q.1), key, fin⟩)
    · obtain ⟨oc, od, odt, osl⟩ := o
      simp only at cc dd
      subst cc dd
      have e2 : its.toList = [.type n, .type n'] := by
        generalize its.toList = l at rr
        cases rr with
        | cons a1 a2 =>
          cases a2 with
          | cons b1 b2 =>
            cases b2
            rw [show _ = Value.type n from a1, show _ = Value.type n' from b1]
      have e3 : its = #[.type n, .type n'] := by
        rw [← e2]
      subst e3
      exact .inr ⟨v, a, od, [.type n, .type n'], k, osl, _, _, rfl, e, tyX_of rs r1 (isiOk_ne q.1), key, fin⟩
  · exact q.elim

/-! ### repr, list, tuple, all, ord, str, int -/
/-- what may be shown -/
def showP (d : PyData) : Prop := d.showable = true ∧ d.hasDict = false ∧ d.depth ≤ 64 ∧ d.shown.length ≤ sizeLine
def pyv (m : Mu) : D → Option PyData
  | .ref a => match m a with
    | some (.lst ds) => if pus ds then some (.list (pys ds)) else none
    | _ => none
  | d => if d.pu then some d.py else none
theorem pyv_dp {d : D} {v : V} {p : PyData} (rs : RS K m H) (r : Rp K m H d v) (h : pyv m d = some p) : Dp K H v p := by
  cases d with
  | ref a =>
    have r : v = .ref a := r
    subst r
    simp only [pyv] at h
    split at h
    · rename_i ds q
      split at h
      · rename_i hp
        cases h
        obtain ⟨xs, h1, h2⟩ := rs a _ q
        exact .lst (SqL.of h1) (Rps.dp ds xs hp h2)
      · cases h
    · cases h
  | _ =>
    simp only [pyv] at h
    split at h
    · rename_i hp
      cases h
      exact Rp.dp _ _ hp r
    · cases h
def gRepr1 : D → Mu → DK → Prop := fun d m Q => match pyv m d with
  | some p => showP p ∧ Q (.str p.shown) m
  | none => False
def gRepr : G1 := g1 gRepr1
def rRepr (K : PySem.W.Frag) : List V → Hp → VK → Prop := fun xs H Q => ∃ x p, xs = [x] ∧ Dp K H x p ∧ showP p ∧ Q (.str p.shown) H
theorem call_repr (hg : X.A.guards = some []) (hu : X.A.units + 65 < cLine) : CallR X (.builtin "repr") (rRepr X.K) := by
  intro pins s σ H xs us Q I rv h
  obtain ⟨x, p, rfl, hd, ⟨s1, s2, s3, s4⟩, q⟩ := h
  obtain ⟨u, rfl, ru⟩ := vals1 rv
  obtain ⟨as, rd⟩ := Dp.reads I p x u hd ru
  cases rd with
  | none => exact PySem.P.repr_of_none ⟨.str _, H, I.tok _, ⟨_, rfl⟩, q⟩
  | bool b => exact PySem.P.repr_of_bool ⟨.str _, H, I.tok _, ⟨_, rfl⟩, q⟩
  | int i t => exact PySem.P.repr_of_int (by simpa [PyData.showable] using s1) ⟨.str _, H, I.tok _, ⟨_, rfl⟩, q⟩
  | str z t => exact PySem.P.repr_of_str ⟨.str _, H, I.tok _, ⟨_, rfl⟩, q⟩ s4
  | list a1 a2 a3 a4 => exact repr_of_reads' (.list a1 a2 a3 a4) s1 (PyData.noDict_hsm s2) hg (by omega) (fun _ _ e => e) (fun h' u tk hk => ⟨.str _, H, I.kept hk, ⟨_, rfl⟩, q⟩) s4
  | tuple a1 a2 a3 a4 => exact repr_of_reads' (.tuple a1 a2 a3 a4) s1 (PyData.noDict_hsm s2) hg (by omega) (fun _ _ e => e) (fun h' u tk hk => ⟨.str _, H, I.kept hk, ⟨_, rfl⟩, q⟩) s4
  | dict a1 a2 a3 a4 a5 => simp [PyData.hasDict] at s2
theorem i_repr : CallI K (rRepr K) gRepr := fun vs ds m H Q R rs rv q c => by
  obtain ⟨d, v, rfl, r, q⟩ := g1_at q rv
  unfold gRepr1 at q
  split at q
  · rename_i p hp
    exact ⟨v, p, rfl, pyv_dp rs r hp, q.1, c (.str _) H (.str _) m (Ext.refl _ _) rs rfl q.2⟩
  · exact q.elim
/-- list(x): a frozen one -/
def gList1 : D → Mu → DK → Prop := fun d m Q => match sq m d with
  | some ds => Q (.lst ds) m
  | none => False
theorem i_list : CallI K (fun xs H Q => ∃ p ys, xs = [.ref p] ∧ (SqL K H p ys ∨ SqT K H p ys) ∧ ∀ l, H l = none → Q (.ref l) (upd H l (.lst ys))) (g1 gList1) := fun vs ds m H Q R rs rv q c => by
  obtain ⟨d, v, rfl, r, q⟩ := g1_at q rv
  unfold gList1 at q
  split at q
  · rename_i ds hs
    obtain ⟨a, ys, rfl, h2, h3⟩ := sq_at rs r hs
    exact ⟨a, ys, rfl, h2, fun l hl => laidL hl rs h3 q c⟩
  · exact q.elim
def gTuple1 : D → Mu → DK → Prop := fun d m Q => match sq m d with
  | some ds => Q (.tup ds) m
  | none => False
theorem i_tuple : CallI K (fun xs H Q => ∃ p ys, xs = [.ref p] ∧ ((SqL K H p ys ∧ ∀ l, H l = none → Q (.ref l) (upd H l (.tup ys))) ∨ (SqT K H p ys ∧ Q (.ref p) H))) (g1 gTuple1) := fun vs ds m H Q R rs rv q c => by
  obtain ⟨d, v, rfl, r, q⟩ := g1_at q rv
  unfold gTuple1 at q
  split at q
  · rename_i ds hs
    cases d with
    | tup es =>
      cases hs
      have r' := r
      obtain ⟨a, xs, rfl, h2, h3⟩ := Rp_tup r
      exact ⟨a, xs, rfl, .inr ⟨h2, c _ H (.tup ds) m (Ext.refl _ _) rs r' q⟩⟩
    | lst es =>
      obtain ⟨a, ys, rfl, h2, h3⟩ := lv_at rs r hs
      exact ⟨a, ys, rfl, .inl ⟨SqL.of h2, fun l hl => laidT hl rs h3 q c⟩⟩
    | ref b =>
      obtain ⟨a, ys, rfl, h2, h3⟩ := lv_at rs r hs
      exact ⟨a, ys, rfl, .inl ⟨SqL.of h2, fun l hl => laidT hl rs h3 q c⟩⟩
    | _ => cases hs
  · exact q.elim
/-- all of a list of truths -/
def blsD : List D → Option (List Bool)
  | [] => some []
  | .bl b :: ds => (blsD ds).map (b :: ·)
  | _ :: _ => none
theorem bls_of : ∀ {ds : List D} {xs : List V} {bs : List Bool}, Rps K m H ds xs → blsD ds = some bs → xs = bs.map V.bl
  | [], _, _, h, e => by cases e; exact h
  | d :: ds, _, bs, h, e => by
    obtain ⟨x, r, rfl, h2, h3⟩ := h
    cases d <;> simp only [blsD] at e <;> try (cases e)
    rename_i b
    cases hb : blsD ds with
    | none => rw [hb] at e; cases e
    | some cs =>
      rw [hb] at e
      cases e
      have h2 : x = .bl b := h2
      rw [h2, bls_of h3 hb]
      rfl
def gAll1 : D → Mu → DK → Prop := fun d m Q => match lv m d with
  | some ds => (match blsD ds with
    | some bs => Q (.bl (bs.all id)) m
    | none => False)
  | none => False
theorem i_all : CallI K (rAll K) (g1 gAll1) := fun vs ds m H Q R rs rv q c => by
  obtain ⟨d, v, rfl, r, q⟩ := g1_at q rv
  unfold gAll1 at q
  split at q
  · rename_i ds hs
    split at q
    · rename_i bs hb
      obtain ⟨a, ys, rfl, h2, h3⟩ := lv_at rs r hs
      exact ⟨a, bs, rfl, by rw [← bls_of h3 hb]; exact SqL.of h2, c (.bl _) H (.bl _) m (Ext.refl _ _) rs rfl q⟩
    · exact q.elim
  · exact q.elim
def gOrd1 : D → Mu → DK → Prop := fun d m Q => match d with
  | .str z => z.length = 1 ∧ Q (.int (z.cps.getD 0 0 : Nat)) m
  | _ => False
theorem i_ord : CallI K (fun xs H Q => ∃ x, xs = [.str x] ∧ x.length = 1 ∧ Q (.int (x.cps.getD 0 0 : Nat)) H) (g1 gOrd1) := fun vs ds m H Q R rs rv q c => by
  obtain ⟨d, v, rfl, r, q⟩ := g1_at q rv
  cases d with
  | str z => exact ⟨z, by rw [show v = .str z from r], q.1, c (.int _) H (.int _) m (Ext.refl _ _) rs rfl q.2⟩
  | _ => exact q.elim
def gStr1 : D → Mu → DK → Prop := fun d m Q => match d with
  | .int i => i.natAbs.log2 < 1920 ∧ Q (.str (toString i)) m
  | .bl b => Q (.str (if b then "True" else "False")) m
  | _ => False
def rStr1 : List V → Hp → VK → Prop := fun xs H Q => (∃ i, xs = [.int i] ∧ i.natAbs.log2 < 1920 ∧ Q (.str (toString i)) H) ∨ ∃ b, xs = [.bl b] ∧ Q (.str (if b then "True" else "False")) H
theorem call_str_bl : CallR X (.type "str") (fun xs H Q => ∃ b, xs = [.bl b] ∧ Q (.str (if b then "True" else "False")) H) := by
  intro pins s σ H xs us Q I rv h
  obtain ⟨b, rfl, q⟩ := h
  obtain ⟨u, rfl, ru⟩ := vals1 rv
  cases (show u = Value.bool b from ru)
  exact PySem.P.str_of_bool ⟨.str _, H, I.tok _, ⟨_, rfl⟩, q⟩
theorem call_strA : CallR X (.type "str") rStr1 := call_str_int.or call_str_bl
theorem i_str : CallI K rStr1 (g1 gStr1) := fun vs ds m H Q R rs rv q c => by
  obtain ⟨d, v, rfl, r, q⟩ := g1_at q rv
  cases d with
  | int z => exact .inl ⟨z, by rw [show v = .int z from r], q.1, c (.str _) H (.str _) m (Ext.refl _ _) rs rfl q.2⟩
  | bl z => exact .inr ⟨z, by rw [show v = .bl z from r], c (.str _) H (.str _) m (Ext.refl _ _) rs rfl q⟩
  | _ => exact q.elim
def gInt1 : D → Mu → DK → Prop := fun d m Q => match d with
  | .int i => Q (.int i) m
  | .bl b => Q (.int (if b then 1 else 0)) m
  | _ => False
theorem i_intc : CallI K (fun xs H Q => (∃ i, xs = [.int i] ∧ Q (.int i) H) ∨ ∃ k, xs = [.bl k] ∧ Q (.int (if k then 1 else 0)) H) (g1 gInt1) := fun vs ds m H Q R rs rv q c => by
  obtain ⟨d, v, rfl, r, q⟩ := g1_at q rv
  cases d with
  | int z => exact .inl ⟨z, by rw [show v = .int z from r], c (.int _) H (.int _) m (Ext.refl _ _) rs rfl q⟩
  | bl z => exact .inr ⟨z, by rw [show v = .bl z from r], c (.int _) H (.int _) m (Ext.refl _ _) rs rfl q⟩
  | _ => exact q.elim
end
end DL

set_option Elab.async false
set_option linter.all false
set_option maxRecDepth 100000
namespace DL
open PySem PySem.Spec PyProof.Rows L2

/-! ### methods of lists -/
def mlv (m : Mu) : D → Option (Addr × List D)
  | .ref a => match m a with
    | some (.lst ds) => some (a, ds)
    | _ => none
  | _ => none
section
variable {X : Cx} {K : PySem.W.Frag}
theorem mlv_at {m : Mu} {H : Hp} {d : D} {v : V} {a : Addr} {ds : List D} (rs : RS K m H) (r : Rp K m H d v) (h : mlv m d = some (a, ds)) : v = .ref a ∧ m a = some (.lst ds) ∧ ∃ xs, H a = some (.lst xs) ∧ Rps K m H ds xs := by
  cases d with
  | ref b =>
    simp only [mlv] at h
    split at h
    · rename_i es q
      cases h
      obtain ⟨xs, h1, h2⟩ := rs _ _ q
      exact ⟨r, q, xs, h1, h2⟩
    · cases h
  | _ => cases h
theorem mlv_ty {m : Mu} {H : Hp} {d : D} {v : V} (rs : RS K m H) (r : Rp K m H d v) (h : (mlv m d).isSome = true) : tyV K "list" v H := by
  obtain ⟨⟨a, ds⟩, q⟩ := Option.isSome_iff_exists.mp h
  obtain ⟨rfl, _, xs, h1, _⟩ := mlv_at rs r q
  exact .inl ⟨rfl, xs, SqL.of h1⟩
/-! a method of what is built in -/
abbrev GM := D → List D → Mu → DK → Prop
def MtI (K : PySem.W.Frag) (r : V → List V → Hp → VK → Prop) (g : GM) : Prop := ∀ x vs d ds m H Q R, RS K m H → Rp K m H d x → Rps K m H ds vs → g d ds m Q → CoE K m H Q R → r x vs H R
def TyI (K : PySem.W.Frag) (T : String) (ok : D → Mu → Prop) : Prop := ∀ d v m H, RS K m H → Rp K m H d v → ok d m → tyV K T v H
def dMt (ok : D → Mu → Prop) (g : GM) (to : DTE) (ta : DTA) : DTE := fun e m Q => to e m fun o m1 => ok o m1 ∧ ta e m1 fun ys m2 => g o ys m2 Q
def dMt0 (ok : D → Mu → Prop) (g : GM) (to : DTE) : DTE := fun e m Q => to e m fun o m1 => ok o m1 ∧ g o [] m1 Q
section
variable {o a : Expr} {es : List Expr} {to : DTE} {ta : DTA} {apos cpos : Pos} {T id : String} {name : Str} {r : V → List V → Hp → VK → Prop} {g : GM} {ok : D → Mu → Prop}
theorem de_mt (pa : PlainAttrs T) (slot : Slot T name id) (hty : typeOf (.builtin id) = pure (.type "method_descriptor")) (hm : MtR X id r) (ty : TyI X.K T ok) (hi : MtI X.K r g) (ho : DE X o to) (ha : DA X (a :: es) ta) (hbase : attributeBase o name X.env (eval o X.env) = eval o X.env := by rfl)
    (hfew : ((backTo cpos (starEach (a :: es) X.env)).all (fun x => !x.1) && (backToKw cpos (keywordEach [] X.env)).all (fun x => x.1.isSome) && decide ((a :: es).length + ([] : List Keyword).length + (if ([] : List Keyword).isEmpty then 0 else 1) < 30)) = true := by rfl)
    (hline : (apos.endLine == cpos.line) = true := by rfl) (hs : starEach (a :: es) X.env = (false, eval a X.env) :: starEach es X.env := by rfl) (hplain : (backTo cpos (starEach es X.env)).any (·.1) = false := by rfl) :
    DE X (.Call (.Attribute o name apos) (a :: es) [] cpos) (dMt ok g to ta) :=
  (pe_bm pa slot hty hm ho ha hbase hfew hline hs hplain).imp fun s H R ⟨e, m, Q, sl, rs, t, c⟩ =>
    ⟨e, m, _, sl, rs, t, fun v H1 o1 m1 x1 rs1 r1 ⟨t0, t1⟩ => ⟨ty _ _ _ _ rs1 r1 t0, e, m1, _, sl.mono x1, rs1, t1, fun us H2 ys m2 x2 rs2 r2 t2 => hi v us o1 ys m2 H2 Q R rs2 (Rp.mono x2 _ _ r1) r2 t2 ((c.from x1).from x2)⟩⟩
theorem de_mt0 (pa : PlainAttrs T) (slot : Slot T name id) (hty : typeOf (.builtin id) = pure (.type "method_descriptor")) (hm : MtR X id r) (ty : TyI X.K T ok) (hi : MtI X.K r g) (ho : DE X o to) (hbase : attributeBase o name X.env (eval o X.env) = eval o X.env := by rfl)
    (hline : (apos.endLine == cpos.line) = true := by rfl) : DE X (.Call (.Attribute o name apos) [] [] cpos) (dMt0 ok g to) :=
  (pe_bm0 pa slot hty hm ho hbase hline).imp fun s H R ⟨e, m, Q, sl, rs, t, c⟩ =>
    ⟨e, m, _, sl, rs, t, fun v H1 o1 m1 x1 rs1 r1 ⟨t0, t1⟩ => ⟨ty _ _ _ _ rs1 r1 t0, hi v [] o1 [] m1 H1 Q R rs1 r1 rfl t1 (c.from x1)⟩⟩
end
def okM (d : D) (m : Mu) : Prop := (mlv m d).isSome = true
def okL (d : D) (m : Mu) : Prop := (lv m d).isSome = true
def okS (d : D) (_ : Mu) : Prop := ∃ z, d = .str z
theorem ty_M : TyI K "list" okM := fun d v m H rs r h => mlv_ty rs r h
theorem ty_L : TyI K "list" okL := fun d v m H rs r h => by
  obtain ⟨ds, q⟩ := Option.isSome_iff_exists.mp h
  obtain ⟨a, xs, rfl, h1, _⟩ := lv_at rs r q
  exact .inl ⟨rfl, xs, SqL.of h1⟩
theorem ty_S : TyI K "str" okS := fun d v m H rs r ⟨z, e⟩ => by
  subst e
  have r : v = .str z := r
  subst r
  rfl
/-- o.append(e) -/
def gAppend : GM := fun o ys m Q => match mlv m o, ys with
  | some (a, ds), [y] => ds.length < sizeLine ∧ Q .non (mset m a (.lst (ds ++ [y])))
  | _, _ => False
theorem i_append : MtI K rAppend gAppend := fun x vs d ds m H Q R rs rx rv q c => by
  unfold gAppend at q
  split at q
  · rename_i a es y hm
    obtain ⟨rfl, hq, xs, h1, h2⟩ := mlv_at rs rx hm
    obtain ⟨u, rfl, h3⟩ := Rps1 rv
    refine ⟨a, xs, u, rfl, rfl, h1, by rw [h2.length]; exact q.1, ?_⟩
    have w : Ext m H (mset m a (.lst (es ++ [y]))) (upd H a (.lst (xs ++ [u]))) := Ext.write hq
    exact c .non _ .non _ w (rs.write hq ⟨_, upd_same, Rps.mono w _ _ (h2.app (Rps.cons h3 Rps.nil))⟩) rfl q.2
  · exact q.elim
/-- o.extend(e), e a list -/
def gExtend : GM := fun o ys m Q => match mlv m o, ys with
  | some (a, ds), [y] => (match lv m y with
    | some es => ds.length + es.length ≤ sizeLine ∧ Q .non (mset m a (.lst (ds ++ es)))
    | none => False)
  | _, _ => False
theorem i_extend : MtI K rExtend gExtend := fun x vs d ds m H Q R rs rx rv q c => by
  unfold gExtend at q
  split at q
  · rename_i a es y hm
    split at q
    · rename_i zs hz
      obtain ⟨rfl, hq, xs, h1, h2⟩ := mlv_at rs rx hm
      obtain ⟨u, rfl, h3⟩ := Rps1 rv
      obtain ⟨b, us, rfl, h4, h5⟩ := lv_at rs h3 hz
      refine ⟨a, b, xs, us, rfl, rfl, h1, h4, by rw [h2.length, h5.length]; exact q.1, ?_⟩
      have w : Ext m H (mset m a (.lst (es ++ zs))) (upd H a (.lst (xs ++ us))) := Ext.write hq
      exact c .non _ .non _ w (rs.write hq ⟨_, upd_same, Rps.mono w _ _ (h2.app h5)⟩) rfl q.2
    · exact q.elim
  · exact q.elim
/-- s.upper() -/
def gUpper : GM := fun o ys m Q => match o with
  | .str a => a.length ≤ 5592405 ∧ ys.length = 0 ∧ Q (.str (Txt.upper a)) m
  | _ => False
theorem i_upper : MtI K (fun x xs H Q => ∃ a, x = .str a ∧ xs = [] ∧ a.length ≤ 5592405 ∧ Q (.str (Txt.upper a)) H) gUpper := fun x vs d ds m H Q R rs rx rv q c => by
  cases d with
  | str a =>
    have l := rv.length
    exact ⟨a, rx, List.eq_nil_of_length_eq_zero (l.trans q.2.1), q.1, c (.str _) H (.str _) m (Ext.refl _ _) rs rfl q.2.2⟩
  | _ => exact q.elim

/-! ### statements -/
def dNext : DTS := fun D => D.nx
def dSeq (t u : DTS) : DTS := fun D e m => t { D with nx := u D } e m
section
variable {st : Stmt} {rest : List Stmt} {t u : DTS} {pos : Pos} {ex : Expr} {te : DTE}
theorem dss_nil : DSs X [] dNext := pss_nil.imp fun E s H ⟨e, m, D, sl, rs, t, c⟩ => c.nx s H e m (Ext.refl _ _) rs sl t
theorem dss_cons (h1 : DS X st t) (h2 : DSs X rest u) : DSs X (st :: rest) (dSeq t u) :=
  (pss_cons h1 h2).imp fun E s H ⟨e, m, D, sl, rs, t, c⟩ => ⟨e, m, { D with nx := u D }, sl, rs, t, ⟨fun s1 H1 e1 m1 x1 rs1 sl1 t1 => ⟨e1, m1, D, sl1, rs1, t1, c.from x1⟩, c.rt, c.bk, c.ct⟩⟩
theorem dss_one (h1 : DS X st t) : DSs X [st] t := pss_one h1
def dDrop (te : DTE) : DTS := fun D e m => te e m fun _ m1 => D.nx e m1
theorem ds_expr (he : DE X ex te) (hs : swapsWith ex none pos.line X.env = pure false := by rfl) : DS X (.Expr ex pos) (dDrop te) :=
  (ps_expr he hs).imp fun E s H ⟨e, m, D, sl, rs, t, c⟩ => ⟨e, m, _, sl, rs, t, fun v H1 d m1 x1 rs1 r1 t1 => c.nx s H1 e m1 x1 rs1 (sl.mono x1) t1⟩
def dRet (te : DTE) : DTS := fun D e m => te e m D.rt
theorem ds_ret (he : DE X ex te) : DS X (.Return (some ex) pos) (dRet te) :=
  (ps_ret he).imp fun E s H ⟨e, m, D, sl, rs, t, c⟩ => ⟨e, m, _, sl, rs, t, c.rt⟩
/-- return e, a list that shall change no more -/
def dRetF (te : DTE) : DTS := fun D e m => te e m fun d m1 => match mlv m1 d with
  | some (a, ds) => D.rt (.lst ds) (mdel m1 a)
  | none => False
theorem ds_retF (he : DE X ex te) : DS X (.Return (some ex) pos) (dRetF te) :=
  (ps_ret he).imp fun E s H ⟨e, m, D, sl, rs, t, c⟩ => ⟨e, m, _, sl, rs, t, fun v H1 d m1 x1 rs1 r1 t1 => by
    split at t1
    · rename_i a ds hm
      obtain ⟨rfl, hq, xs, h1, h2⟩ := mlv_at rs1 r1 hm
      exact c.rt (.ref a) H1 (.lst ds) _ (x1.trans Ext.freeze) (rs1.freeze) ⟨a, xs, rfl, ⟨mdel_same, h1⟩, Rps.mono Ext.freeze _ _ h2⟩ t1
    · exact t1.elim⟩
def dRetN : DTS := fun D _ m => D.rt .non m
theorem ds_retN : DS X (.Return none pos) dRetN := ps_retN.imp fun E s H ⟨e, m, D, sl, rs, t, c⟩ => c.rt .non H .non m (Ext.refl _ _) rs rfl t
def dIfS (c : DTT) (t u : DTS) : DTS := fun D e m => c e m fun k m1 => match k with
  | true => t D e m1
  | false => u D e m1
theorem ds_if {cn : Expr} {a b : List Stmt} {tc : DTT} (hc : DT X cn tc) (ha : DSs X a t) (hb : DSs X b u) : DS X (.If cn a b pos) (dIfS tc t u) :=
  (ps_if hc ha hb).imp fun E s H ⟨e, m, D, sl, rs, t, c⟩ => ⟨e, m, _, sl, rs, t, fun k H1 m1 x1 rs1 t1 => by
    cases k with
    | true => exact iteT ⟨e, m1, D, sl.mono x1, rs1, t1, c.from x1⟩
    | false => exact iteF ⟨e, m1, D, sl.mono x1, rs1, t1, c.from x1⟩⟩
theorem ds_pass : DS X (.Pass pos) dNext := ps_pass.imp fun E s H ⟨e, m, D, sl, rs, t, c⟩ => c.nx s H e m (Ext.refl _ _) rs sl t
theorem ds_break : DS X (.Break pos) (fun D => D.bk) := ps_break.imp fun E s H ⟨e, m, D, sl, rs, t, c⟩ => c.bk s H e m (Ext.refl _ _) rs sl t
theorem ds_continue : DS X (.Continue pos) (fun D => D.ct) := ps_continue.imp fun E s H ⟨e, m, D, sl, rs, t, c⟩ => c.ct s H e m (Ext.refl _ _) rs sl t
/-- x = e -/
def dSet (i : Nat) (te : DTE) : DTS := fun D e m => te e m fun d m1 => D.nx (e.set i (some d)) m1
theorem ds_set {i : Nat} {x : Str} {pos' : Pos} (hN : X.N.Nodup) (hi : X.N[i]? = some x) (hx : Loc X.env.scope x) (he : DE X ex te) (hs : swapsWith ex (some (.Name x pos')) pos.line X.env = pure false := by rfl)
    (hf : X.fn x = true ∨ X.env.scope.names.lookup x = some .local := by first | exact .inl rfl | exact .inr rfl | (refine .inl ?_; rfl)) : DS X (.Assign [.Name x pos'] ex pos) (dSet i te) :=
  (ps_set hN hi hx he hs).imp fun E s H ⟨e, m, D, sl, rs, t, c⟩ => ⟨e, m, _, sl, rs, t, fun v H1 d m1 x1 rs1 r1 t1 => c.nx _ H1 _ m1 x1 rs1 ((sl.mono x1).set r1) t1⟩
end
end
end DL

set_option Elab.async false
set_option linter.all false
set_option maxRecDepth 100000
namespace DL
open PySem PySem.Spec PyProof.Rows L2

/-! ### what is walked -/
/-- J goes through the values ds, as long as still holds -/
def Walks (K : PySem.W.Frag) (J : It) (still : Mu → Prop) (ds : List D) (m0 : Mu) (H0 : Hp) : Prop := ∀ m H, Ext m0 H0 m H → RS K m H → still m →
  (∀ (i : Nat) (d : D), ds[i]? = some d → J.go i H ∧ ∀ x H', J.yld i H x H' → Ext m H m H' ∧ RS K m H' ∧ Rp K m H' d x) ∧ J.stop ds.length H
theorem Walks.from {K : PySem.W.Frag} {J : It} {still : Mu → Prop} {ds : List D} {m0 m1 : Mu} {H0 H1 : Hp} (w : Walks K J still ds m0 H0) (x : Ext m0 H0 m1 H1) : Walks K J still ds m1 H1 := fun m H e => w m H (x.trans e)
abbrev DTI := Ev → Mu → (List D → (Mu → Prop) → Mu → Prop) → Prop
def lI (K : PySem.W.Frag) (w : DTI) : TI := fun s H R => ∃ e m Q, Sl K m H s e ∧ RS K m H ∧ w e m Q ∧ ∀ J H' ds still m', Ext m H m' H' → RS K m' H' → Walks K J still ds m' H' → Q ds still m' → R J H'
abbrev DI (X : Cx) (tg iter : Expr) (w : DTI) : Prop := PI X tg iter (lI X.K w)
theorem _root_.L2.PI.imp {X : Cx} {tg e : Expr} {t t' : TI} (h : PI X tg e t) (i : ∀ s H Q, t' s H Q → t s H Q) : PI X tg e t' := ⟨fun pins s σ H Q I q => h.run pins s σ H Q I (i _ _ _ q)⟩
theorem _root_.L2.PI.or {X : Cx} {tg e : Expr} {t t' : TI} (h : PI X tg e t) (h' : PI X tg e t') : PI X tg e (fun s H R => t s H R ∨ t' s H R) := ⟨fun pins s σ H Q I q => q.elim (h.run pins s σ H Q I) (h'.run pins s σ H Q I)⟩
def yes (_ : Mu) : Prop := True
section
variable {X : Cx} {K : PySem.W.Frag} {m : Mu} {H : Hp}
theorem walks_L {a : Addr} {xs : List V} {ds : List D} (h : FzL m H a xs) (r : Rps K m H ds xs) : Walks K (Itl K a) yes ds m H := fun m1 H1 x rs _ => by
  have h1 := h.mono x
  have r1 := Rps.mono x _ _ r
  refine ⟨fun i d hd => ?_, xs, SqL.of h1.2, by rw [r.length]; exact Nat.le_refl _⟩
  obtain ⟨v, e1, e2⟩ := r1.get hd
  refine ⟨⟨xs, v, SqL.of h1.2, e1⟩, fun y H' ⟨e, f⟩ => ?_⟩
  subst e
  have := f xs (SqL.of h1.2)
  rw [e1] at this
  cases this
  exact ⟨Ext.refl _ _, rs, e2⟩
theorem walks_M {a : Addr} {ds : List D} : Walks K (Itl K a) (fun m => m a = some (.lst ds)) ds m H := fun m1 H1 x rs st => by
  obtain ⟨xs, h1, r1⟩ := rs a _ st
  refine ⟨fun i d hd => ?_, xs, SqL.of h1, by rw [r1.length]; exact Nat.le_refl _⟩
  obtain ⟨v, e1, e2⟩ := r1.get hd
  refine ⟨⟨xs, v, SqL.of h1, e1⟩, fun y H' ⟨e, f⟩ => ?_⟩
  subst e
  have := f xs (SqL.of h1)
  rw [e1] at this
  cases this
  exact ⟨Ext.refl _ _, rs, e2⟩
theorem walks_T {a : Addr} {xs : List V} {ds : List D} (h : FzT K m H a xs) (r : Rps K m H ds xs) : Walks K (Itt K a) yes ds m H := fun m1 H1 x rs _ => by
  have h1 := (h.mono x).seq
  have r1 := Rps.mono x _ _ r
  refine ⟨fun i d hd => ?_, xs, h1, by rw [r.length]; exact Nat.le_refl _⟩
  obtain ⟨v, e1, e2⟩ := r1.get hd
  refine ⟨⟨xs, v, h1, e1⟩, fun y H' ⟨e, f⟩ => ?_⟩
  subst e
  have := f xs h1
  rw [e1] at this
  cases this
  exact ⟨Ext.refl _ _, rs, e2⟩
theorem walks_S {z : Str} : Walks K (Its z) yes (z.cps.toList.map fun c => D.str ⟨#[c]⟩) m H := fun m1 H1 x rs _ => by
  refine ⟨fun i d hd => ?_, by show z.cps.size ≤ _; simp⟩
  rw [List.getElem?_map] at hd
  cases hc : z.cps.toList[i]? with
  | none => rw [hc] at hd; cases hd
  | some c =>
    rw [hc] at hd
    cases hd
    have hi : i < z.cps.size := by
      have := (List.getElem?_eq_some_iff.mp hc).1
      simpa using this
    refine ⟨hi, fun y H' ⟨e, c', f1, f2⟩ => ?_⟩
    subst e
    have : c' = c := by
      have h1 : z.cps.toList[i]? = some c' := by simpa using f1
      rw [hc] at h1; cases h1; rfl
    subst this
    exact ⟨Ext.refl _ _, rs, f2⟩
def rngD (lo : Int) (n : Nat) : List D := (List.range n).map fun k => D.int (lo + (k : Nat))
theorem walks_R {lo : Int} {n : Nat} : Walks K (Itr lo n) yes (rngD lo n) m H := fun m1 H1 x rs _ => by
  refine ⟨fun i d hd => ?_, by show n ≤ (rngD lo n).length; simp [rngD]⟩
  unfold rngD at hd
  rw [List.getElem?_map] at hd
  by_cases hi : i < n
  · rw [List.getElem?_range hi] at hd
    cases hd
    refine ⟨hi, fun y H' ⟨e, f⟩ => ?_⟩
    subst e
    exact ⟨Ext.refl _ _, rs, f⟩
  · rw [List.getElem?_eq_none (by simp; omega)] at hd
    cases hd
/-- over a list, a tuple, a text -/
def wSeq (t : DTE) : DTI := fun e m Q => t e m fun d m1 => match d with
  | .str z => Q (z.cps.toList.map fun c => D.str ⟨#[c]⟩) yes m1
  | .tup ds => Q ds yes m1
  | .lst ds => Q ds yes m1
  | .ref a => (match m1 a with
    | some (.lst ds) => Q ds (fun m => m a = some (.lst ds)) m1
    | _ => False)
  | _ => False
theorem di_seq {tg ex : Expr} {t : DTE} (he : DE X ex t) : DI X tg ex (wSeq t) := by
  refine ⟨fun pins s σ H R I ⟨e, m, Q, sl, rs, t0, c⟩ => ?_⟩
  have main : ∀ v H1 d m1, Ext m H m1 H1 → RS X.K m1 H1 → Rp X.K m1 H1 d v → (match d with
    | .str z => Q (z.cps.toList.map fun c => D.str ⟨#[c]⟩) yes m1
    | .tup ds => Q ds yes m1
    | .lst ds => Q ds yes m1
    | .ref a => (match m1 a with
      | some (.lst ds) => Q ds (fun m => m a = some (.lst ds)) m1
      | _ => False)
    | _ => False) → (∃ a, v = .ref a ∧ ((∃ xs, SqL X.K H1 a xs) ∧ R (Itl X.K a) H1 ∨ (∃ xs, SqT X.K H1 a xs) ∧ R (Itt X.K a) H1)) ∨ ∃ z, v = .str z ∧ R (Its z) H1 := fun v H1 d m1 x1 rs1 r1 t1 => by
    cases d with
    | str z => exact .inr ⟨z, r1, c _ H1 _ yes m1 x1 rs1 walks_S t1⟩
    | tup ds =>
      obtain ⟨a, xs, e1, h2, h3⟩ := r1
      exact .inl ⟨a, e1, .inr ⟨⟨xs, h2.seq⟩, c _ H1 ds yes m1 x1 rs1 (walks_T h2 h3) t1⟩⟩
    | lst ds =>
      obtain ⟨a, xs, e1, h2, h3⟩ := r1
      exact .inl ⟨a, e1, .inl ⟨⟨xs, h2.seq⟩, c _ H1 ds yes m1 x1 rs1 (walks_L h2 h3) t1⟩⟩
    | ref a =>
      simp only at t1
      split at t1
      · rename_i ds hq
        obtain ⟨xs, h1, _⟩ := rs1 a _ hq
        exact .inl ⟨a, r1, .inl ⟨⟨xs, SqL.of h1⟩, c _ H1 ds _ m1 x1 rs1 walks_M t1⟩⟩
      · exact t1.elim
    | _ => exact t1.elim
  refine thn (he.run pins s σ H _ I ⟨e, m, _, sl, rs, t0, fun v H1 d m1 x1 rs1 r1 t1 => main v H1 d m1 x1 rs1 r1 t1⟩) fun u s1 ⟨v, H1, I1, ru, q⟩ => ?_
  have at_new : ∀ b ∈ [s1.heap.objs.size], FpOk X pins H1 b := fun b hb => by
    obtain rfl := List.mem_singleton.mp hb
    exact I1.fpOk (Nat.le_refl _) (I1.hok.fresh (Nat.le_refl _))
  rcases q with ⟨a, rfl, ⟨⟨xs, hq⟩, q⟩ | ⟨⟨xs, hq⟩, q⟩⟩ | ⟨z, rfl, q⟩
  · cases ru
    obtain ⟨its, _, p, _⟩ := I1.list hq
    exact wpAny_pyIter_list p.isList ⟨_, _, _, _, H1, rfl, I1.kept (t' := s1.toks) (fun b o e => Heap.get?_push_of_some _ e), turn_list a _, ⟨_, Heap.get?_push_size _ rfl, rfl, rfl⟩, at_new, q⟩
  · cases ru
    obtain ⟨its, _, p, _⟩ := I1.tuple hq
    exact wpAny_pyIter_tuple (show s1.heap.IsTuple a its.toArray from p) ⟨_, _, _, _, H1, rfl, I1.kept (t' := s1.toks) (fun b o e => Heap.get?_push_of_some _ e), turn_tuple a _, ⟨_, Heap.get?_push_size _ rfl, rfl, rfl⟩, at_new, q⟩
  · obtain ⟨tk, rfl⟩ := ru
    by_cases ha : z.cps.all (· < 128) = true
    · exact wpAny_pyIter_ascii ha (pi_one (tk := s1.toks) I1 _ (turn_str _ z tk "str_ascii_iterator" (.inl rfl)) ⟨_, Heap.get?_push_size _ rfl, rfl, rfl⟩ q)
    · exact wpAny_pyIter_wide (Bool.eq_false_iff.mpr ha) (pi_one (tk := s1.toks) I1 _ (turn_str _ z tk "str_iterator" (.inr rfl)) ⟨_, Heap.get?_push_size _ rfl, rfl, rfl⟩ q)
/-- range(n), range(a, b) -/
def okR (i : Int) : Prop := -(2 ^ 62) ≤ i ∧ i < 2 ^ 62
def wRng1 (t : DTA) : DTI := fun e m Q => t e m fun ds m1 => match ds with
  | [.int j] => okR j ∧ Q (rngD 0 j.toNat) yes m1
  | _ => False
def wRng2 (t : DTA) : DTI := fun e m Q => t e m fun ds m1 => match ds with
  | [.int i, .int j] => okR i ∧ okR j ∧ Q (rngD i (j - i).toNat) yes m1
  | _ => False
section
variable {tg a b : Expr} {t : DTA} {p pos : Pos}
theorem di_rng1 (hg : Gl X "range") (hm : X.mg "range" = none) (ha : DA X [a] t) (hs : starEach [a] X.env = [(false, eval a X.env)] := by rfl) : DI X tg (.Call (.Name "range" p) [a] [] pos) (wRng1 t) :=
  (pi_range1 hg hm ha hs).imp fun s H R ⟨e, m, Q, sl, rs, t0, c⟩ => ⟨e, m, _, sl, rs, t0, fun vs H1 ds m1 x1 rs1 r1 t1 => by
    split at t1
    · rename_i j
      obtain ⟨v, rfl, r⟩ := Rps1 r1
      have r : v = .int j := r
      subst r
      exact ⟨j, rfl, t1.1.1, t1.1.2, c _ H1 _ yes m1 x1 rs1 walks_R t1.2⟩
    · exact t1.elim⟩
theorem di_rng2 (hg : Gl X "range") (hm : X.mg "range" = none) (ha : DA X [a, b] t) (hs : starEach [a, b] X.env = [(false, eval a X.env), (false, eval b X.env)] := by rfl) (hs2 : starEach [b] X.env = [(false, eval b X.env)] := by rfl) :
    DI X tg (.Call (.Name "range" p) [a, b] [] pos) (wRng2 t) :=
  (pi_range2 hg hm ha hs hs2).imp fun s H R ⟨e, m, Q, sl, rs, t0, c⟩ => ⟨e, m, _, sl, rs, t0, fun vs H1 ds m1 x1 rs1 r1 t1 => by
    split at t1
    · rename_i i j
      obtain ⟨v, u, rfl, r, r'⟩ := Rps2 r1
      have r : v = .int i := r
      have r' : u = .int j := r'
      subst r r'
      exact ⟨i, j, rfl, ⟨t1.1.1, t1.1.2, t1.2.1.1, t1.2.1.2⟩, c _ H1 _ yes m1 x1 rs1 walks_R t1.2.2⟩
    · exact t1.elim⟩
end
/-! ### targets -/
abbrev DTG := D → Ev → Mu → (Ev → Mu → Prop) → Prop
/-- what is stored stands among the places vs -/
def CoG (K : PySem.W.Frag) (vs : List Nat) (s : L2.St) (m : Mu) (H : Hp) (Q : Ev → Mu → Prop) (R : L2.St → Hp → Prop) : Prop := ∀ s' H' e' m', wipe s' vs = wipe s vs → Ext m H m' H' → RS K m' H' → Sl K m' H' s' e' → Q e' m' → R s' H'
def lG (K : PySem.W.Frag) (vs : List Nat) (g : DTG) : TG := fun v s H R => ∃ d e m Q, Rp K m H d v ∧ Sl K m H s e ∧ RS K m H ∧ g d e m Q ∧ CoG K vs s m H Q R
abbrev DG (X : Cx) (vs : List Nat) (tg : Expr) (g : DTG) : Prop := PG X tg (lG X.K vs g)
theorem _root_.L2.PG.imp {X : Cx} {tg : Expr} {t t' : TG} (h : PG X tg t) (i : ∀ v s H Q, t' v s H Q → t v s H Q) : PG X tg t' := ⟨fun pins s σ H v u Q I r q => h.run pins s σ H v u Q I r (i _ _ _ _ q)⟩
def gN (i : Nat) : DTG := fun d e m Q => Q (e.set i (some d)) m
theorem dg_name {i : Nat} {x : Str} {pos : Pos} (hN : X.N.Nodup) (hi : X.N[i]? = some x) (hx : Loc X.env.scope x) (hf : X.fn x = true ∨ X.env.scope.names.lookup x = some .local := by first | exact .inl rfl | exact .inr rfl) : DG X [i] (.Name x pos) (gN i) :=
  (pg_name hN hi hx hf).imp fun v s H R ⟨d, e, m, Q, r, sl, rs, t, c⟩ => c _ H _ m (by show (s.set i (some v)).set i none = s.set i none; rw [List.set_set]) (Ext.refl _ _) rs (sl.set r) t
/-- a, b = a pair -/
def gP (i j : Nat) : DTG := fun d e m Q => match d with
  | .tup [x, y] => Q ((e.set i (some x)).set j (some y)) m
  | _ => False
theorem wipe2 (s : L2.St) (i j : Nat) (x y : Option V) : wipe ((s.set i x).set j y) [i, j] = wipe s [i, j] := by
  show ((((s.set i x).set j y).set j none).set i none) = (s.set j none).set i none
  rw [List.set_set]
  by_cases h : i = j
  · subst h; rw [List.set_set, List.set_set, List.set_set]
  · rw [List.set_comm _ _ h, List.set_set]
theorem dg_pair {i j : Nat} {x y : Str} {px py pos : Pos} {kk : Nat} (hc : X.calm = true) (hN : X.N.Nodup) (hi : X.N[i]? = some x) (hj : X.N[j]? = some y) (hx : Loc X.env.scope x) (hy : Loc X.env.scope y)
    (hf : X.fn x = true ∨ X.env.scope.names.lookup x = some .local := by first | exact .inl rfl | exact .inr rfl) (hf' : X.fn y = true ∨ X.env.scope.names.lookup y = some .local := by first | exact .inl rfl | exact .inr rfl) :
    DG X [i, j] (.Tuple [.Name x px, .Name y py] kk pos) (gP i j) :=
  (pg_tup hc (pgs_cons (pg_name hN hi hx hf) (pgs_cons (pg_name hN hj hy hf') pgs_nil))).imp fun v s H R ⟨d, e, m, Q, r, sl, rs, t, c⟩ => by
    unfold gP at t
    split at t
    · rename_i dx dy
      obtain ⟨a, xs, rfl, h2, h3⟩ := Rp_tup r
      obtain ⟨u, w, rfl, r1, r2⟩ := Rps2 h3
      exact ⟨a, _, rfl, h2, rfl, u, _, rfl, w, _, rfl, rfl, c _ H _ m (wipe2 _ _ _ _ _) (Ext.refl _ _) rs ((sl.set r1).set r2) t⟩
    · exact t.elim
/-! ### for -/
def forD (still : Mu → Prop) (g : DTG) (tb : DTS) (E : DEnds) : List D → Ev → Mu → Prop
  | [] => fun e m => still m ∧ E.nx e m
  | d :: r => fun e m => still m ∧ g d e m fun e' m' => tb { E with nx := forD still g tb E r, ct := forD still g tb E r, bk := E.nx } e' m'
def dFor (w : DTI) (g : DTG) (tb : DTS) : DTS := fun D e m => w e m fun ds still m1 => forD still g tb D ds e m1
theorem forD_drop {still : Mu → Prop} {g : DTG} {tb : DTS} {D : DEnds} {ds : List DL.D} {i : Nat} {d : DL.D} {e : Ev} {m : Mu} (h : forD still g tb D (ds.drop i) e m) (hd : ds[i]? = some d) :
    still m ∧ g d e m fun e' m' => tb { D with nx := forD still g tb D (ds.drop (i + 1)), ct := forD still g tb D (ds.drop (i + 1)), bk := D.nx } e' m' := by
  have hi := (List.getElem?_eq_some_iff.mp hd).1
  have he := (List.getElem?_eq_some_iff.mp hd).2
  rw [List.drop_eq_getElem_cons hi, he] at h
  exact h
theorem forD_still {still : Mu → Prop} {g : DTG} {tb : DTS} {D : DEnds} : ∀ {ds : List DL.D} {e : Ev} {m : Mu}, forD still g tb D ds e m → still m
  | [], _, _, h => h.1
  | _ :: _, _, _, h => h.1
theorem ds_for {iter tg : Expr} {body : List Stmt} {w : DTI} {vs : List Nat} {g : DTG} {tb : DTS} {pos : Pos} (hp : PassesOwn (model X.prog X.w) X.A X.env X.xe) (hc : X.calm = true) (hi : DI X tg iter w) (hg : DG X vs tg g) (hb : DSs X body tb) (hs : ∀ x, foldedSetIterable iter X.env x = pure x := by intro _; rfl) : DS X (.For tg iter body [] pos) (dFor w g tb) :=
  (ps_for hp hc hi hg hb hs).imp fun E s H ⟨e, m, D, sl, rs, t, c⟩ => ⟨e, m, _, sl, rs, t, fun J H1 ds still m1 x1 rs1 wk t1 => by
    have sl1 := sl.mono x1
    have c1 := c.from x1
    refine ⟨fun i n s' H' => n = ds.length - i ∧ i ≤ ds.length ∧ ∃ e' m', Ext m1 H1 m' H' ∧ RS X.K m' H' ∧ Sl X.K m' H' s' e' ∧ forD still g tb D (ds.drop i) e' m', ⟨_, rfl, Nat.zero_le _, e, m1, Ext.refl _ _, rs1, sl1, by rw [List.drop_zero]; exact t1⟩, ?_⟩
    rintro i n s' H' ⟨rfl, hle, e', m', x2, rs2, sl2, t2⟩
    obtain ⟨w1, w2⟩ := wk m' H' x2 rs2 (forD_still t2)
    by_cases hlt : i < ds.length
    · have hd : ds[i]? = some ds[i] := List.getElem?_eq_getElem hlt
      obtain ⟨go, yl⟩ := w1 i _ hd
      obtain ⟨_, t3⟩ := forD_drop t2 hd
      refine .inr ⟨go, fun s3 H3 => ∃ e3 m3, Ext m1 H1 m3 H3 ∧ RS X.K m3 H3 ∧ Sl X.K m3 H3 s3 e3 ∧ forD still g tb D (ds.drop (i + 1)) e3 m3, fun s3 H3 ⟨e3, m3, q1, q2, q3, q4⟩ => ⟨ds.length - (i + 1), by omega, rfl, hlt, e3, m3, q1, q2, q3, q4⟩, fun x H3 hy => ?_⟩
      obtain ⟨x3, rs3, r3⟩ := yl x H3 hy
      refine ⟨ds[i], e', m', _, r3, sl2.mono x3, rs3, t3, fun s4 H4 e4 m4 _ x4 rs4 sl4 t4 => ⟨e4, m4, _, sl4, rs4, t4, ?_⟩⟩
      have x5 : Ext m1 H1 m4 H4 := (x2.trans x3).trans x4
      exact ⟨fun s5 H5 e5 m5 x6 rs5 sl5 t5 => ⟨e5, m5, x5.trans x6, rs5, sl5, t5⟩, c1.rt.from x5, c1.nx.from x5, fun s5 H5 e5 m5 x6 rs5 sl5 t5 => ⟨e5, m5, x5.trans x6, rs5, sl5, t5⟩⟩
    · have : i = ds.length := by omega
      subst this
      rw [List.drop_length] at t2
      exact .inl ⟨w2, c1.nx s' H' e' m' x2 rs2 sl2 t2.2⟩⟩

/-! ### comprehensions -/
def wipeD (e : Ev) : List Nat → Ev
  | [] => e
  | v :: vs => (wipeD e vs).set v none
theorem Sl.wipe {s : L2.St} {e : Ev} (h : Sl K m H s e) : ∀ vs, Sl K m H (wipe s vs) (wipeD e vs)
  | [] => h
  | v :: vs => by
    have ih := Sl.wipe h vs
    refine ⟨by show ((L2.wipe s vs).set v none).length = ((wipeD e vs).set v none).length; rw [List.length_set, List.length_set]; exact ih.1, fun j d q => ?_⟩
    have q : ((wipeD e vs).set v none)[j]? = some (some d) := q
    by_cases hj : v = j
    · subst hj
      by_cases hl : v < (wipeD e vs).length
      · rw [List.getElem?_set_self hl] at q; cases q
      · rw [List.getElem?_eq_none (by rw [List.length_set]; omega)] at q; cases q
    · rw [List.getElem?_set_ne hj] at q
      obtain ⟨u, h1, h2⟩ := ih.2 j d q
      exact ⟨u, by show ((L2.wipe s vs).set v none)[j]? = _; rw [List.getElem?_set_ne hj]; exact h1, h2⟩
theorem mdel_mset {m : Mu} {p : Addr} {o : MO} (h : m p = none) : mdel (mset m p o) p = m := by
  funext b
  unfold mdel mset
  by_cases hb : b = p
  · subst hb; rw [if_pos rfl, h]
  · rw [if_neg hb, if_neg hb]
/-- what the turns make of the values that are left; the tests and the elements turn nothing that may change -/
def lcD (still : Mu → Prop) (g : DTG) (tt : DTT) (te : DTE) (e : Ev) (m : Mu) (p : Addr) (Q : List D → Prop) : List D → List D → Prop
  | [], acc => still (mset m p (.lst acc)) ∧ Q acc
  | d :: r, acc => still (mset m p (.lst acc)) ∧ g d e (mset m p (.lst acc)) fun e2 m2 => m2 = mset m p (.lst acc) ∧ tt e2 m2 fun b m3 => m3 = mset m p (.lst acc) ∧ match b with
    | true => te e2 m3 fun y m4 => m4 = mset m p (.lst acc) ∧ acc.length < sizeLine ∧ lcD still g tt te e m p Q r (acc ++ [y])
    | false => lcD still g tt te e m p Q r acc
def dLc (w : DTI) (g : DTG) (tt : DTT) (te : DTE) (vs : List Nat) : DTE := fun e m Q => w e m fun ds still m1 => ∀ p, m1 p = none → lcD still g tt te (wipeD e vs) m1 p (fun acc => Q (.lst acc) m1) ds []
/-- a list that shall change -/
def dLcM (w : DTI) (g : DTG) (tt : DTT) (te : DTE) (vs : List Nat) : DTE := fun e m Q => w e m fun ds still m1 => ∀ p, m1 p = none → lcD still g tt te (wipeD e vs) m1 p (fun acc => Q (.ref p) (mset m1 p (.lst acc))) ds []
theorem mset_mset {m : Mu} {p : Addr} {o o' : MO} : mset (mset m p o) p o' = mset m p o' := by
  funext b
  unfold mset
  by_cases hb : b = p
  · rw [if_pos hb, if_pos hb]
  · rw [if_neg hb, if_neg hb, if_neg hb]
theorem set_comm' (l : L2.St) (i j : Nat) : (l.set i none).set j none = (l.set j none).set i none := by
  by_cases h : i = j
  · subst h; rfl
  · exact List.set_comm _ _ h
theorem wipe_set (s : L2.St) (v : Nat) : ∀ vs, wipe (s.set v none) vs = (wipe s vs).set v none
  | [] => rfl
  | u :: vs => by
    show (wipe (s.set v none) vs).set u none = ((wipe s vs).set u none).set v none
    rw [wipe_set s v vs, set_comm']
theorem wipe_wipe (s : L2.St) : ∀ vs, wipe (wipe s vs) vs = wipe s vs
  | [] => rfl
  | v :: vs => by
    show (wipe ((wipe s vs).set v none) vs).set v none = (wipe s vs).set v none
    rw [wipe_set, wipe_wipe s vs, List.set_set]
theorem lcD_still {still : Mu → Prop} {g : DTG} {tt : DTT} {te : DTE} {e : Ev} {m : Mu} {p : Addr} {Q : List D → Prop} : ∀ {ds acc : List D}, lcD still g tt te e m p Q ds acc → still (mset m p (.lst acc))
  | [], _, h => h.1
  | _ :: _, _, h => h.1
theorem lc_imp {s : L2.St} {H1 : Hp} {m1 : Mu} {e : Ev} {vs : List Nat} {J : It} {ds : List D} {still : Mu → Prop} {g : DTG} {tt : DTT} {te : DTE} {Dl : Addr} {Q : List D → Prop} {R : V → Hp → Prop} (rs1 : RS K m1 H1) (sl1 : Sl K m1 H1 s e) (wk : Walks K J still ds m1 H1) (hD : H1 Dl = none)
    (t : lcD still g tt te (wipeD e vs) m1 Dl Q ds [])
    (fin : ∀ acc H, Ext m1 H1 (mset m1 Dl (.lst acc)) H → RS K (mset m1 Dl (.lst acc)) H → Q acc → R (.ref Dl) H) :
    ∃ W : Nat → Nat → Hp → Prop, (∃ n, W 0 n (upd H1 Dl (.lst []))) ∧ ∀ i n H, W i n H → (J.stop i H ∧ R (.ref Dl) H) ∨ (J.go i H ∧ ∃ Nx : Hp → Prop, (∀ H', Nx H' → ∃ n', n' < n ∧ W (i + 1) n' H') ∧ ∀ x H', J.yld i H x H' → lG K vs g x (wipe s vs) H' fun s2 H2 => wipe s2 vs = wipe s vs ∧ lT K tt s2 H2 fun b H3 =>
      if b = true then lE K te s2 H3 fun y H4 => ∃ acc, H4 Dl = some (.lst acc) ∧ acc.length < sizeLine ∧ Nx (upd H4 Dl (.lst (acc ++ [y]))) else Nx H3) := by
  have f1 : m1 Dl = none := rs1.fresh hD
  have W0 : Ext m1 H1 (mset m1 Dl (.lst [])) (upd H1 Dl (.lst [])) := Ext.laidM hD
  refine ⟨fun i n H => n = ds.length - i ∧ i ≤ ds.length ∧ ∃ acc, Ext m1 H1 (mset m1 Dl (.lst acc)) H ∧ RS K (mset m1 Dl (.lst acc)) H ∧ lcD still g tt te (wipeD e vs) m1 Dl Q (ds.drop i) acc,
    ⟨_, rfl, Nat.zero_le _, [], W0, rs1.laidM (q := .lst []) hD ⟨[], upd_same, rfl⟩, by rw [List.drop_zero]; exact t⟩, ?_⟩
  rintro i n H ⟨rfl, hle, acc, x2, rs2, t2⟩
  obtain ⟨w1, w2⟩ := wk _ H x2 rs2 (lcD_still t2)
  by_cases hlt : i < ds.length
  · have hd : ds[i]? = some ds[i] := List.getElem?_eq_getElem hlt
    obtain ⟨go, yl⟩ := w1 i _ hd
    rw [List.drop_eq_getElem_cons hlt] at t2
    obtain ⟨_, t3⟩ := t2
    refine .inr ⟨go, fun H3 => ∃ acc, Ext m1 H1 (mset m1 Dl (.lst acc)) H3 ∧ RS K (mset m1 Dl (.lst acc)) H3 ∧ lcD still g tt te (wipeD e vs) m1 Dl Q (ds.drop (i + 1)) acc, fun H3 ⟨acc, q1, q2, q3⟩ => ⟨ds.length - (i + 1), by omega, rfl, hlt, acc, q1, q2, q3⟩, fun x H3 hy => ?_⟩
    obtain ⟨x3, rs3, r3⟩ := yl x H3 hy
    have slw : Sl K (mset m1 Dl (.lst acc)) H3 (wipe s vs) (wipeD e vs) := ((sl1.mono x2).mono x3).wipe vs
    have ww : wipe (wipe s vs) vs = wipe s vs := wipe_wipe s vs
    refine ⟨ds[i], _, _, _, r3, slw, rs3, t3, fun s4 H4 e4 m4 hw x4 rs4 sl4 t4 => ⟨by rw [hw, ww], e4, m4, _, sl4, rs4, t4.2, fun b H5 m5 x5 rs5 t5 => ?_⟩⟩
    obtain ⟨e5, t5⟩ := t5
    subst e5
    have xa : Ext m1 H1 (mset m1 Dl (.lst acc)) H5 := ((x2.trans x3).trans x4).trans x5
    cases b with
    | false => exact iteF ⟨acc, xa, rs5, t5⟩
    | true =>
      refine iteT ⟨e4, _, _, sl4.mono x5, rs5, t5, fun v H6 y m6 x6 rs6 r6 t6 => ?_⟩
      obtain ⟨e6, hs, t6⟩ := t6
      subst e6
      obtain ⟨xs, g1, g2⟩ := rs6 Dl _ mset_same
      refine ⟨xs, g1, by rw [g2.length]; exact hs, acc ++ [y], ?_, ?_, t6⟩
      · have wr : Ext (mset m1 Dl (.lst acc)) H6 (mset (mset m1 Dl (.lst acc)) Dl (.lst (acc ++ [y]))) (upd H6 Dl (.lst (xs ++ [v]))) := Ext.write mset_same
        rw [mset_mset] at wr
        exact (xa.trans x6).trans wr
      · have wr : Ext (mset m1 Dl (.lst acc)) H6 (mset (mset m1 Dl (.lst acc)) Dl (.lst (acc ++ [y]))) (upd H6 Dl (.lst (xs ++ [v]))) := Ext.write mset_same
        have := rs6.write (q' := .lst (acc ++ [y])) mset_same ⟨_, upd_same, Rps.mono wr _ _ (g2.app (Rps.cons r6 Rps.nil))⟩
        rw [mset_mset] at this
        exact this
  · have : i = ds.length := by omega
    subst this
    rw [List.drop_length] at t2
    exact .inl ⟨w2, fin acc H x2 rs2 t2.2⟩
end
end DL

set_option Elab.async false
set_option linter.all false
set_option maxRecDepth 100000
namespace DL
open PySem PySem.Spec PyProof.Rows L2

section
variable {X : Cx}
abbrev DPs (X : Cx) (ifs : List Expr) (t : DTT) : Prop := PTs X ifs (lT X.K t)
theorem _root_.L2.PTs.imp {X : Cx} {e : List Expr} {t t' : TT} (h : PTs X e t) (i : ∀ s H Q, t' s H Q → t s H Q) : PTs X e t' := ⟨fun pins s σ H Q I q => h.run pins s σ H Q I (i _ _ _ q)⟩
def dYes : DTT := fun _ m Q => Q true m
theorem dp_nil : DPs X [] dYes := pts_nil.imp fun s H R ⟨e, m, Q, sl, rs, t, c⟩ => c true H m (Ext.refl _ _) rs t
theorem dp_one {c : Expr} {t : DTT} (h : DT X c t) : DPs X [c] t := pts_one h
section
variable {elt tg iter : Expr} {ifs : List Expr} {scope : Scope} {own : List (Str × Nat)} {pos : Pos} {w : DTI} {g : DTG} {tt : DTT} {te : DTE}
theorem de_lc (hc : X.calm = true) (hN : X.N.Nodup) (hi : DI X tg iter w) (ok : BlkOk X.N X.env.scope scope own)
    (hg : ∀ (s : Shared) (H : Hp) (C : Addr) (cl : List (Str × Addr)) (fp : List Addr), DG (X.blk s H scope (compEnvC scope cl C X.env) fp) (own.map (·.2)) tg g)
    (ht : ∀ (s : Shared) (H : Hp) (C : Addr) (cl : List (Str × Addr)) (fp : List Addr), DPs (X.blk s H scope (compEnvC scope cl C X.env) fp) ifs tt)
    (he : ∀ (s : Shared) (H : Hp) (C : Addr) (cl : List (Str × Addr)) (fp : List Addr), DE (X.blk s H scope (compEnvC scope cl C X.env) fp) elt te)
    (hs : ∀ x, foldedSetIterable iter X.env x = pure x := by intro _; rfl) : DE X (.ListComp elt [⟨tg, iter, ifs, 0⟩] scope pos) (dLc w g tt te (own.map (·.2))) :=
  (pe_lc hc hN hi ok hg ht he hs).imp fun s H R ⟨e, m, Q, sl, rs, t, c⟩ => ⟨e, m, _, sl, rs, t, fun J H1 ds still m1 x1 rs1 wk t1 Dl hD => by
    refine lc_imp rs1 (sl.mono x1) wk hD (t1 Dl (rs1.fresh hD)) fun acc H2 x2 rs2 q => ?_
    have f1 : m1 Dl = none := rs1.fresh hD
    obtain ⟨xs, h1, h2⟩ := rs2 Dl _ mset_same
    have x3 : Ext (mset m1 Dl (.lst acc)) H2 m1 H2 := by
      have := Ext.freeze (m := mset m1 Dl (.lst acc)) (H := H2) (p := Dl)
      rw [mdel_mset f1] at this
      exact this
    have rs3 : RS X.K m1 H2 := by
      have := rs2.freeze (p := Dl)
      rw [mdel_mset f1] at this
      exact this
    exact c (.ref Dl) H2 (.lst acc) m1 ((x1.trans x2).trans x3) rs3 ⟨Dl, xs, rfl, ⟨f1, h1⟩, Rps.mono x3 _ _ h2⟩ q⟩
theorem de_lcM (hc : X.calm = true) (hN : X.N.Nodup) (hi : DI X tg iter w) (ok : BlkOk X.N X.env.scope scope own)
    (hg : ∀ (s : Shared) (H : Hp) (C : Addr) (cl : List (Str × Addr)) (fp : List Addr), DG (X.blk s H scope (compEnvC scope cl C X.env) fp) (own.map (·.2)) tg g)
    (ht : ∀ (s : Shared) (H : Hp) (C : Addr) (cl : List (Str × Addr)) (fp : List Addr), DPs (X.blk s H scope (compEnvC scope cl C X.env) fp) ifs tt)
    (he : ∀ (s : Shared) (H : Hp) (C : Addr) (cl : List (Str × Addr)) (fp : List Addr), DE (X.blk s H scope (compEnvC scope cl C X.env) fp) elt te)
    (hs : ∀ x, foldedSetIterable iter X.env x = pure x := by intro _; rfl) : DE X (.ListComp elt [⟨tg, iter, ifs, 0⟩] scope pos) (dLcM w g tt te (own.map (·.2))) :=
  (pe_lc hc hN hi ok hg ht he hs).imp fun s H R ⟨e, m, Q, sl, rs, t, c⟩ => ⟨e, m, _, sl, rs, t, fun J H1 ds still m1 x1 rs1 wk t1 Dl hD =>
    lc_imp rs1 (sl.mono x1) wk hD (t1 Dl (rs1.fresh hD)) fun acc H2 x2 rs2 q => c (.ref Dl) H2 (.ref Dl) _ (x1.trans x2) rs2 rfl q⟩
/-- y = [..] -/
theorem ds_setLc {i : Nat} {y : Str} {py spos : Pos} (hc : X.calm = true) (hN : X.N.Nodup) (hy : X.N[i]? = some y) (hyl : X.env.scope.names.lookup y = some .local) (hsw : swapsWith (.ListComp elt [⟨tg, iter, ifs, 0⟩] scope pos) (some (.Name y py)) spos.line X.env = pure true)
    (hi : DI X tg iter w) (ok : BlkOk X.N X.env.scope scope own)
    (hg : ∀ (s : Shared) (H : Hp) (C : Addr) (cl : List (Str × Addr)) (fp : List Addr), DG (X.blk s H scope (compEnvC scope cl C X.env) fp) (own.map (·.2)) tg g)
    (ht : ∀ (s : Shared) (H : Hp) (C : Addr) (cl : List (Str × Addr)) (fp : List Addr), DPs (X.blk s H scope (compEnvC scope cl C X.env) fp) ifs tt)
    (he : ∀ (s : Shared) (H : Hp) (C : Addr) (cl : List (Str × Addr)) (fp : List Addr), DE (X.blk s H scope (compEnvC scope cl C X.env) fp) elt te)
    (hs : ∀ x, foldedSetIterable iter X.env x = pure x := by intro _; rfl) : DS X (.Assign [.Name y py] (.ListComp elt [⟨tg, iter, ifs, 0⟩] scope pos) spos) (dSet i (dLc w g tt te (own.map (·.2)))) :=
  (ps_setLc hc hN hy hyl hsw hi ok hg ht he hs).imp fun E s H ⟨e, m, D, sl, rs, t, c⟩ => ⟨e, m, _, sl, rs, t, fun J H1 ds still m1 x1 rs1 wk t1 Dl hD => by
    refine lc_imp (R := fun v H => gName i v s H E.nx) rs1 (sl.mono x1) wk hD (t1 Dl (rs1.fresh hD)) fun acc H2 x2 rs2 q => ?_
    have f1 : m1 Dl = none := rs1.fresh hD
    obtain ⟨xs, h1, h2⟩ := rs2 Dl _ mset_same
    have x3 : Ext (mset m1 Dl (.lst acc)) H2 m1 H2 := by
      have := Ext.freeze (m := mset m1 Dl (.lst acc)) (H := H2) (p := Dl)
      rw [mdel_mset f1] at this
      exact this
    have rs3 : RS X.K m1 H2 := by
      have := rs2.freeze (p := Dl)
      rw [mdel_mset f1] at this
      exact this
    have xx := (x1.trans x2).trans x3
    exact c.nx _ H2 _ m1 xx rs3 ((sl.mono xx).set (d := .lst acc) (v := .ref Dl) ⟨Dl, xs, rfl, ⟨f1, h1⟩, Rps.mono x3 _ _ h2⟩) q⟩
end
/-! ### two names at once -/
def dPar (i j : Nat) (ta : DTA) : DTS := fun D e m => ta e m fun ds m1 => match ds with
  | [x, y] => D.nx ((e.set i (some x)).set j (some y)) m1
  | _ => False
theorem ds_par {i j : Nat} {x y : Str} {a b : Expr} {ta : DTA} {px py pt : Pos} {kt k2 pt2} {pos : Pos} (hc : X.calm = true) (hN : X.N.Nodup) (hi : X.N[i]? = some x) (hj : X.N[j]? = some y) (hij : i ≠ j) (hx : X.env.scope.names.lookup x = some .local) (hy : X.env.scope.names.lookup y = some .local) (ha : DA X [a, b] ta)
    (hw : swappedStores [.Tuple [.Name x px, .Name y py] kt pt] (.Tuple [a, b] k2 pt2) X.env = pure (some [x, y])) (hs : swapsWithSole [.Tuple [.Name x px, .Name y py] kt pt] (.Tuple [a, b] k2 pt2) pos.line X.env = pure false := by rfl) :
    DS X (.Assign [.Tuple [.Name x px, .Name y py] kt pt] (.Tuple [a, b] k2 pt2) pos) (dPar i j ta) :=
  (ps_par hc hN hi hj hij hx hy ha hw hs).imp fun E s H ⟨e, m, D, sl, rs, t, c⟩ => ⟨e, m, _, sl, rs, t, fun vs H1 ds m1 x1 rs1 r1 t1 => by
    split at t1
    · rename_i dx dy
      obtain ⟨v, u, rfl, r, r'⟩ := Rps2 r1
      exact ⟨v, u, rfl, c.nx _ H1 _ m1 x1 rs1 (((sl.mono x1).set r).set r') t1⟩
    · exact t1.elim⟩
/-- a, b = e, a pair that is made -/
def dAsg2 (i j : Nat) (te : DTE) : DTS := fun D e m => te e m fun d m1 => match d with
  | .tup [x, y] => D.nx ((e.set i (some x)).set j (some y)) m1
  | _ => False
theorem ds_asg2 {i j : Nat} {x y : Str} {ex : Expr} {te : DTE} {px py pt : Pos} {kt : Nat} {pos : Pos} (hc : X.calm = true) (hN : X.N.Nodup) (hi : X.N[i]? = some x) (hj : X.N[j]? = some y) (hx : Loc X.env.scope x) (hy : Loc X.env.scope y) (he : DE X ex te)
    (hs : swapsWithSole [.Tuple [.Name x px, .Name y py] kt pt] ex pos.line X.env = pure false := by rfl) (hw : swappedStores [.Tuple [.Name x px, .Name y py] kt pt] ex X.env = pure none := by rfl)
    (h1 : (assignEach [.Tuple [.Name x px, .Name y py] kt pt] X.env).map (·.2) = [assign (.Tuple [.Name x px, .Name y py] kt pt) X.env] := by rfl)
    (hf : X.fn x = true ∨ X.env.scope.names.lookup x = some .local := by first | exact .inl rfl | exact .inr rfl) (hf' : X.fn y = true ∨ X.env.scope.names.lookup y = some .local := by first | exact .inl rfl | exact .inr rfl) :
    DS X (.Assign [.Tuple [.Name x px, .Name y py] kt pt] ex pos) (dAsg2 i j te) :=
  (ps_asg he (pg_tup hc (pgs_cons (pg_name hN hi hx hf) (pgs_cons (pg_name hN hj hy hf') pgs_nil))) hs hw h1).imp fun E s H ⟨e, m, D, sl, rs, t, c⟩ => ⟨e, m, _, sl, rs, t, fun v H1 d m1 x1 rs1 r1 t1 => by
    split at t1
    · rename_i dx dy
      obtain ⟨a, xs, rfl, h2, h3⟩ := Rp_tup r1
      obtain ⟨u, w, rfl, ra, rb⟩ := Rps2 h3
      exact ⟨a, _, rfl, h2, rfl, u, _, rfl, w, _, rfl, rfl, c.nx _ H1 _ m1 x1 rs1 (((sl.mono x1).set ra).set rb) t1⟩
    · exact t1.elim⟩

/-! ### defs -/
/-- a def's promise over values -/
abbrev DSp := List D → Mu → DK → Prop
def toSp (K : PySem.W.Frag) (f : DSp) : Sp := fun vs H R _ => ∃ ds m Q, RS K m H ∧ Rps K m H ds vs ∧ f ds m Q ∧ CoE K m H Q R
def dCall (f : DSp) (ta : DTA) : DTE := fun e m Q => ta e m fun ds m1 => f ds m1 Q
section
variable {k : Nat} {f : Addr} {fd : FuncData} {ps : List Str} {sp : DSp} {x : Str} {p pos : Pos} {e : Expr} {es : List Expr} {ta : DTA}
theorem de_call (F : FnG X.prog X.w X.K X.mg X.base CX0 k f fd ps (toSp X.K sp)) (room : RoomG k X.A) (hg : Gl X x) (hm : X.mg x = some (.ref f)) (hk : PySem.W.keepIn X.K (.ref f) = true) (bind : Binds X.K fd ps []) (ha : DA X (e :: es) ta)
    (hdb : (x == ("__debug__" : Str)) = false := by decide) (he : starEach (e :: es) X.env = (false, eval e X.env) :: starEach es X.env := by rfl) (hpl : (backTo pos (starEach es X.env)).any (·.1) = false := by rfl) : DE X (.Call (.Name x p) (e :: es) [] pos) (dCall sp ta) :=
  (pe_callG F room hg hm hk bind .nil pass0 ha hdb he hpl).imp fun s H R ⟨e, m, Q, sl, rs, t, c⟩ => ⟨e, m, _, sl, rs, t, fun vs H1 ds m1 x1 rs1 r1 t1 => ⟨ds, m1, Q, rs1, by rw [List.append_nil]; exact r1, t1, c.from x1⟩⟩
theorem de_call0 (F : FnG X.prog X.w X.K X.mg X.base CX0 k f fd ps (toSp X.K sp)) (room : RoomG k X.A) (hg : Gl X x) (hm : X.mg x = some (.ref f)) (hk : PySem.W.keepIn X.K (.ref f) = true) (bind : Binds X.K fd ps []) (hdb : (x == ("__debug__" : Str)) = false := by decide) : DE X (.Call (.Name x p) [] [] pos) (dCall sp dNil) :=
  (pe_callG0 F room hg hm hk bind .nil pass0 hdb).imp fun s H R ⟨e, m, Q, sl, rs, t, c⟩ => ⟨[], m, Q, rs, rfl, t, c⟩
end
end
def startD (N : Nat) (ds : List D) : Ev := ds.map some ++ List.replicate (N - ds.length) none
theorem sl_start {K : PySem.W.Frag} {m : Mu} {H : Hp} {N : List Str} {ds : List D} {vs : List V} (r : Rps K m H ds vs) : Sl K m H (L2.start N vs) (startD N.length ds) := by
  have hl := r.length
  refine ⟨by simp [L2.start, startD, hl], fun i d q => ?_⟩
  unfold startD at q
  by_cases hi : i < ds.length
  · rw [List.getElem?_append_left (by simpa using hi), List.getElem?_map] at q
    cases hd : ds[i]? with
    | none => rw [hd] at q; cases q
    | some d' =>
      rw [hd] at q
      cases q
      obtain ⟨v, h1, h2⟩ := r.get hd
      refine ⟨v, ?_, h2⟩
      unfold L2.start
      rw [List.getElem?_append_left (by simpa [hl] using hi), List.getElem?_map, h1]
      rfl
  · rw [List.getElem?_append_right (by simpa using Nat.le_of_not_lt hi)] at q
    rw [List.getElem?_replicate] at q
    split at q <;> cases q
section
variable {P : Program} {w : World} {K : PySem.W.Frag} {mg : Str → Option Value} {base : Heap}
/-- a def by its body, over values -/
theorem _root_.L2.Fun.okD {x qual : Str} {st : Stmt} {f : Addr} {fd : FuncData} {N ps : List Str} {k : Nat} {sp : DSp} (F : Fun K x qual st f fd) (S : FnScope N ps (defScope st)) (ar : ∀ ds m Q, sp ds m Q → ds.length = ps.length)
    (body : ∀ (cdv : Value) (A : Around) (fr : List Env) (t : Shared) (H : Hp) (E : XK), RoomG k (A.deeper (envOfC qual (defScope st) t.heap.objs.size f cdv)) →
      ∃ b, DSs (cxOf CX0 P w K mg base N qual (defScope st) f cdv A fr t H E).nox (defBody st) b ∧ ∀ ds m Q, sp ds m Q → b { nx := fun _ m' => Q .non m', rt := Q } (startD N.length ds) m) :
    FnG P w K mg base CX0 (k + 1) f fd ps (toSp K sp) :=
  F.okG S (fun vs H Q E ⟨ds, m, Q', rs, r, h, c⟩ => r.length.trans (ar ds m Q' h)) fun cdv A fr t H vs Q E room ⟨ds, m, Q', rs, r, h, c⟩ => by
    obtain ⟨b, hb, hq⟩ := body cdv A fr t H E room
    exact ⟨_, hb.nox, _, m, _, sl_start r, rs, hq ds m Q' h, ⟨fun s' H' e' m' x rs' sl' q => c .non H' .non m' x rs' rfl q, c, fun _ _ _ _ _ _ _ q => False.elim q, fun _ _ _ _ _ _ _ q => False.elim q⟩⟩
end
end DL

set_option Elab.async false
set_option linter.all false
set_option maxRecDepth 100000
namespace DL
open PySem PySem.Spec PyProof.Rows L2 HT
section
variable {prog : Program} {w : World} {A : Around} {E : Value → Shared → Prop} {s : Shared}
theorem filterMap_eq {α β : Type} {f g : α → Option β} : ∀ {l : List α}, (∀ x ∈ l, f x = g x) → l.filterMap f = l.filterMap g
  | [], _ => rfl
  | x :: l, h => by
    rw [List.filterMap_cons, List.filterMap_cons, h x List.mem_cons_self, filterMap_eq fun y hy => h y (List.mem_cons_of_mem _ hy)]
theorem adjust_rev (n : Nat) : Builtin.Slice.sliceAdjust none none (-1) (n : Int) = ((n : Int) - 1, -1) := rfl
theorem places_rev (n : Nat) : Builtin.Slice.slicePlaces ((n : Int) - 1) (-1) (-1) = n := by
  unfold Builtin.Slice.slicePlaces
  have h1 : ¬ ((-1 : Int) > 0) := by omega
  have h2 : -(-1 : Int) = 1 := by omega
  simp only [h1, if_false, h2, Int.ediv_one]
  split <;> omega
theorem pick_rev (xs : Array Value) : ((List.range xs.size).filterMap fun (m : Nat) => xs[((xs.size : Int) - 1 + (m : Int) * -1).toNat]?).toArray = xs.toList.reverse.toArray := by
  have e : ∀ m ∈ List.range xs.size, xs[((xs.size : Int) - 1 + (m : Int) * -1).toNat]? = xs[xs.size - 1 - m]? := fun m hm => by
    have := List.mem_range.mp hm
    congr 1
    omega
  have e2 : (List.range xs.size).filterMap (fun (m : Nat) => xs[((xs.size : Int) - 1 + (m : Int) * -1).toNat]?) = ((List.range xs.size).map fun k => xs.size - 1 - k).filterMap (xs[·]?) := by
    rw [List.filterMap_map]
    exact filterMap_eq e
  rw [e2, PySem.W.krv_range, List.filterMap_reverse, PySem.W.krv_all]
theorem sliceApplied_rev {sl : Addr} {vs : Value} {n : Nat} {Q : Int × Int × Nat → Shared → Prop} (hs : s.heap.IsSliceOf sl .none .none vs) (ps : IsPart vs (some (-1))) (h : Q ((n : Int) - 1, -1, n) s) :
    wpAny (model prog w) A (Builtin.Slice.sliceApplied (.ref sl) (pure (n : Int))) Q E s := by
  obtain ⟨os, hos, hcs, hds⟩ := id hs
  unfold Builtin.Slice.sliceApplied Builtin.Slice.sliceFields
  refine wpAny_bind (wpAny_bind (wpAny_field hos hds (x := .none) rfl (wpAny_bind (wpAny_field hos hds (x := .none) rfl (wpAny_bind (wpAny_field hos hds (x := vs) rfl (wpAny_pure ?_)))))))
  refine wpAny_bind (slicePart_ ps ?_)
  show wpAny _ _ (if ((-1 : Int) == 0) = true then _ else _) _ _ s
  rw [if_neg (by decide)]
  refine wpAny_bind (slicePart_none (wpAny_bind (slicePart_none (wpAny_bind (wpAny_pure ?_)))))
  show wpAny _ _ (pure ((n : Int) - 1, (-1 : Int), Builtin.Slice.slicePlaces ((n : Int) - 1) (-1) (-1))) _ _ s
  rw [places_rev]
  exact wpAny_pure h
theorem getItem_tuple_rev {t sl : Addr} {items : Array Value} {vs : Value} {Q : Value → Shared → Prop} (ht : IsTup s.heap t items) (hs : s.heap.IsSliceOf sl .none .none vs) (ps : IsPart vs (some (-1)))
    (h : Q (.ref s.heap.objs.size) { s with heap := s.heap.push { cls := .type "tuple", data := .seq items.toList.reverse.toArray } }) (hsz : items.size ≤ sizeLine) : wpAny (model prog w) A (getItem (.ref t) (.ref sl)) Q E s := by
  have hok : sizeOk (.seq items.toList.reverse.toArray) := by
    show items.toList.reverse.toArray.size ≤ sizeLine
    rw [List.size_toArray, List.length_reverse, Array.length_toList]
    exact hsz
  obtain ⟨os, hos, hcs, hds⟩ := id hs
  unfold getItem
  try with_reducible refine wpAny_holding ?_
  first | refine wpAny_bind (wpAny_pure ?_) | skip
  refine wpAny_bind (wpAny_sequenceKey ht.typeIs (by decide) ?_)
  refine wpAny_bind (wpAny_callSpecial?_slot (name := Str.ofString "__getitem__") ht.typeIs PyProof.Rows.slot_tuple_getitem (wpAny_call_entry PyProof.Rows.slot_tuple_getitem ht.typeIs entry_tuple_getitem ?_ (args_tuple_getitem _ _)))
  show wpAny _ _ (Builtin.Tuple.tupleItemsOf (.ref t) >>= _) _ _ s
  refine wpAny_bind (tupleItemsOf_ ht (wpAny_bind (wpAny_typeOf (T := "slice") ⟨os, hos, hcs⟩ ?_)))
  rw [if_pos (by decide)]
  refine wpAny_bind (sliceApplied_rev hs ps ?_)
  have hno : ¬ ((((items.size : Int) - 1) == 0 && (-1 : Int) == 1 && items.size == items.size) = true) := by simp
  show wpAny _ _ (if (((items.size : Int) - 1) == 0 && (-1 : Int) == 1 && items.size == items.size) = true then _ else _) _ _ s
  rw [if_neg hno, pick_rev]
  first
    | exact wpAny_bind (m := Builtin.Tuple.tupleExact _) (wpAny_newObj_type (wpAny_pure ⟨_, rfl, wpAny_pure h⟩) hok)
    | exact wpAny_bind (m := Builtin.Tuple.tupleExact _) (wpAny_newObj_type (wpAny_bind (wpAny_pure (wpAny_pure ⟨_, rfl, wpAny_pure h⟩))) hok)
    | exact wpAny_bind (wpAny_bind (m := Builtin.Tuple.tupleExact _) (wpAny_newObj_type (wpAny_pure (wpAny_pure ⟨_, rfl, wpAny_pure h⟩)) hok))
    | exact wpAny_bind (wpAny_bind (m := Builtin.Tuple.tupleExact _) (wpAny_newObj_type (wpAny_pure ⟨_, rfl, wpAny_pure h⟩) hok))
end
section
variable {X : Cx} {K : PySem.W.Frag}
/-! ### t[::-1], s[::-1] -/
def revS (z : Str) : Str := ⟨z.cps.toList.reverse.toArray⟩
theorem revS_length (z : Str) : (revS z).length = z.length := by simp [revS, Str.length]
theorem made_rev (z : Str) (t : Tok) (k : Tok) : sliceMade z t none none (some (-1, k)) = Made.str (revS z) := by
  unfold sliceMade slicePicked Builtin.Str.strSliceIndices
  have h : ((Option.map (·.1) (some ((-1 : Int), k))).getD 1 == 1 && (sliceRange ((z.length : Int) - 1) (-1) (-1)).length == z.length) = false := by simp
  show (if ((-1 : Int) == 1 && (sliceRange ((z.length : Int) - 1) (-1) (-1)).length == z.length) = true then _ else Made.str ⟨((sliceRange ((z.length : Int) - 1) (-1) (-1)).filterMap (z.cps[·]?)).toArray⟩) = _
  rw [if_neg (by simp), PySem.W.krv_sliceRange, PySem.W.krv_range, List.filterMap_reverse]
  have := PySem.W.krv_all z.cps
  show Made.str ⟨((List.range z.cps.size).filterMap (z.cps[·]?)).reverse.toArray⟩ = _
  rw [this]
  rfl
def gRev : D → Mu → DK → Prop := fun d m Q => match d with
  | .tup ds => ds.length ≤ sizeLine ∧ Q (.tup ds.reverse) m
  | .str z => z.length ≤ sizeLine ∧ Q (.str (revS z)) m
  | d => match lv m d with
    | some ds => Q (.lst ds.reverse) m
    | none => False
def dRev (te : DTE) : DTE := fun e m Q => te e m fun d m1 => gRev d m1 Q
theorem de_rev {e : Expr} {te : DTE} {k : Nat} {p1 p2 p3 pos : Pos} (he : DE X e te) : DE X (.Subscript e (.Slice none none (some (.UnaryOp .USub (.Constant (.int 1) k p1) p2)) p3) pos) (dRev te) := by
  refine ⟨fun pins s σ H R I ⟨ev, m, Q, sl, rs, t, c⟩ => ?_⟩
  refine Subscript_ (thn (he.run pins s σ H _ I ⟨ev, m, _, sl, rs, t, fun v H1 d m1 x1 rs1 r1 t1 => (show ∃ d m1, Ext m H m1 H1 ∧ RS X.K m1 H1 ∧ Rp X.K m1 H1 d v ∧ gRev d m1 Q from ⟨d, m1, x1, rs1, r1, t1⟩)⟩) fun v s1 ⟨x, H1, I1, rx, d, m1, x1, rs1, r1, q1⟩ => ?_)
  have hst : PO X (some (.UnaryOp .USub (.Constant (.int 1) k p1) p2)) (tPart (tUn (rU fun i => .int (-i)) (tC (.int 1)))) := po_some (pe_un un_neg pe_int)
  refine wpAny_Slice ?_
  rw [evalPart_none]
  refine wpAny_pure (wpAny_pure ?_)
  refine thn (hst.run pins s1 σ H1 (fun o H4 => o = some (-1) ∧ H4 = H1) I1 ⟨1, rfl, -1, rfl, rfl, rfl⟩) fun vs s4 ⟨o, H4, I4, ps, eo, e4⟩ => ?_
  subst eo e4
  have I5 : Inv X pins σ H4 { s4 with heap := s4.heap.push { cls := .type "slice", data := .fields #[.none, .none, vs] } } := I4.kept (t' := s4.toks) fun b ob q => Heap.get?_push_of_some _ q
  have fr := I5.hok.fresh (Nat.le_refl _)
  have c1 := c.from x1
  cases d with
  | tup ds =>
    obtain ⟨a, xs, rfl, h2, h3⟩ := Rp_tup r1
    cases rx
    obtain ⟨its, r, ht, hz⟩ := I5.tuple h2
    refine tail_any (ops := [.ref a, .ref s4.heap.objs.size]) ht.typeIs PyProof.Rows.slot_tuple_getitem.lookup ?_ (by with_unfolding_all rfl)
    refine getItem_tuple_rev ht (Heap.IsSliceOf.new _ .none .none vs) ps ?_ (by rw [List.size_toArray, ← r.length]; exact hz)
    refine ⟨.ref _, _, I5.laid (t' := s4.toks) (o := .tup xs.reverse) (fun b ob q => Heap.get?_push_of_some _ q) (Nat.le_refl _) ?_, rfl, laidT fr rs1 (Rps.rev h3) q1.2 c1⟩
    exact ⟨by rw [List.length_reverse]; exact hz, _, r.reverse, ⟨_, Heap.get?_push_size _ rfl, rfl, 0, rfl⟩⟩
  | str z =>
    have r1 : x = .str z := r1
    subst r1
    obtain ⟨t, rfl⟩ := rx
    refine tail_any (ops := [.str z t, .ref s4.heap.objs.size]) (typeIs_str _ _ _) PySem.F.slot_str_getitem.lookup ?_ (by with_unfolding_all rfl)
    cases ps with
    | int i k =>
      refine wpAny_getItem_str_slice (l := none) (u := none) (st := some (-1, k)) ⟨_, Heap.get?_push_size _ rfl, rfl, rfl⟩ rfl ?_
      rw [made_rev]
      exact ⟨by rw [revS_length]; exact q1.1, .str (revS z), _, I5.tok _, ⟨_, rfl⟩, c1 (.str _) _ (.str _) m1 (Ext.refl _ _) rs1 rfl q1.2⟩
  | lst ds =>
    obtain ⟨a, xs, rfl, h2, h3⟩ := lv_at rs1 r1 rfl
    cases rx
    obtain ⟨its, r, ht, hz⟩ := I5.list (SqL.of h2)
    refine tail_any (ops := [.ref a, .ref s4.heap.objs.size]) ht.isList.typeIs PySem.slot_list_getitem.lookup ?_ (by with_unfolding_all rfl)
    refine wpAny_getItem_list_slice ht.isList (Heap.IsSliceOf.new _ .none .none vs) .none .none ps (by decide) ?_ (by rw [List.size_toArray, ← r.length]; exact hz)
    rw [PySem.W.krv_pick]
    refine ⟨.ref _, _, I5.laid (t' := s4.toks) (o := .lst xs.reverse) (fun b ob q => Heap.get?_push_of_some _ q) (Nat.le_refl _) ?_, rfl, laidL fr rs1 (Rps.rev h3) q1 c1⟩
    exact ⟨by rw [List.length_reverse]; exact hz, _, 0, r.reverse, Heap.get?_push_size _ rfl⟩
  | ref b =>
    unfold gRev at q1
    simp only at q1
    split at q1
    · rename_i ds hds
      obtain ⟨a, xs, rfl, h2, h3⟩ := lv_at rs1 r1 hds
      cases rx
      obtain ⟨its, r, ht, hz⟩ := I5.list (SqL.of h2)
      refine tail_any (ops := [.ref a, .ref s4.heap.objs.size]) ht.isList.typeIs PySem.slot_list_getitem.lookup ?_ (by with_unfolding_all rfl)
      refine wpAny_getItem_list_slice ht.isList (Heap.IsSliceOf.new _ .none .none vs) .none .none ps (by decide) ?_ (by rw [List.size_toArray, ← r.length]; exact hz)
      rw [PySem.W.krv_pick]
      refine ⟨.ref _, _, I5.laid (t' := s4.toks) (o := .lst xs.reverse) (fun b ob q => Heap.get?_push_of_some _ q) (Nat.le_refl _) ?_, rfl, laidL fr rs1 (Rps.rev h3) q1 c1⟩
      exact ⟨by rw [List.length_reverse]; exact hz, _, 0, r.reverse, Heap.get?_push_size _ rfl⟩
    · exact q1.elim
  | _ => exact False.elim q1
end
end DL

set_option Elab.async false
set_option linter.all false
set_option maxRecDepth 100000
namespace DL
open PySem PySem.Spec PyProof.Rows L2
section
variable {X : Cx} {K : PySem.W.Frag}
/-! ### a def of the text, where it stands -/
structure At (K : PySem.W.Frag) (mg : Str → Option Value) (x : Str) (st : Stmt) (ps : List Str) (f : Addr) (fd : FuncData) : Prop where
  fn : Fun K x x st f fd
  bind : Binds K fd ps []
  here : mg x = some (.ref f)
section
variable {k : Nat} {f : Addr} {fd : FuncData} {ps : List Str} {sp : DSp} {x : Str} {st : Stmt} {p pos : Pos} {e : Expr} {es : List Expr} {ta : DTA}
theorem At.call (a : At X.K X.mg x st ps f fd) (F : FnG X.prog X.w X.K X.mg X.base CX0 k f fd ps (toSp X.K sp)) (room : RoomG k X.A) (hg : Gl X x) (ha : DA X (e :: es) ta)
    (hdb : (x == ("__debug__" : Str)) = false := by decide) (he : starEach (e :: es) X.env = (false, eval e X.env) :: starEach es X.env := by rfl) (hpl : (backTo pos (starEach es X.env)).any (·.1) = false := by rfl) : DE X (.Call (.Name x p) (e :: es) [] pos) (dCall sp ta) :=
  de_call F room hg a.here a.fn.kp a.bind ha hdb he hpl
theorem At.call0 (a : At X.K X.mg x st ps f fd) (F : FnG X.prog X.w X.K X.mg X.base CX0 k f fd ps (toSp X.K sp)) (room : RoomG k X.A) (hg : Gl X x) (hdb : (x == ("__debug__" : Str)) = false := by decide) : DE X (.Call (.Name x p) [] [] pos) (dCall sp dNil) :=
  de_call0 F room hg a.here a.fn.kp a.bind hdb
end
/-! ### + of lists, to a list that shall change; texts repeated -/
def gAddLM : G2 := fun x y m Q => match lv m x, lv m y with
  | some a, some b => a.length + b.length ≤ sizeLine ∧ ∀ p, m p = none → Q (.ref p) (mset m p (.lst (a ++ b)))
  | _, _ => False
theorem i_addLM : OpI K rCat gAddLM := fun x y dx dy m H Q R rs rx ry q c => by
  unfold gAddLM at q
  split at q
  · rename_i a b ha hb
    obtain ⟨p, xs, rfl, h2, h3⟩ := lv_at rs rx ha
    obtain ⟨p', ys, rfl, h2', h3'⟩ := lv_at rs ry hb
    exact ⟨p, p', xs, ys, rfl, rfl, h2, h2', by rw [h3.length, h3'.length]; exact q.1, fun z hz => laidM hz rs (h3.app h3') (q.2 z (rs.fresh hz)) c⟩
  · exact q.elim
def repZ (z : Str) (k : Nat) : Str := ⟨(List.replicate k z.cps).foldl (· ++ ·) #[]⟩
def rRepS : R2 := fun x y H Q => ∃ (z : Str) (k : Int), x = .str z ∧ y = .int k ∧ 2 ≤ k ∧ k ≤ 1000 ∧ (z.length == 0) = false ∧ z.length * k.toNat ≤ 1000000 ∧ (repZ z k.toNat).length ≤ sizeLine ∧ Q (.str (repZ z k.toNat)) H
theorem op_repS : OpR X (binaryOp .Mult) rRepS := by
  intro pins s σ H x y v u Q I rx ry h
  obtain ⟨z, k, rfl, rfl, h1, h2, h3, h4, h5, q⟩ := h
  obtain ⟨t, rfl⟩ := rx
  obtain ⟨t', rfl⟩ := ry
  have hk : ¬ k < 1 := by omega
  have hk1 : (k == 1 || z.length == 0) = false := by
    rw [h3, Bool.or_false]
    exact beq_eq_false_iff_ne.mpr (by omega)
  refine PySem.P.mul_str (by rw [decide_eq_false (by omega), decide_eq_false (by omega)]; rfl) (fun _ _ => ?_) (fun _ _ => ?_) ?_
  · have hz : (z.length : Int) ≤ 1000000 := by
      have : z.length * 1 ≤ z.length * k.toNat := Nat.mul_le_mul_left _ (by omega)
      omega
    have : (1000000 : Int) ≤ (2 ^ 63 - 1) / k := by
      rw [Int.le_ediv_iff_mul_le (by omega)]
      have : (1000000 : Int) * k ≤ 1000000 * 1000 := Int.mul_le_mul_of_nonneg_left h2 (by omega)
      omega
    omega
  · show decide (z.length * k.toNat > sizeLine) = false
    rw [sizeLine_eq]
    exact decide_eq_false (by omega)
  · rw [if_neg hk, hk1, if_neg (by decide)]
    exact ⟨h5, .str _, H, I.tok _, ⟨_, rfl⟩, q⟩
def gRepS : G2 := fun x y m Q => match x, y with
  | .str z, .int k => 2 ≤ k ∧ k ≤ 1000 ∧ (z.length == 0) = false ∧ z.length * k.toNat ≤ 1000000 ∧ (repZ z k.toNat).length ≤ sizeLine ∧ Q (.str (repZ z k.toNat)) m
  | _, _ => False
theorem i_repS : OpI K rRepS gRepS := fun x y dx dy m H Q R rs rx ry q c => by
  cases dx <;> try exact q.elim
  cases dy <;> try exact q.elim
  obtain ⟨q1, q2, q3, q4, q5, q6⟩ := q
  exact ⟨_, _, rx, ry, q1, q2, q3, q4, q5, c (.str _) H (.str _) m (Ext.refl _ _) rs rfl q6⟩
/-! ### xs.index(y) of flat things -/
def ixD (y : D) : List D → Option Nat
  | [] => none
  | d :: ds => if PyData.eqv d.py y.py = true then some 0 else (ixD y ds).map (· + 1)
theorem ixD_at (y : D) : ∀ {ds : List D} {j : Nat}, ixD y ds = some j → (∃ z, ds[j]? = some z ∧ PyData.eqv z.py y.py = true) ∧ ∀ (k : Nat) (z : D), k < j → ds[k]? = some z → PyData.eqv z.py y.py = false
  | [], _, h => by cases h
  | d :: ds, j, h => by
    simp only [ixD] at h
    split at h
    · rename_i he
      cases h
      exact ⟨⟨d, rfl, he⟩, fun k z hk => absurd hk (by omega)⟩
    · rename_i he
      cases hi : ixD y ds with
      | none => rw [hi] at h; cases h
      | some i =>
        rw [hi] at h
        cases h
        obtain ⟨⟨z, h1, h2⟩, h3⟩ := ixD_at y hi
        refine ⟨⟨z, by simpa using h1, h2⟩, fun k z' hk hz => ?_⟩
        cases k with
        | zero => simp at hz; subst hz; simpa using he
        | succ k => exact h3 k z' (Nat.lt_of_succ_lt_succ hk) (by simpa using hz)
def gLIndex : GM := fun o ys m Q => match lv m o, ys with
  | some ds, [y] => flD y = true ∧ ds.all flD = true ∧ (match ixD y ds with
    | some j => Q (.int (j : Nat)) m
    | none => False)
  | _, _ => False
theorem i_lindex : MtI K (rIndex K) gLIndex := fun x vs d ds m H Q R rs rx rv q c => by
  unfold gLIndex at q
  split at q
  · rename_i es y hl
    obtain ⟨q1, q2, q3⟩ := q
    split at q3
    · rename_i j hj
      obtain ⟨a, xs, rfl, h1, h2⟩ := lv_at rs rx hl
      obtain ⟨u, rfl, h3⟩ := Rps1 rv
      obtain ⟨⟨z, g1, g2⟩, g3⟩ := ixD_at y hj
      obtain ⟨v, e1, e2⟩ := h2.get g1
      have hf : ∀ (k : Nat) (z : D), es[k]? = some z → flD z = true := fun k z hz => List.all_eq_true.mp q2 z (List.mem_of_getElem? hz)
      refine ⟨a, xs, u, j, v, rfl, rfl, SqL.of h1, flV_of h3 q1, (in_of h3 q1 h2 q2).1, e1, by rw [eqV_of e2 h3 (hf _ _ g1) q1]; exact g2, fun k z' hk hz => ?_, c (.int _) H (.int _) m (Ext.refl _ _) rs rfl q3⟩
      have hk2 : k < es.length := by
        have := (List.getElem?_eq_some_iff.mp g1).1
        omega
      obtain ⟨v', f1, f2⟩ := h2.get (List.getElem?_eq_getElem hk2)
      rw [hz] at f1
      cases f1
      rw [eqV_of f2 h3 (hf _ _ (List.getElem?_eq_getElem hk2)) q1]
      exact g3 k _ hk (List.getElem?_eq_getElem hk2)
    · exact q3.elim
  · exact q.elim
/-- N.index(e), N a tuple of texts at the top -/
def dKIndex (ys : List Str) (te : DTE) : DTE := fun e m Q => te e m fun d m1 => match d with
  | .str z => (match ixD (.str z) (ys.map D.str) with
    | some j => Q (.int (j : Nat)) m1
    | none => False)
  | _ => False
theorem de_kindex {x : Str} {a : Addr} {o : Obj} {ys : List Str} {ex : Expr} {te : DTE} {p apos cpos : Pos} (hg : Gl X x) (hm : X.mg x = some (.ref a)) (hk : X.K.lookup a = some o) (hc : o.cls = .type "tuple") (hd : o.dict = none) (kt : KT X.K a (ys.map V.str)) (he : DE X ex te)
    (hdb : (x == ("__debug__" : Str)) = false := by decide) (hbase : attributeBase (.Name x p) "index" X.env (eval (.Name x p) X.env) = eval (.Name x p) X.env := by rfl)
    (hfew : ((backTo cpos (starEach [ex] X.env)).all (fun x => !x.1) && (backToKw cpos (keywordEach [] X.env)).all (fun x => x.1.isSome) && decide (([ex] : List Expr).length + ([] : List Keyword).length + (if ([] : List Keyword).isEmpty then 0 else 1) < 30)) = true := by rfl)
    (hline : (apos.endLine == cpos.line) = true := by rfl) (hs : starEach [ex] X.env = (false, eval ex X.env) :: starEach [] X.env := by rfl) (hplain : (backTo cpos (starEach [] X.env)).any (·.1) = false := by rfl) :
    DE X (.Call (.Attribute (.Name x p) "index" apos) [ex] [] cpos) (dKIndex ys te) :=
  (pe_bm PySem.F.plainAttrs_tuple PySem.F.slot_tuple_index PySem.F.type_tuple_index mt_tup_index (pe_glob hg hm (show RelV (.ref a) (.ref a) from rfl) hdb) (pa_cons he pa_nil hs) hbase hfew hline hs hplain).imp fun s H R ⟨e, m, Q, sl, rs, t, c⟩ =>
    ⟨.inr (.inl ⟨rfl, o, hk, hc, hd⟩), e, m, _, sl, rs, t, fun v H1 d m1 x1 rs1 r1 t1 => by
      cases d with
      | str z =>
        simp only at t1
        split at t1
        · rename_i j hj
          obtain ⟨⟨z', g1, g2⟩, g3⟩ := ixD_at _ hj
          have r1 : v = .str z := r1
          subst r1
          have key : ∀ (k : Nat) (w : D), (ys.map D.str)[k]? = some w → ∃ y, ys[k]? = some y ∧ w = .str y := fun k w hw => by
            rw [List.getElem?_map] at hw
            cases hy : ys[k]? with
            | none => rw [hy] at hw; cases hw
            | some y => rw [hy] at hw; cases hw; exact ⟨y, rfl, rfl⟩
          obtain ⟨y, k1, rfl⟩ := key j z' g1
          have k2 : y = z := by simpa [D.py, PyData.eqv] using g2
          subst k2
          refine ⟨a, ys, y, j, rfl, rfl, .inr kt, k1, fun k hk hq => ?_, c (.int _) H1 (.int _) m1 x1 rs1 rfl t1⟩
          have := g3 k (.str y) hk (by rw [List.getElem?_map, hq]; rfl)
          simp [D.py, PyData.eqv] at this
        · exact t1.elim
      | _ => exact t1.elim⟩

/-! ### the feed -/
/-- a["cells"] of a feed -/
def dFCells (to : DTE) : DTE := fun e m Q => to e m fun o m1 => match o with
  | .ref a => (match m1 a with
    | some (.fd cs) => Q (.lst (cs.map D.int)) m1
    | _ => False)
  | _ => False
/-- a["count"] and the like: some number from 0 on -/
def dFInt (to : DTE) : DTE := fun e m Q => to e m fun o m1 => match o with
  | .ref a => (match m1 a with
    | some (.fd _) => ∀ i : Int, 0 ≤ i → Q (.int i) m1
    | _ => False)
  | _ => False
def dFPut (to tv : DTE) : DTS := fun D e m => tv e m fun v m1 => to e m1 fun o m2 => match v, o with
  | .int i, .ref a => 0 ≤ i ∧ (match m2 a with
    | some (.fd _) => D.nx e m2
    | _ => False)
  | _, _ => False
section
variable {o value : Expr} {to tv : DTE} {j : Nat} {p pos pos' : Pos}
theorem de_fcells (hu : X.A.units + 1 < cLine) (ho : DE X o to) (hs : NoSl (.Constant (.str "cells") j p) := by exact fun _ _ => rfl) : DE X (.Subscript o (.Constant (.str "cells") j p) pos) (dFCells to) :=
  (pe_dget hu ho pe_str hs).imp fun s H R ⟨e, m, Q, sl, rs, t, c⟩ => ⟨e, m, _, sl, rs, t, fun v H1 d m1 x1 rs1 r1 t1 => by
    cases d with
    | ref a =>
      have r1 : v = .ref a := r1
      subst r1
      simp only at t1
      split at t1
      · rename_i cs hm
        obtain ⟨l, x, y, z, h1, h2, h3, h4⟩ := rs1 a _ hm
        exact ⟨a, .ref l, rfl, DGet.k (k := kCells) h1, c (.ref l) H1 (.lst (cs.map D.int)) m1 x1 rs1 ⟨l, _, rfl, ⟨h2, h3⟩, Rps.ints cs⟩ t1⟩
      · exact t1.elim
    | _ => exact t1.elim⟩
theorem fint {k : Key} {n : Str} (hk : k = Sum.inr n) (hin : k = kAt ∨ k = kLeft ∨ k = kCount) {H : Hp} {a : Addr} {l : Addr} {x y z : Int} (h1 : H a = some (.dK [(kCells, .ref l), (kAt, .int x), (kLeft, .int y), (kCount, .int z)])) (h2 : 0 ≤ x) (h3 : 0 ≤ y) (h4 : 0 ≤ z) :
    ∃ i : Int, 0 ≤ i ∧ DGet H a (.str n) (some (.int i)) := by
  rcases hin with e | e | e
  · refine ⟨x, h2, ?_⟩
    have := DGet.k (k := k) h1
    rw [e] at this hk
    rw [show V.str n = kV kAt by rw [hk]; rfl]
    exact this
  · refine ⟨y, h3, ?_⟩
    have := DGet.k (k := k) h1
    rw [e] at this hk
    rw [show V.str n = kV kLeft by rw [hk]; rfl]
    exact this
  · refine ⟨z, h4, ?_⟩
    have := DGet.k (k := k) h1
    rw [e] at this hk
    rw [show V.str n = kV kCount by rw [hk]; rfl]
    exact this
theorem de_fint {n : Str} (hin : (Sum.inr n : Key) = kAt ∨ (Sum.inr n : Key) = kLeft ∨ (Sum.inr n : Key) = kCount) (hu : X.A.units + 1 < cLine) (ho : DE X o to) (hs : NoSl (.Constant (.str n) j p) := by exact fun _ _ => rfl) : DE X (.Subscript o (.Constant (.str n) j p) pos) (dFInt to) :=
  (pe_dget hu ho pe_str hs).imp fun s H R ⟨e, m, Q, sl, rs, t, c⟩ => ⟨e, m, _, sl, rs, t, fun v H1 d m1 x1 rs1 r1 t1 => by
    cases d with
    | ref a =>
      have r1 : v = .ref a := r1
      subst r1
      simp only at t1
      split at t1
      · rename_i cs hm
        obtain ⟨l, x, y, z, h1, h2, h3, h4, h5, h6, h7⟩ := rs1 a _ hm
        obtain ⟨i, g1, g2⟩ := fint rfl hin h1 h5 h6 h7
        exact ⟨a, .int i, rfl, g2, c (.int i) H1 (.int i) m1 x1 rs1 rfl (t1 i g1)⟩
      · exact t1.elim
    | _ => exact t1.elim⟩
theorem fput {k : Key} {n : Str} (hk : k = Sum.inr n) (hin : k = kAt ∨ k = kLeft ∨ k = kCount) {H : Hp} {a : Addr} {l : Addr} {x y z i : Int} (h1 : H a = some (.dK [(kCells, .ref l), (kAt, .int x), (kLeft, .int y), (kCount, .int z)])) (h2 : 0 ≤ x) (h3 : 0 ≤ y) (h4 : 0 ≤ z) (h5 : 0 ≤ i) :
    ∃ x' y' z' : Int, 0 ≤ x' ∧ 0 ≤ y' ∧ 0 ≤ z' ∧ DPut H a (.str n) (.int i) (upd H a (.dK [(kCells, .ref l), (kAt, .int x'), (kLeft, .int y'), (kCount, .int z')])) := by
  have := DPut.k (k := k) (v := .int i) h1 (by show 4 < sizeLine; decide)
  rcases hin with e | e | e
  · refine ⟨i, y, z, h5, h3, h4, ?_⟩
    rw [e] at this hk
    rw [show V.str n = kV kAt by rw [hk]; rfl]
    exact this
  · refine ⟨x, i, z, h2, h5, h4, ?_⟩
    rw [e] at this hk
    rw [show V.str n = kV kLeft by rw [hk]; rfl]
    exact this
  · refine ⟨x, y, i, h2, h3, h5, ?_⟩
    rw [e] at this hk
    rw [show V.str n = kV kCount by rw [hk]; rfl]
    exact this
theorem ds_fput {n : Str} (hin : (Sum.inr n : Key) = kAt ∨ (Sum.inr n : Key) = kLeft ∨ (Sum.inr n : Key) = kCount) (hu : X.A.units + 1 < cLine) (ho : DE X o to) (hv : DE X value tv) (hs : swapsWith value (some (.Subscript o (.Constant (.str n) j p) pos')) pos.line X.env = pure false := by rfl) :
    DS X (.Assign [.Subscript o (.Constant (.str n) j p) pos'] value pos) (dFPut to tv) :=
  (ps_dput hu ho pe_str hv hs).imp fun E s H ⟨e, m, D, sl, rs, t, c⟩ => ⟨e, m, _, sl, rs, t, fun v H1 d m1 x1 rs1 r1 t1 => ⟨e, m1, _, sl.mono x1, rs1, t1, fun u H2 d2 m2 x2 rs2 r2 t2 => by
    cases d with
    | int i =>
      cases d2 with
      | ref a =>
        have r1 : v = .int i := r1
        have r2 : u = .ref a := r2
        subst r1 r2
        simp only at t2
        obtain ⟨hi, t2⟩ := t2
        split at t2
        · rename_i cs hm
          obtain ⟨l, x, y, z, h1, h2, h3, h4, h5, h6, h7⟩ := rs2 a _ hm
          obtain ⟨x', y', z', g1, g2, g3, g4⟩ := fput rfl hin h1 h5 h6 h7 hi
          have same : mset m2 a (.fd cs) = m2 := by
            funext b
            unfold mset
            by_cases hb : b = a
            · rw [if_pos hb, hb, hm]
            · rw [if_neg hb]
          have hla : l ≠ a := fun z => by rw [z, hm] at h2; cases h2
          have w : Ext m2 H2 (mset m2 a (.fd cs)) (upd H2 a (.dK [(kCells, .ref l), (kAt, .int x'), (kLeft, .int y'), (kCount, .int z')])) := Ext.write hm
          have rw_ := rs2.write (q' := .fd cs) hm ⟨l, x', y', z', upd_same, by rw [mset_ne hla]; exact h2, by rw [upd_ne hla]; exact h3, h4, g1, g2, g3⟩
          rw [same] at w rw_
          exact ⟨a, _, rfl, g4, c.nx s _ e m2 ((x1.trans x2).trans w) rw_ (((sl.mono x1).mono x2).mono w) t2⟩
        · exact t2.elim
      | _ => exact t2.elim
    | _ => cases d2 <;> exact t2.elim⟩⟩
end
/-- {"cells": e, "at": 0, "left": 0, "count": 0} -/
def dFeed (te : DTE) : DTE := fun e m Q => ∀ p, m p = none → te e (mset m p (.dK [])) fun d m1 => m1 p = some (.dK []) ∧ match d with
  | .lst ds => ∃ cs : List Int, ds = cs.map D.int ∧ cs.length ≤ 63 ∧ Q (.ref p) (mset m1 p (.fd cs))
  | _ => False
theorem ints_of {m : Mu} {H : Hp} : ∀ {cs : List Int} {xs : List V}, Rps K m H (cs.map D.int) xs → xs = cs.map V.int
  | [], _, h => h
  | c :: cs, _, h => by
    obtain ⟨x, r, rfl, h2, h3⟩ := h
    have h2 : x = .int c := h2
    rw [h2, ints_of h3]
    rfl
theorem de_feed {v : Expr} {te : DTE} {pos p1 p2 p3 p4 q2 q3 q4 : Pos} {j1 j2 j3 j4 k2 k3 k4 : Nat} (he : DE X v te) :
    DE X (.Dict [some (.Constant (.str "cells") j1 p1), some (.Constant (.str "at") j2 p2), some (.Constant (.str "left") j3 p3), some (.Constant (.str "count") j4 p4)] [v, .Constant (.int 0) k2 q2, .Constant (.int 0) k3 q3, .Constant (.int 0) k4 q4] pos) (dFeed te) :=
  (pe_disp (pps_cons pe_str he (pps_cons pe_str pe_int (pps_cons pe_str pe_int (pps_cons pe_str pe_int pps_nil)))) rfl rfl (fun z => by cases z) (by show 4 ≤ 15; decide)).imp fun s H R ⟨e, m, Q, sl, rs, t, c⟩ p hp => by
    have f := rs.fresh hp
    have x0 : Ext m H (mset m p (.dK [])) (upd H p (.dK [])) := Ext.laidM hp
    have rs0 : RS X.K (mset m p (.dK [])) (upd H p (.dK [])) := rs.laidM (q := .dK []) hp ⟨[], upd_same, rfl⟩
    refine ⟨e, _, _, sl.mono x0, rs0, t p f, fun v H1 d m1 x1 rs1 r1 ⟨g, t1⟩ => ?_⟩
    cases d with
    | lst ds =>
      obtain ⟨cs, rfl, hl, t1⟩ := t1
      obtain ⟨l, xs, rfl, ⟨h1, h2⟩, h3⟩ := r1
      rw [ints_of h3] at h2
      obtain ⟨vs, k1, k2⟩ := rs1 p _ g
      have k2 : vs = [] := k2
      subst k2
      refine ⟨k1, [(kCells, .ref l), (kAt, .int 0), (kLeft, .int 0), (kCount, .int 0)], rfl, by show 4 ≤ 15; decide, ?_⟩
      have hlp : l ≠ p := fun z => by rw [z, k1] at h2; cases h2
      have w : Ext m1 H1 (mset m1 p (.fd cs)) (upd H1 p (.dK [(kCells, .ref l), (kAt, .int 0), (kLeft, .int 0), (kCount, .int 0)])) := Ext.write g
      exact c (.ref p) _ (.ref p) _ ((x0.trans x1).trans w) (rs1.write (q' := .fd cs) g ⟨l, 0, 0, 0, upd_same, by rw [mset_ne hlp]; exact h1, by rw [upd_ne hlp]; exact h2, hl, Int.le_refl _, Int.le_refl _, Int.le_refl _⟩) rfl t1
    | _ => exact t1.elim
end
end DL

set_option Elab.async false
set_option linter.all false
set_option maxRecDepth 100000
namespace DL
open PySem PySem.Spec PyProof.Rows L2
section
variable {X : Cx} {K : PySem.W.Frag}
/-! ### + and - with truths among them -/
def rBI (f : Int → Int → Int) : R2 := fun x y H Q => ∃ b i, x = .bl b ∧ y = .int i ∧ Q (.int (f (if b = true then 1 else 0) i)) H
def rIB (f : Int → Int → Int) : R2 := fun x y H Q => ∃ i b, x = .int i ∧ y = .bl b ∧ Q (.int (f i (if b = true then 1 else 0))) H
theorem op_addBI : OpR X (binaryOp .Add) (rBI fun i j => i + j) := by
  intro pins s σ H x y v u Q I rx ry h
  obtain ⟨b, i, rfl, rfl, q⟩ := h
  obtain ⟨t, rfl⟩ := ry
  cases (show v = Value.bool b from rx)
  exact PySem.IntBool.add_bool_int ⟨.int _, H, I.tok _, ⟨_, rfl⟩, q⟩
theorem op_addIB : OpR X (binaryOp .Add) (rIB fun i j => i + j) := by
  intro pins s σ H x y v u Q I rx ry h
  obtain ⟨i, b, rfl, rfl, q⟩ := h
  obtain ⟨t, rfl⟩ := rx
  cases (show u = Value.bool b from ry)
  exact add_int_bool ⟨.int _, H, I.tok _, ⟨_, rfl⟩, q⟩
theorem op_subBI : OpR X (binaryOp .Sub) (rBI fun i j => i - j) := by
  intro pins s σ H x y v u Q I rx ry h
  obtain ⟨b, i, rfl, rfl, q⟩ := h
  obtain ⟨t, rfl⟩ := ry
  cases (show v = Value.bool b from rx)
  exact PySem.IntBool.sub_bool_int ⟨.int _, H, I.tok _, ⟨_, rfl⟩, q⟩
theorem op_subIB : OpR X (binaryOp .Sub) (rIB fun i j => i - j) := by
  intro pins s σ H x y v u Q I rx ry h
  obtain ⟨i, b, rfl, rfl, q⟩ := h
  obtain ⟨t, rfl⟩ := rx
  cases (show u = Value.bool b from ry)
  exact PySem.IntBool.sub_int_bool ⟨.int _, H, I.tok _, ⟨_, rfl⟩, q⟩
def gAdd2 : G2 := fun x y m Q => match x, y with
  | .bl a, .int j => Q (.int ((if a = true then 1 else 0) + j)) m
  | .int i, .bl b => Q (.int (i + (if b = true then 1 else 0))) m
  | x, y => gAdd x y m Q
def gSub2 : G2 := fun x y m Q => match x, y with
  | .int i, .int j => Q (.int (i - j)) m
  | .bl a, .int j => Q (.int ((if a = true then 1 else 0) - j)) m
  | .int i, .bl b => Q (.int (i - (if b = true then 1 else 0))) m
  | _, _ => False
def rAdd2 (K : PySem.W.Frag) : R2 := fun x y H Q => (rBI (fun i j => i + j) x y H Q ∨ rIB (fun i j => i + j) x y H Q) ∨ rPlus K x y H Q
def rSub2 : R2 := fun x y H Q => (rBI (fun i j => i - j) x y H Q ∨ rIB (fun i j => i - j) x y H Q) ∨ rI0 (fun i j => .int (i - j)) x y H Q
theorem op_add2 : OpR X (binaryOp .Add) (rAdd2 X.K) := (op_addBI.or op_addIB).or op_plus
theorem op_sub2 : OpR X (binaryOp .Sub) rSub2 := (op_subBI.or op_subIB).or op_sub
theorem i_add2 : OpI K (rAdd2 K) gAdd2 := fun x y dx dy m H Q R rs rx ry q c => by
  cases dx with
  | bl a => cases dy with
    | int j => exact .inl (.inl ⟨a, j, rx, ry, c (.int _) H (.int _) m (Ext.refl _ _) rs rfl q⟩)
    | _ => exact .inr (i_add _ _ (.bl a) _ m H Q R rs rx ry q c)
  | int i => cases dy with
    | bl b => exact .inl (.inr ⟨i, b, rx, ry, c (.int _) H (.int _) m (Ext.refl _ _) rs rfl q⟩)
    | _ => exact .inr (i_add _ _ (.int i) _ m H Q R rs rx ry q c)
  | _ => exact .inr (i_add _ _ _ _ m H Q R rs rx ry (by cases dy <;> exact q) c)
theorem i_sub2 : OpI K rSub2 gSub2 := fun x y dx dy m H Q R rs rx ry q c => by
  cases dx with
  | bl a => cases dy with
    | int j => exact .inl (.inl ⟨a, j, rx, ry, c (.int _) H (.int _) m (Ext.refl _ _) rs rfl q⟩)
    | _ => exact False.elim q
  | int i => cases dy with
    | bl b => exact .inl (.inr ⟨i, b, rx, ry, c (.int _) H (.int _) m (Ext.refl _ _) rs rfl q⟩)
    | int j => exact .inr (i_sub _ _ (.int i) (.int j) m H Q R rs rx ry q c)
    | _ => exact False.elim q
  | _ => exact False.elim (by cases dy <;> exact q)
/-! ### a constant of the top -/
structure CstT (K : PySem.W.Frag) (mg : Str → Option Value) (x : Str) (ys : List Str) (a : Addr) (o : Obj) : Prop where
  here : mg x = some (.ref a)
  look : K.lookup a = some o
  cls : o.cls = .type "tuple"
  nod : o.dict = none
  kt : KT K a (ys.map V.str)
theorem CstT.rp {mg : Str → Option Value} {x : Str} {ys : List Str} {a : Addr} {o : Obj} (c : CstT K mg x ys a o) (m : Mu) (H : Hp) : Rp K m H (.tup (ys.map D.str)) (.ref a) := by
  have sOf : ∀ ys : List Str, Rps K m H (ys.map D.str) (ys.map V.str) := fun ys => by
    induction ys with
    | nil => rfl
    | cons y ys ih => exact ⟨_, _, rfl, rfl, ih⟩
  exact ⟨a, _, rfl, .inr c.kt, sOf ys⟩
end
/-! ### what a def made for itself alone is let go -/
def Less (m m' : Mu) : Prop := ∀ a, m' a = m a ∨ m' a = none
theorem Less.refl (m : Mu) : Less m m := fun _ => .inl rfl
theorem Less.ext {m m' : Mu} {H : Hp} (l : Less m m') : Ext m H m' H := fun a o h1 h2 => ⟨h2, by
  rcases l a with e | e
  · rw [e, h1]
  · exact e⟩
theorem Less.rs {K : PySem.W.Frag} {m m' : Mu} {H : Hp} (l : Less m m') (r : RS K m H) : RS K m' H := fun a o e => by
  rcases l a with z | z
  · rw [z] at e; exact MOok.mono l.ext (fun _ h => h) (r a o e)
  · rw [z] at e; cases e
theorem Less.mset {m : Mu} {p : Addr} {o : MO} (h : m p = none) : Less (mset m p o) m := fun a => by
  by_cases e : a = p
  · exact .inr (by rw [e]; exact h)
  · exact .inl (by rw [mset_ne e])
theorem Less.trans {m m' m'' : Mu} (a : Less m m') (b : Less m' m'') : Less m m'' := fun x => by
  rcases b x with e | e
  · rcases a x with z | z
    · exact .inl (e.trans z)
    · exact .inr (e.trans z)
  · exact .inr e
def dRetX (te : DTE) : DTS := fun D e m => te e m fun d m1 => ∃ m2, Less m1 m2 ∧ D.rt d m2
theorem ds_retX {X : Cx} {ex : Expr} {te : DTE} {pos : Pos} (he : DE X ex te) : DS X (.Return (some ex) pos) (dRetX te) :=
  (ps_ret he).imp fun E s H ⟨e, m, D, sl, rs, t, c⟩ => ⟨e, m, _, sl, rs, t, fun v H1 d m1 x1 rs1 r1 ⟨m2, l, t1⟩ => c.rt v H1 d m2 (x1.trans l.ext) (l.rs rs1) (Rp.mono l.ext _ _ r1) t1⟩
theorem RoomG.u1 {k : Nat} {A : Around} (r : RoomG k A) : A.units + 1 < cLine := by have := r.room.un; omega
end DL

set_option Elab.async false
set_option linter.all false
set_option maxRecDepth 100000
namespace DL
open PySem PySem.Spec PyProof.Rows L2
section
variable {X : Cx} {K : PySem.W.Frag}
/-! ### a dict of the top: text keys, tuples of texts -/
structure CstD (K : PySem.W.Frag) (w : World) (mg : Str → Option Value) (x : Str) (T : List (Str × List Str)) (a : Addr) : Prop where
  here : mg x = some (.ref a)
  kd : ∃ es n, KDict K w a es n
  no : ∀ z, T.lookup z = none → PySem.W.nsIn K a z = some none
  yes : ∀ z ys, T.lookup z = some ys → ∃ b, PySem.W.nsIn K a z = some (some (.ref b)) ∧ KT K b (ys.map V.str)
def dInK (neg : Bool) (T : List (Str × List Str)) (te : DTE) : DTE := fun e m Q => te e m fun d m1 => match d with
  | .str z => Q (.bl (if neg = true then !(T.lookup z).isSome else (T.lookup z).isSome)) m1
  | _ => False
def dIxK (T : List (Str × List Str)) (te : DTE) : DTE := fun e m Q => te e m fun d m1 => match d with
  | .str z => (match T.lookup z with
    | some ys => Q (.tup (ys.map D.str)) m1
    | none => False)
  | _ => False
theorem strsR (m : Mu) (H : Hp) : ∀ ys : List Str, Rps K m H (ys.map D.str) (ys.map V.str)
  | [] => rfl
  | y :: ys => ⟨_, _, rfl, rfl, strsR m H ys⟩
section
variable {x : Str} {T : List (Str × List Str)} {a : Addr} {ex : Expr} {te : DTE} {p pos : Pos}
theorem inK_get (c : CstD K w mg x T a) (z : Str) : ∃ r : Option Value, PySem.W.nsIn K a z = some r ∧ r.isSome = (T.lookup z).isSome := by
  cases hz : T.lookup z with
  | none => exact ⟨none, c.no z hz, rfl⟩
  | some ys =>
    obtain ⟨b, h1, _⟩ := c.yes z ys hz
    exact ⟨_, h1, rfl⟩
theorem inK_imp {w : World} {mg : Str → Option Value} (c : CstD K w mg x T a) (neg : Bool) : ∀ s H R, lE K (dInK neg T te) s H R → tOp (fun x y H Q => ∃ (z : Str) (r : Option Value), x = .str z ∧ y = .ref a ∧ PySem.W.nsIn K a z = some r ∧ Q (.bl (if neg = true then !r.isSome else r.isSome)) H) (lE K te) (tC (.ref a)) s H R := by
  rintro s H R ⟨e, m, Q, sl, rs, t, cc⟩
  refine ⟨e, m, _, sl, rs, t, fun v H1 d m1 x1 rs1 r1 t1 => ?_⟩
  cases d with
  | str z =>
    have r1 : v = .str z := r1
    subst r1
    obtain ⟨r, h1, h2⟩ := inK_get c z
    exact ⟨z, r, rfl, rfl, h1, cc (.bl _) H1 (.bl _) m1 x1 rs1 rfl (by rw [h2]; exact t1)⟩
  | _ => exact False.elim t1
theorem de_inK (c : CstD X.K X.w X.mg x T a) (hg : Gl X x) (he : DE X ex te) (hdb : (x == ("__debug__" : Str)) = false := by decide) (hm : behindInMarks .In (.Name x p) = false := by rfl) : DE X (.Compare ex [.In] [.Name x p] pos) (dInK false T te) := by
  obtain ⟨es, n, kd⟩ := c.kd
  exact (pe_cmpR (op_in_kd kd) he (pe_glob hg c.here (show RelV (.ref _) (.ref _) from rfl) hdb) hm).imp (inK_imp c false)
theorem dt_inK (c : CstD X.K X.w X.mg x T a) (hg : Gl X x) (he : DE X ex te) (hdb : (x == ("__debug__" : Str)) = false := by decide) (hm : behindInMarks .In (.Name x p) = false := by rfl) : DT X (.Compare ex [.In] [.Name x p] pos) (dB (dInK false T te)) := by
  obtain ⟨es, n, kd⟩ := c.kd
  exact (pt_cmpR (op_in_kd kd) he (pe_glob hg c.here (show RelV (.ref _) (.ref _) from rfl) hdb) hm).imp fun s H R h => by
    obtain ⟨e, m, Q, sl, rs, t, c'⟩ := b_imp s H R h
    exact inK_imp c false s H _ ⟨e, m, Q, sl, rs, t, c'⟩
theorem de_notInK (c : CstD X.K X.w X.mg x T a) (hg : Gl X x) (he : DE X ex te) (hdb : (x == ("__debug__" : Str)) = false := by decide) (hm : behindInMarks .NotIn (.Name x p) = false := by rfl) : DE X (.Compare ex [.NotIn] [.Name x p] pos) (dInK true T te) := by
  obtain ⟨es, n, kd⟩ := c.kd
  exact (pe_cmpR (op_notIn_kd kd) he (pe_glob hg c.here (show RelV (.ref _) (.ref _) from rfl) hdb) hm).imp (inK_imp c true)
theorem dt_notInK (c : CstD X.K X.w X.mg x T a) (hg : Gl X x) (he : DE X ex te) (hdb : (x == ("__debug__" : Str)) = false := by decide) (hm : behindInMarks .NotIn (.Name x p) = false := by rfl) : DT X (.Compare ex [.NotIn] [.Name x p] pos) (dB (dInK true T te)) := by
  obtain ⟨es, n, kd⟩ := c.kd
  exact (pt_cmpR (op_notIn_kd kd) he (pe_glob hg c.here (show RelV (.ref _) (.ref _) from rfl) hdb) hm).imp fun s H R h => by
    obtain ⟨e, m, Q, sl, rs, t, c'⟩ := b_imp s H R h
    exact inK_imp c true s H _ ⟨e, m, Q, sl, rs, t, c'⟩
theorem de_ixK (c : CstD X.K X.w X.mg x T a) (hg : Gl X x) (he : DE X ex te) (hs : PlainIx ex) (hdb : (x == ("__debug__" : Str)) = false := by decide) : DE X (.Subscript (.Name x p) ex pos) (dIxK T te) :=
  (pe_ix ix_kdict (pe_glob hg c.here (show RelV (.ref a) (.ref a) from rfl) hdb) he hs).imp fun s H R ⟨e, m, Q, sl, rs, t, cc⟩ => ⟨e, m, _, sl, rs, t, fun v H1 d m1 x1 rs1 r1 t1 => by
    cases d with
    | str z =>
      have r1 : v = .str z := r1
      subst r1
      simp only at t1
      split at t1
      · rename_i ys hz
        obtain ⟨b, h1, h2⟩ := c.yes z ys hz
        obtain ⟨es, n, kd⟩ := c.kd
        exact ⟨a, z, .ref b, rfl, rfl, ⟨es, n, .ref b, kd.at_, kd.lit, h1, rfl⟩, cc (.ref b) H1 (.tup _) m1 x1 rs1 ⟨b, _, rfl, .inr h2, strsR m1 H1 ys⟩ t1⟩
      · exact t1.elim
    | _ => exact False.elim t1⟩
end
/-! ### zip of two tuples -/
def wZip (ta : DTA) : DTI := fun e m Q => ta e m fun ds m1 => match ds with
  | [.tup a, .tup b] => Q (List.zipWith (fun x y => D.tup [x, y]) a b) yes m1
  | _ => False
theorem walks_Z {a b : Addr} {xs ys : List V} {ds es : List D} {m : Mu} {H : Hp} (h : FzT K m H a xs) (r : Rps K m H ds xs) (h' : FzT K m H b ys) (r' : Rps K m H es ys) : Walks K (RZ.ItzT K a b) yes (List.zipWith (fun x y => D.tup [x, y]) ds es) m H := fun m1 H1 x rs _ => by
  have q := (h.mono x).seq
  have q' := (h'.mono x).seq
  have p := Rps.mono x _ _ r
  have p' := Rps.mono x _ _ r'
  refine ⟨fun i d hd => ?_, xs, ys, q, q', ?_⟩
  · rw [List.getElem?_zipWith] at hd
    cases e1 : ds[i]? with
    | none => rw [e1] at hd; cases hd
    | some d1 =>
      cases e2 : es[i]? with
      | none => rw [e1, e2] at hd; cases hd
      | some d2 =>
        rw [e1, e2] at hd
        cases hd
        obtain ⟨v1, f1, g1⟩ := p.get e1
        obtain ⟨v2, f2, g2⟩ := p'.get e2
        refine ⟨⟨xs, ys, v1, v2, q, q', f1, f2⟩, fun y H' hy => ?_⟩
        obtain ⟨T, u1, u2, e, hT, eH, w1, w2⟩ := hy
        subst e eH
        have w1 := w1 xs q
        have w2 := w2 ys q'
        rw [f1] at w1; cases w1
        rw [f2] at w2; cases w2
        have xe : Ext m1 H1 m1 (upd H1 T (.tup [v1, v2])) := Ext.laid hT
        exact ⟨xe, rs.laid hT, T, _, rfl, .inl ⟨rs.fresh hT, upd_same⟩, v1, _, rfl, Rp.mono xe _ _ g1, v2, _, rfl, Rp.mono xe _ _ g2, rfl⟩
  · rw [List.length_zipWith, p.length, p'.length]
    omega
theorem di_zip {e e2 : Expr} {ta : DTA} {p pos tpos : Pos} {elts : List Expr} {kk : Nat} (hg : Gl X "zip") (hm : X.mg "zip" = none) (ha : DA X [e, e2] ta)
    (hs : starEach [e, e2] X.env = (false, eval e X.env) :: starEach [e2] X.env := by rfl) (hpl : (backTo pos (starEach [e2] X.env)).any (·.1) = false := by rfl) :
    DI X (.Tuple elts kk tpos) (.Call (.Name "zip" p) [e, e2] [] pos) (wZip ta) :=
  (RZ.pi_zipA hg hm ha hs hpl).imp fun s H R ⟨e, m, Q, sl, rs, t, c⟩ => ⟨e, m, _, sl, rs, t, fun vs H1 ds m1 x1 rs1 r1 t1 => by
    split at t1
    · rename_i da db
      obtain ⟨v, u, rfl, r, r'⟩ := Rps2 r1
      obtain ⟨a, xs, rfl, h2, h3⟩ := r
      obtain ⟨b, ys, rfl, h2', h3'⟩ := r'
      exact ⟨a, b, xs, ys, rfl, .inr ⟨h2.seq, h2'.seq, c _ H1 _ yes m1 x1 rs1 (walks_Z h2 h3 h2' h3') t1⟩⟩
    · exact t1.elim⟩
/-! ### three, five names at once out of a tuple -/
def dAsg3 (i j k : Nat) (te : DTE) : DTS := fun D e m => te e m fun d m1 => match d with
  | .tup [x, y, z] => D.nx (((e.set i (some x)).set j (some y)).set k (some z)) m1
  | _ => False
theorem ds_asg3 {i j k : Nat} {x y z : Str} {ex : Expr} {te : DTE} {px py pz pt : Pos} {kt : Nat} {pos : Pos} (hc : X.calm = true) (hN : X.N.Nodup) (hi : X.N[i]? = some x) (hj : X.N[j]? = some y) (hk : X.N[k]? = some z) (hx : Loc X.env.scope x) (hy : Loc X.env.scope y) (hz : Loc X.env.scope z) (he : DE X ex te)
    (hs : swapsWithSole [.Tuple [.Name x px, .Name y py, .Name z pz] kt pt] ex pos.line X.env = pure false := by rfl) (hw : swappedStores [.Tuple [.Name x px, .Name y py, .Name z pz] kt pt] ex X.env = pure none := by rfl)
    (h1 : (assignEach [.Tuple [.Name x px, .Name y py, .Name z pz] kt pt] X.env).map (·.2) = [assign (.Tuple [.Name x px, .Name y py, .Name z pz] kt pt) X.env] := by rfl)
    (hf : X.fn x = true ∨ X.env.scope.names.lookup x = some .local := by first | exact .inl rfl | exact .inr rfl) (hf' : X.fn y = true ∨ X.env.scope.names.lookup y = some .local := by first | exact .inl rfl | exact .inr rfl) (hf2 : X.fn z = true ∨ X.env.scope.names.lookup z = some .local := by first | exact .inl rfl | exact .inr rfl) :
    DS X (.Assign [.Tuple [.Name x px, .Name y py, .Name z pz] kt pt] ex pos) (dAsg3 i j k te) :=
  (ps_asg he (pg_tup hc (pgs_cons (pg_name hN hi hx hf) (pgs_cons (pg_name hN hj hy hf') (pgs_cons (pg_name hN hk hz hf2) pgs_nil)))) hs hw h1).imp fun E s H ⟨e, m, D, sl, rs, t, c⟩ => ⟨e, m, _, sl, rs, t, fun v H1 d m1 x1 rs1 r1 t1 => by
    split at t1
    · rename_i dx dy dz
      obtain ⟨a, xs, rfl, h2, h3⟩ := Rp_tup r1
      obtain ⟨u, r', rfl, ra, u2, r2, rfl, rb, u3, r3, rfl, rc, h4⟩ := h3
      have h4 : r3 = [] := h4
      subst h4
      exact ⟨a, _, rfl, h2, rfl, u, _, rfl, u2, _, rfl, u3, _, rfl, rfl, c.nx _ H1 _ m1 x1 rs1 ((((sl.mono x1).set ra).set rb).set rc) t1⟩
    · exact t1.elim⟩
def dAsg5 (i j k l n : Nat) (te : DTE) : DTS := fun D e m => te e m fun d m1 => match d with
  | .tup [x, y, z, u, v] => D.nx (((((e.set i (some x)).set j (some y)).set k (some z)).set l (some u)).set n (some v)) m1
  | _ => False
theorem ds_asg5 {i j k l n : Nat} {x y z u w : Str} {ex : Expr} {te : DTE} {px py pz pu pw pt : Pos} {kt : Nat} {pos : Pos} (hc : X.calm = true) (hN : X.N.Nodup) (hi : X.N[i]? = some x) (hj : X.N[j]? = some y) (hk : X.N[k]? = some z) (hl : X.N[l]? = some u) (hn : X.N[n]? = some w) (hx : Loc X.env.scope x) (hy : Loc X.env.scope y) (hz : Loc X.env.scope z) (hu : Loc X.env.scope u) (hv : Loc X.env.scope w) (he : DE X ex te)
    (hs : swapsWithSole [.Tuple [.Name x px, .Name y py, .Name z pz, .Name u pu, .Name w pw] kt pt] ex pos.line X.env = pure false := by rfl) (hw : swappedStores [.Tuple [.Name x px, .Name y py, .Name z pz, .Name u pu, .Name w pw] kt pt] ex X.env = pure none := by rfl)
    (h1 : (assignEach [.Tuple [.Name x px, .Name y py, .Name z pz, .Name u pu, .Name w pw] kt pt] X.env).map (·.2) = [assign (.Tuple [.Name x px, .Name y py, .Name z pz, .Name u pu, .Name w pw] kt pt) X.env] := by rfl)
    (hf : X.fn x = true ∨ X.env.scope.names.lookup x = some .local := by first | exact .inl rfl | exact .inr rfl) (hf' : X.fn y = true ∨ X.env.scope.names.lookup y = some .local := by first | exact .inl rfl | exact .inr rfl) (hf2 : X.fn z = true ∨ X.env.scope.names.lookup z = some .local := by first | exact .inl rfl | exact .inr rfl)
    (hf3 : X.fn u = true ∨ X.env.scope.names.lookup u = some .local := by first | exact .inl rfl | exact .inr rfl) (hf4 : X.fn w = true ∨ X.env.scope.names.lookup w = some .local := by first | exact .inl rfl | exact .inr rfl) :
    DS X (.Assign [.Tuple [.Name x px, .Name y py, .Name z pz, .Name u pu, .Name w pw] kt pt] ex pos) (dAsg5 i j k l n te) :=
  (ps_asg he (pg_tup hc (pgs_cons (pg_name hN hi hx hf) (pgs_cons (pg_name hN hj hy hf') (pgs_cons (pg_name hN hk hz hf2) (pgs_cons (pg_name hN hl hu hf3) (pgs_cons (pg_name hN hn hv hf4) pgs_nil)))))) hs hw h1).imp fun E s H ⟨e, m, D, sl, rs, t, c⟩ => ⟨e, m, _, sl, rs, t, fun v H1 d m1 x1 rs1 r1 t1 => by
    split at t1
    · obtain ⟨a, xs, rfl, h2, h3⟩ := Rp_tup r1
      obtain ⟨u1, r1', rfl, ra, u2, r2, rfl, rb, u3, r3, rfl, rc, u4, r4, rfl, rd, u5, r5, rfl, re, h4⟩ := h3
      have h4 : r5 = [] := h4
      subst h4
      exact ⟨a, _, rfl, h2, rfl, u1, _, rfl, u2, _, rfl, u3, _, rfl, u4, _, rfl, u5, _, rfl, rfl, c.nx _ H1 _ m1 x1 rs1 ((((((sl.mono x1).set ra).set rb).set rc).set rd).set re) t1⟩
    · exact t1.elim⟩
/-! ### one sign in a text -/
def gInS (neg : Bool) : G2 := fun x y m Q => match x, y with
  | .str x, .str z => ∃ c, x = ⟨#[c]⟩ ∧ Q (.bl (if neg = true then !decide (c ∈ z.cps.toList) else decide (c ∈ z.cps.toList))) m
  | _, _ => False
theorem i_inS : OpI K (fun x y H Q => ∃ (c : Nat) (z : Str), x = .str ⟨#[c]⟩ ∧ y = .str z ∧ Q (.bl (decide (c ∈ z.cps.toList))) H) (gInS false) := fun x y dx dy m H Q R rs rx ry q c => by
  cases dx <;> try exact q.elim
  cases dy <;> try exact q.elim
  obtain ⟨k, rfl, q⟩ := q
  exact ⟨k, _, rx, ry, c (.bl _) H (.bl _) m (Ext.refl _ _) rs rfl q⟩
theorem i_notInS : OpI K (fun x y H Q => ∃ (c : Nat) (z : Str), x = .str ⟨#[c]⟩ ∧ y = .str z ∧ Q (.bl (!decide (c ∈ z.cps.toList))) H) (gInS true) := fun x y dx dy m H Q R rs rx ry q c => by
  cases dx <;> try exact q.elim
  cases dy <;> try exact q.elim
  obtain ⟨k, rfl, q⟩ := q
  exact ⟨k, _, rx, ry, c (.bl _) H (.bl _) m (Ext.refl _ _) rs rfl q⟩
end
end DL

set_option Elab.async false
set_option linter.all false
set_option maxRecDepth 100000
namespace DL
open PySem PySem.Spec PyProof.Rows L2
section
variable {X : Cx} {K : PySem.W.Frag}
/-! ### dicts with text keys that are written out -/
theorem tPairs_const (f : Str × V → TE × TE) (hf : ∀ kv, f kv = (tC (.str kv.1), tC kv.2)) : ∀ (ps : List (Str × V)) (σ : L2.St) (H : Hp) (Q : List (V × V) → Hp → Prop), Q (ps.map fun kv => (V.str kv.1, kv.2)) H → tPairs (ps.map f) σ H Q
  | [], _, _, _, q => q
  | p :: ps, σ, H, Q, q => by
    rw [List.map_cons, hf]
    exact tPairs_const f hf ps σ H _ q
def cK (ps : List (Str × V)) : List (Key × V) := ps.map fun kv => (Sum.inr kv.1, kv.2)
theorem mergeK_new : ∀ (more kvs : List (Key × V)), ((kvs ++ more).map (·.1)).Nodup → mergeK kvs more = kvs ++ more
  | [], kvs, _ => by rw [List.append_nil]; rfl
  | p :: r, kvs, h => by
    have e : putK kvs p.1 p.2 = kvs ++ [p] := by
      unfold putK
      rw [if_neg]
      intro z
      obtain ⟨q, hq, hk⟩ := List.any_eq_true.mp z
      have hk := of_decide_eq_true hk
      rw [List.map_append, List.map_cons, List.nodup_append] at h
      exact h.2.2 q.1 (List.mem_map.mpr ⟨q, hq, rfl⟩) p.1 List.mem_cons_self hk
    show mergeK (putK kvs p.1 p.2) r = _
    rw [e, mergeK_new r (kvs ++ [p]) (by rw [List.append_assoc]; exact h), List.append_assoc]
    rfl
theorem inr_nodup {ps : List (Str × V)} (h : (ps.map (·.1)).Nodup) : ((cK ps).map (·.1)).Nodup := by
  unfold cK
  rw [List.map_map]
  have e : (fun x : Key × V => x.1) ∘ (fun kv : Str × V => ((Sum.inr kv.1 : Key), kv.2)) = (fun x : Str => (Sum.inr x : Key)) ∘ (fun kv : Str × V => kv.1) := rfl
  rw [e, ← List.map_map]
  exact List.Pairwise.map _ (fun a b (hab : a ≠ b) (z : (Sum.inr a : Key) = Sum.inr b) => hab (Sum.inr.inj z)) h
/-- the display: a new dict of these -/
theorem disp_new {pos : Pos} {keys : List (Option Expr)} {values : List Expr} {ps : List (Str × V)} (h : PPs X pos keys values (ps.map fun kv => (tC (.str kv.1), tC kv.2))) (hall : keys.all (·.isSome) = true) (hl : keys.length = values.length) (h0 : keys ≠ []) (h15 : keys.length ≤ 15) (hp : ps.length ≤ 15) (nd : (ps.map (·.1)).Nodup) :
    PE X (.Dict keys values pos) (fun _ H Q => ∀ p, H p = none → Q (.ref p) (upd H p (.dK (cK ps)))) :=
  (pe_disp h hall hl h0 h15).imp fun s H R q p hp' => by
    refine tPairs_const _ (fun _ => rfl) ps _ _ _ ⟨upd_same, cK ps, ?_, by unfold cK; rw [List.length_map]; exact hp, ?_⟩
    · unfold cK; rw [List.map_map]; rfl
    · rw [mergeK_new (cK ps) [] (by rw [List.nil_append]; exact inr_nodup nd), List.nil_append]
      have e : upd (upd H p (.dK [])) p (.dK (cK ps)) = upd H p (.dK (cK ps)) := by
        funext b
        unfold upd
        by_cases hb : b = p
        · simp [hb]
        · simp [hb]
      rw [e]
      exact q p hp'
/-! .. of texts, as a dict that may change -/
def kvS (ps : List (Str × Str)) : List (Key × D) := ps.map fun kv => (Sum.inr kv.1, D.str kv.2)
def vS (ps : List (Str × Str)) : List (Str × V) := ps.map fun kv => (kv.1, V.str kv.2)
theorem rkvS (m : Mu) (H : Hp) : ∀ ps : List (Str × Str), Rkv K m H (kvS ps) (cK (vS ps))
  | [] => rfl
  | p :: ps => ⟨_, _, rfl, rfl, rfl, rkvS m H ps⟩
def dDisp (ps : List (Str × Str)) : DTE := fun _ m Q => ∀ p, m p = none → Q (.ref p) (mset m p (.dK (kvS ps)))
theorem de_disp {pos : Pos} {keys : List (Option Expr)} {values : List Expr} {ps : List (Str × Str)} (h : PPs X pos keys values ((vS ps).map fun kv => (tC (.str kv.1), tC kv.2))) (hall : keys.all (·.isSome) = true) (hl : keys.length = values.length) (h0 : keys ≠ []) (h15 : keys.length ≤ 15) (hp : ps.length ≤ 15) (nd : (ps.map (·.1)).Nodup) :
    DE X (.Dict keys values pos) (dDisp ps) :=
  (disp_new h hall hl h0 h15 (by unfold vS; rw [List.length_map]; exact hp) (by unfold vS; rw [List.map_map]; exact nd)).imp fun s H R ⟨e, m, Q, sl, rs, t, c⟩ p hp => by
    exact c (.ref p) _ (.ref p) _ (Ext.laidM hp) (rs.laidM (q := .dK (kvS ps)) hp ⟨_, upd_same, rkvS _ _ ps⟩) rfl (t p (rs.fresh hp))
theorem kvS_eq : ∀ (ps : List (Str × Str)) {m : Mu} {H : Hp} {vs : List (Key × V)}, Rkv K m H (kvS ps) vs → vs = cK (vS ps)
  | [], m, H, vs, h => h
  | p :: ps, m, H, vs, h => by
    obtain ⟨q, r, rfl, h1, h2, h3⟩ := h
    obtain ⟨q1, q2⟩ := q
    have h1 : q1 = Sum.inr p.1 := h1
    have h2 : q2 = .str p.2 := h2
    subst h1 h2
    rw [kvS_eq ps h3]
    rfl
theorem MOok.dS {m : Mu} {H : Hp} {a : Addr} {ps : List (Str × Str)} (rs : RS K m H) (h : m a = some (.dK (kvS ps))) : H a = some (.dK (cK (vS ps))) := by
  obtain ⟨vs, e, r⟩ := rs a _ h
  rw [e, kvS_eq ps r]
theorem val_lookup (z : Str) : ∀ ps : List (Str × V), valV (cK ps) (Sum.inr z : Key) = ps.lookup z
  | [] => rfl
  | p :: ps => by
    rw [List.lookup_cons]
    by_cases h : p.1 = z
    · rw [show cK (p :: ps) = (Sum.inr p.1, p.2) :: cK ps from rfl, valV_pos (by show (Sum.inr p.1 : Key) = Sum.inr z; rw [h])]
      rw [show (z == p.1) = true from by rw [h]; exact beq_self_eq_true z]
    · rw [show cK (p :: ps) = (Sum.inr p.1, p.2) :: cK ps from rfl, valV_neg (by intro e; exact h (Sum.inr.inj e))]
      rw [show (z == p.1) = false from beq_eq_false_iff_ne.mpr (Ne.symm h)]
      exact val_lookup z ps
theorem lookup_vS (z : Str) : ∀ ps : List (Str × Str), (vS ps).lookup z = (ps.lookup z).map V.str
  | [] => rfl
  | p :: ps => by
    rw [show vS (p :: ps) = (p.1, V.str p.2) :: vS ps from rfl, List.lookup_cons, List.lookup_cons]
    cases h : z == p.1 with
    | true => rfl
    | false => exact lookup_vS z ps
/-- z in d, not in d -/
def dDIn (neg : Bool) (ty td : DTE) : DTE := fun e m Q => ty e m fun y m1 => td e m1 fun x m2 => match y, x with
  | .str z, .ref a => ∃ ps, m2 a = some (.dK (kvS ps)) ∧ Q (.bl (if neg = true then !(ps.lookup z).isSome else (ps.lookup z).isSome)) m2
  | _, _ => False
/-- d[z] -/
def dDGet (td ty : DTE) : DTE := fun e m Q => td e m fun x m1 => ty e m1 fun y m2 => match x, y with
  | .ref a, .str z => ∃ ps r, m2 a = some (.dK (kvS ps)) ∧ ps.lookup z = some r ∧ Q (.str r) m2
  | _, _ => False
section
variable {o i : Expr} {td ty : DTE} {pos : Pos}
theorem din_imp : ∀ s H R, lE K (dDIn true ty td) s H R → tDNotIn (lE K ty) (lE K td) s H R := by
  rintro s H R ⟨e, m, Q, sl, rs, t, c⟩
  refine ⟨e, m, _, sl, rs, t, fun v H1 d m1 x1 rs1 r1 t1 => ⟨e, m1, _, sl.mono x1, rs1, t1, fun u H2 d2 m2 x2 rs2 r2 t2 => ?_⟩⟩
  split at t2
  · rename_i z a
    obtain ⟨ps, h1, q⟩ := t2
    have r1 : v = .str z := r1
    have r2 : u = .ref a := r2
    subst r1 r2
    refine ⟨a, _, rfl, DGet.k (k := Sum.inr z) (MOok.dS rs2 h1), (c.from x1).from x2 (.bl _) H2 (.bl _) m2 (Ext.refl _ _) rs2 ?_ q⟩
    rw [val_lookup, lookup_vS, Option.isSome_map]
    rfl
  · exact t2.elim
theorem de_notInD (hu : X.A.units + 1 < cLine) (hi : DE X i ty) (ho : DE X o td) (h1 : behindInMarks .NotIn o = false := by rfl) : DE X (.Compare i [.NotIn] [o] pos) (dDIn true ty td) := (pe_cmp (pc_dnotin hu hi ho) h1).imp din_imp
theorem dt_notInD (hu : X.A.units + 1 < cLine) (hi : DE X i ty) (ho : DE X o td) (h1 : behindInMarks .NotIn o = false := by rfl) : DT X (.Compare i [.NotIn] [o] pos) (dB (dDIn true ty td)) := (pt_cmp (pc_dnotin hu hi ho) h1).imp fun s H R h => by
  obtain ⟨e, m, Q, sl, rs, t, c⟩ := b_imp s H R h
  exact din_imp s H _ ⟨e, m, Q, sl, rs, t, c⟩
theorem de_dget (hu : X.A.units + 1 < cLine) (ho : DE X o td) (hi : DE X i ty) (hs : NoSl i) : DE X (.Subscript o i pos) (dDGet td ty) :=
  (pe_dget hu ho hi hs).imp fun s H R ⟨e, m, Q, sl, rs, t, c⟩ => ⟨e, m, _, sl, rs, t, fun v H1 d m1 x1 rs1 r1 t1 => ⟨e, m1, _, sl.mono x1, rs1, t1, fun u H2 d2 m2 x2 rs2 r2 t2 => by
    split at t2
    · rename_i a z
      obtain ⟨ps, r, h1, h2, q⟩ := t2
      have r1 : v = .ref a := r1
      have r2 : u = .str z := r2
      subst r1 r2
      refine ⟨a, .str r, rfl, ?_, (c.from x1).from x2 (.str r) H2 (.str r) m2 (Ext.refl _ _) rs2 rfl q⟩
      have := DGet.k (k := (Sum.inr z : Key)) (MOok.dS rs2 h1)
      rw [val_lookup, lookup_vS, h2] at this
      exact this
    · exact t2.elim⟩⟩
end
/-! ### d.update(e) -/
def rUpdate : V → List V → Hp → VK → Prop := fun x vs H Q => ∃ (a b : Addr) (kvs more : List (Key × V)), x = .ref a ∧ vs = [.ref b] ∧ a ≠ b ∧ H a = some (.dK kvs) ∧ H b = some (.dK more) ∧ kvs.length + more.length ≤ sizeLine ∧ Q .non (upd H a (.dK (mergeK kvs more)))
theorem mt_update : MtR X "dict.update" rUpdate := by
  intro pins s σ H x vs v us Q I rx rv h
  obtain ⟨a, b, kvs, more, rfl, rfl, hne, ea, eb, hz, q⟩ := h
  obtain rfl : v = Value.ref a := rx
  obtain ⟨u, us', rfl, ru, h'⟩ : ∃ u us', us = u :: us' ∧ RelV (.ref b) u ∧ us' = [] := by
    cases rv with
    | cons p r => cases r; exact ⟨_, _, rfl, p, rfl⟩
  subst h'
  obtain rfl : u = Value.ref b := ru
  obtain ⟨_, hda, va, ra, da⟩ := dk_of I.hok ea
  obtain ⟨_, hdb, vb, rb, db⟩ := dk_of I.hok eb
  refine call_meetsIn PySem.F.slot_dict_update da.typeIs PySem.F.entry_dict_update (PySem.F.args_dict_update_2 _ _) (meets_dict_update (mixKind X.prog X.w) a b hne hdb)
    ⟨va, vb, da, db, by rw [← ra.length, ← rb.length]; exact hz, fun h2 hm _ hs => ⟨.non, _, ?_, rfl, q⟩⟩
  have he : ∃ q, h2.get? a = some q := let ⟨q, _, _, hq, _⟩ := hm; ⟨q, hq⟩
  exact d_write (t' := s.toks) I (by rw [ea]; exact True.intro) hs he (dk_new (Nat.le_trans (length_mergeK more kvs) hz) hda (rb.merge ra) hm)
def okD' (d : D) (m : Mu) : Prop := ∃ a ps, d = .ref a ∧ m a = some (.dK (kvS ps))
theorem ty_D : TyI K "dict" okD' := fun d v m H rs r ⟨a, ps, e, h⟩ => by
  subst e
  have r : v = .ref a := r
  subst r
  exact .inr (.inr (.inl ⟨rfl, .inl ⟨_, MOok.dS rs h⟩⟩))
def gUpdate : GM := fun o ys m Q => match o, ys with
  | .ref a, [.ref b] => a ≠ b ∧ ∃ ps qs, m a = some (.dK (kvS ps)) ∧ m b = some (.dK (kvS qs)) ∧ ((ps ++ qs).map (·.1)).Nodup ∧ ps.length + qs.length ≤ sizeLine ∧ Q .non (mset m a (.dK (kvS (ps ++ qs))))
  | _, _ => False
theorem cK_app (ps qs : List (Str × Str)) : cK (vS ps) ++ cK (vS qs) = cK (vS (ps ++ qs)) := by unfold cK vS; simp only [List.map_append]
theorem i_update : MtI K rUpdate gUpdate := fun x vs d ds m H Q R rs rx rv q c => by
  unfold gUpdate at q
  split at q
  · rename_i a b
    obtain ⟨hne, ps, qs, ha, hb, nd, hz, q⟩ := q
    have rx : x = .ref a := rx
    subst rx
    obtain ⟨u, rfl, ru⟩ := Rps1 rv
    have ru : u = .ref b := ru
    subst ru
    have nd2 : ((cK (vS ps) ++ cK (vS qs)).map (·.1)).Nodup := by
      rw [cK_app]
      refine inr_nodup ?_
      unfold vS
      rw [List.map_map]
      exact nd
    refine ⟨a, b, _, _, rfl, rfl, hne, MOok.dS rs ha, MOok.dS rs hb, by simpa [cK, vS] using hz, ?_⟩
    rw [mergeK_new _ _ nd2, cK_app]
    exact c .non _ .non _ (Ext.write ha) (rs.write (q' := .dK (kvS (ps ++ qs))) ha ⟨_, upd_same, rkvS _ _ (ps ++ qs)⟩) rfl q
  · exact q.elim
/-! ### a def out of a dict of defs, called -/
def dCallF (fs : List (Str × DSp)) (ty : DTE) (ta : DTA) : DTE := fun e m Q => ty e m fun y m1 => match y with
  | .str z => (match fs.lookup z with
    | some sp => ta e m1 fun ds m2 => sp ds m2 Q
    | none => False)
  | _ => False
def FOk (X : Cx) (f : Addr) (sp : DSp) : Prop := ∃ k fd ps, FnG X.prog X.w X.K X.mg X.base CX0 k f fd ps (toSp X.K sp) ∧ RoomG k X.A ∧ PySem.W.keepIn X.K (.ref f) = true ∧ Binds X.K fd ps []
theorem look_map {α β : Type} (g : α → β) (z : Str) : ∀ l : List (Str × α), (l.map fun kv => (kv.1, g kv.2)).lookup z = (l.lookup z).map g
  | [] => rfl
  | p :: l => by
    rw [List.map_cons, List.lookup_cons, List.lookup_cons]
    cases z == p.1 with
    | true => rfl
    | false => exact look_map g z l
theorem de_callF {fs : List (Str × Addr × DSp)} {keys : List (Option Expr)} {values : List Expr} {idx e : Expr} {es : List Expr} {dpos spos pos : Pos} {ty : DTE} {ta : DTA} (hok : ∀ z f sp, fs.lookup z = some (f, sp) → FOk X f sp)
    (h : PPs X dpos keys values ((fs.map fun kv => (kv.1, V.ref kv.2.1)).map fun kv => (tC (.str kv.1), tC kv.2))) (hall : keys.all (·.isSome) = true) (hl : keys.length = values.length) (h0 : keys ≠ []) (h15 : keys.length ≤ 15) (hp : fs.length ≤ 15) (nd : (fs.map (·.1)).Nodup)
    (hu : X.A.units + 1 < cLine) (hi : DE X idx ty) (hs : NoSl idx) (ha : DA X (e :: es) ta)
    (ht : eval (.Call (.Subscript (.Dict keys values dpos) idx spos) (e :: es) [] pos) X.env = (do callWith pos (← eval (.Subscript (.Dict keys values dpos) idx spos) X.env) [] (backTo pos (starEach (e :: es) X.env)) (backToKw pos (keywordEach [] X.env))) := by rfl)
    (he : starEach (e :: es) X.env = (false, eval e X.env) :: starEach es X.env := by rfl) (hpl : (backTo pos (starEach es X.env)).any (·.1) = false := by rfl) :
    DE X (.Call (.Subscript (.Dict keys values dpos) idx spos) (e :: es) [] pos) (dCallF (fs.map fun kv => (kv.1, kv.2.2)) ty ta) := by
  have hf := pe_dget (pos := spos) hu (disp_new h hall hl h0 h15 (by rw [List.length_map]; exact hp) (by rw [List.map_map]; exact nd)) hi hs
  refine ⟨fun pins s σ H R I ⟨e0, m, Q, sl, rs, t, c⟩ => ?_⟩
  refine Call_ (thn (hf.run pins s σ H (fun v H2 => ∃ f sp m2, v = .ref f ∧ FOk X f sp ∧ Ext m H m2 H2 ∧ RS X.K m2 H2 ∧ ta e0 m2 fun ds m3 => sp ds m3 Q) I ?_) fun u s1 ⟨y, H1, I1, ry, f, sp, m2, ey, fok, x2, rs2, t2⟩ => ?_) ht
  · intro p hp
    refine ⟨e0, m, _, sl.mono (Ext.laid hp), rs.laid hp, t, fun v H2 d m2 x2 rs2 r2 t2 => ?_⟩
    split at t2
    · rename_i z
      split at t2
      · rename_i sp hz
        rw [look_map (fun q : Addr × DSp => q.2)] at hz
        obtain ⟨⟨f, sp'⟩, hz2, rfl⟩ := Option.map_eq_some_iff.mp hz
        have r2 : v = .str z := r2
        subst r2
        have hp2 := (x2 p _ (rs.fresh hp) upd_same).1
        have g := DGet.k (k := (Sum.inr z : Key)) hp2
        rw [val_lookup, look_map (fun q : Addr × DSp => V.ref q.1), hz2] at g
        exact ⟨p, .ref f, rfl, g, f, sp', m2, rfl, hok z f sp' hz2, (Ext.laid hp).trans x2, rs2, t2⟩
      · exact t2.elim
    · exact t2.elim
  · subst ey
    obtain rfl : u = Value.ref f := ry
    obtain ⟨k, fd, ps, F, room, hk, bind⟩ := fok
    refine PySem.W.callWith_K (h₀ := X.base) I1.ok.mod.kin hk (thn (ha.run pos pins s1 σ H1 (fun vs H3 => toSp X.K sp vs H3 R fun _ _ _ => False) I1 ⟨e0, m2, _, sl.mono x2, rs2, t2, fun vs H3 ds m3 x3 rs3 r3 t3 => ⟨ds, m3, Q, rs3, r3, t3, (c.from x2).from x3⟩⟩) fun us s2 ⟨vs, H3, I3, r, q⟩ => ⟨I3.kIn, goes_fn F room bind .nil pass0 I3 r (by rw [List.append_nil]; exact q)⟩) he hpl
end
end DL
namespace DL
open PySem PySem.Spec PyProof.Rows L2
theorem fok_nil {X : Cx} : ∀ (z : Str) (f : Addr) (sp : DSp), ([] : List (Str × Addr × DSp)).lookup z = some (f, sp) → FOk X f sp := fun z f sp h => by cases h
theorem fok_cons {X : Cx} {k : Str} {f : Addr} {sp : DSp} {fs : List (Str × Addr × DSp)} (h : FOk X f sp) (r : ∀ (z : Str) (f : Addr) (sp : DSp), fs.lookup z = some (f, sp) → FOk X f sp) : ∀ (z : Str) (f' : Addr) (sp' : DSp), ((k, f, sp) :: fs).lookup z = some (f', sp') → FOk X f' sp' := fun z f' sp' e => by
  rw [List.lookup_cons] at e
  cases hk : z == k with
  | true => rw [hk] at e; cases e; exact h
  | false => rw [hk] at e; exact r z f' sp' e
end DL

set_option Elab.async false
set_option linter.all false
set_option maxRecDepth 100000
namespace DL
open PySem PySem.Spec PyProof.Rows L2
/-! ### the ends: constants of the top as they stand -/
theorem KT.of {K : PySem.W.Frag} {a : Addr} {ys : List Str} {od : Option Addr} {its : Array Value} {n : Nat} {sl : Array (Option Value)} (l : K.lookup a = some ⟨.type "tuple", od, .seq its n, sl⟩) (z : its.size ≤ sizeLine) (v : Vals (ys.map V.str) its.toList) : KT K a (ys.map V.str) :=
  ⟨_, its, n, l, rfl, rfl, z, v⟩
theorem CstT.of {K : PySem.W.Frag} {mg : Str → Option Value} {x : Str} {a : Addr} {ys : List Str} {its : Array Value} {n : Nat} {sl : Array (Option Value)} (h : mg x = some (.ref a)) (l : K.lookup a = some ⟨.type "tuple", none, .seq its n, sl⟩) (z : its.size ≤ sizeLine) (v : Vals (ys.map V.str) its.toList) : CstT K mg x ys a ⟨.type "tuple", none, .seq its n, sl⟩ :=
  ⟨h, l, rfl, rfl, KT.of l z v⟩
def Ents (K : PySem.W.Frag) : List DictEntry → List (Str × List Str) → Prop
  | [], [] => True
  | e :: es, p :: T => (∃ t, e.key = .str p.1 t) ∧ (∃ b, e.val = .ref b ∧ KT K b (p.2.map V.str)) ∧ Ents K es T
  | _, _ => False
theorem ents_find {K : PySem.W.Frag} (z : Str) : ∀ {es : List DictEntry} {T : List (Str × List Str)}, Ents K es T →
    es.any (·.refKey) = false ∧ (T.lookup z = none → es.find? (·.key.isStr z) = none) ∧ ∀ ys, T.lookup z = some ys → ∃ e b, es.find? (·.key.isStr z) = some e ∧ e.val = .ref b ∧ KT K b (ys.map V.str)
  | [], [], _ => ⟨rfl, fun _ => rfl, fun ys h => by cases h⟩
  | [], _ :: _, h => h.elim
  | _ :: _, [], h => h.elim
  | e :: es, p :: T, ⟨⟨t, hk⟩, ⟨b, hv, kt⟩, r⟩ => by
    obtain ⟨h1, h2, h3⟩ := ents_find z r
    have e0 : e.refKey = false := by unfold DictEntry.refKey; rw [hk]
    have e1 : e.key.isStr z = (z == p.1) := by
      rw [hk]
      show (p.1 == z) = (z == p.1)
      exact Bool.eq_iff_iff.mpr ⟨fun h => by rw [eq_of_beq h]; exact beq_self_eq_true z, fun h => by rw [eq_of_beq h]; exact beq_self_eq_true p.1⟩
    refine ⟨by rw [List.any_cons, e0, h1]; rfl, fun h => ?_, fun ys h => ?_⟩
    · rw [List.lookup_cons] at h
      cases hz : z == p.1 with
      | true => rw [hz] at h; cases h
      | false =>
        rw [hz] at h
        rw [List.find?_cons, e1, hz]
        exact h2 h
    · rw [List.lookup_cons] at h
      cases hz : z == p.1 with
      | true =>
        rw [hz] at h
        cases h
        exact ⟨e, b, by rw [List.find?_cons, e1, hz], hv, kt⟩
      | false =>
        rw [hz] at h
        rw [List.find?_cons, e1, hz]
        exact h3 ys h
theorem CstD.of {K : PySem.W.Frag} {w : World} {mg : Str → Option Value} {x : Str} {T : List (Str × List Str)} {a : Addr} {es : Array DictEntry} {n : Nat} (h : mg x = some (.ref a)) (l : K.lookup a = some ⟨.type "dict", none, .dict es n, #[]⟩) (k : PySem.W.KeysLit w.params es.toList) (low : (a == sysModules) = false) (e : Ents K es.toList T) : CstD K w mg x T a :=
  ⟨h, ⟨es, n, l, k, low⟩, fun z hz => by
    obtain ⟨h1, h2, _⟩ := ents_find z e
    unfold PySem.W.nsIn
    rw [l]
    dsimp only
    rw [h2 hz]
    dsimp only
    rw [h1]
    rfl, fun z ys hz => by
    obtain ⟨_, _, h3⟩ := ents_find z e
    obtain ⟨en, b, f1, f2, f3⟩ := h3 ys hz
    refine ⟨b, ?_, f3⟩
    unfold PySem.W.nsIn
    rw [l]
    dsimp only
    rw [f1, ← f2]⟩
theorem none_any {P : Program} {w : World} {K : PySem.W.Frag} {mg : Str → Option Value} {base : Heap} {f : Addr} {fd : FuncData} {k : Nat} {ps : List Str} : FnG P w K mg base CX0 k f fd ps (toSp K fun _ _ _ => False) :=
  ⟨fun vs H Q E ⟨ds, m, Q', rs, r, h, c⟩ => h.elim, fun A fr t H args us vs Q E room e0 bind rel ⟨ds, m, Q', rs, r, h, c⟩ => h.elim⟩
/-- what is asked of the law's own def -/
theorem asked_of {sp : DSp} (hs : ∀ (ns : List Int) (m : Mu) (Q : DK), ns.length ≤ 63 → (∀ m', Q (.bl true) m') → sp [.scr ns] m Q) (K : PySem.W.Frag) (H : Hp) (a : Addr) (ns : List Int) (hn : ns.length ≤ 63) (hS : SqL K H a (ns.map V.int)) : toSp K sp [.ref a] H (fun v _ => v = .bl true) fun _ _ _ => False := by
  refine ⟨[.scr ns], fun _ => none, fun d _ => d = .bl true, (fun a o h => by cases h), ⟨.ref a, [], rfl, ⟨a, rfl, ?_⟩, rfl⟩, hs ns _ _ hn fun _ => rfl, fun v H' d m' _ _ r q => ?_⟩
  · rcases hS with h | h
    · exact .inl ⟨rfl, h⟩
    · exact .inr h
  · subst q
    exact r
end DL
namespace DL
open PySem PySem.Spec PyProof.Rows L2
def strsB : List Str → List Value → Bool
  | [], [] => true
  | y :: ys, .str x _ :: us => decide (x = y) && strsB ys us
  | _, _ => false
theorem strs_of : ∀ {ys : List Str} {us : List Value}, strsB ys us = true → Vals (ys.map V.str) us
  | [], [], _ => .nil
  | y :: ys, u :: us, h => by
    cases u with
    | str x t =>
      simp only [strsB, Bool.and_eq_true, decide_eq_true_eq] at h
      obtain ⟨rfl, h⟩ := h
      exact .cons ⟨t, rfl⟩ (strs_of h)
    | _ => simp [strsB] at h
  | [], _ :: _, h => by simp [strsB] at h
  | _ :: _, [], h => by simp [strsB] at h
def keyB (z : Str) : Value → Bool
  | .str x _ => decide (x = z)
  | _ => false
theorem keyB_of {z : Str} {v : Value} (h : keyB z v = true) : ∃ t, v = .str z t := by
  cases v with
  | str x t => simp only [keyB, decide_eq_true_eq] at h; exact ⟨t, by rw [h]⟩
  | _ => simp [keyB] at h
/-- the tuple at a, by a look -/
def tupB (K : PySem.W.Frag) (a : Addr) (ys : List Str) : Bool := match K.lookup a with
  | some ⟨.type n, _, .seq its _, _⟩ => decide (n = "tuple") && decide (its.size ≤ sizeLine) && strsB ys its.toList
  | _ => false
theorem tupB_of {K : PySem.W.Frag} {a : Addr} {ys : List Str} (h : tupB K a ys = true) : KT K a (ys.map V.str) := by
  unfold tupB at h
  split at h
  · rename_i n od its k sl e
    simp only [Bool.and_eq_true, decide_eq_true_eq] at h
    obtain ⟨⟨rfl, h1⟩, h2⟩ := h
    exact ⟨_, its, k, e, rfl, rfl, h1, strs_of h2⟩
  · cases h
theorem Ents.nil {K : PySem.W.Frag} : Ents K [] [] := trivial
theorem Ents.cons {K : PySem.W.Frag} {e : DictEntry} {es : List DictEntry} {z : Str} {ys : List Str} {T : List (Str × List Str)} {b : Addr} {od : Option Addr} {its : Array Value} {n : Nat} {sl : Array (Option Value)} (hk : keyB z e.key = true) (hv : e.val = .ref b) (l : K.lookup b = some ⟨.type "tuple", od, .seq its n, sl⟩) (hz : its.size ≤ sizeLine) (hs : strsB ys its.toList = true) (r : Ents K es T) : Ents K (e :: es) ((z, ys) :: T) :=
  ⟨keyB_of hk, ⟨b, hv, KT.of l hz (strs_of hs)⟩, r⟩
end DL

set_option Elab.async false
set_option linter.all false
set_option maxRecDepth 100000
namespace K01
open PySem PySem.Spec PyProof.Rows L2 DL

/-! ### sizes, and the things that are met -/
mutual
def sz : D → Nat
  | .str z => z.length + 1
  | .tup ds => szs ds + 1
  | .lst ds => szs ds + 1
  | _ => 1
def szs : List D → Nat
  | [] => 0
  | d :: ds => sz d + szs ds
end
structure okD (d : D) : Prop where
  pu : d.pu = true
  lay : d.py.canLay0 = true
  dep : d.py.depth ≤ 50
  few : sz d ≤ 100000
theorem sz_pos : ∀ d : D, 1 ≤ sz d
  | .non => Nat.le_refl _
  | .bl _ => Nat.le_refl _
  | .int _ => Nat.le_refl _
  | .str _ => Nat.le_add_left _ _
  | .tup _ => Nat.le_add_left _ _
  | .lst _ => Nat.le_add_left _ _
  | .ref _ => Nat.le_refl _
  | .oth _ => Nat.le_refl _
  | .scr _ => Nat.le_refl _
theorem len_szs : ∀ ds : List D, ds.length ≤ szs ds
  | [] => Nat.le_refl _
  | d :: ds => by have := sz_pos d; have := len_szs ds; simp only [szs, List.length_cons]; omega
theorem pu_mem : ∀ {ds : List D} {d : D}, pus ds = true → d ∈ ds → d.pu = true
  | d :: ds, x, h, hm => by
    simp only [pus, Bool.and_eq_true] at h
    rcases List.mem_cons.mp hm with rfl | hm
    · exact h.1
    · exact pu_mem h.2 hm
theorem lay_mem : ∀ {ds : List D} {d : D}, PyData.canLayAll0 (pys ds) = true → d ∈ ds → d.py.canLay0 = true
  | d :: ds, x, h, hm => by
    simp only [pys, PyData.canLayAll0, Bool.and_eq_true] at h
    rcases List.mem_cons.mp hm with rfl | hm
    · exact h.1
    · exact lay_mem h.2 hm
theorem dep_mem : ∀ {ds : List D} {d : D}, d ∈ ds → d.py.depth ≤ PyData.depthAll (pys ds)
  | d :: ds, x, hm => by
    simp only [pys, PyData.depthAll]
    rcases List.mem_cons.mp hm with rfl | hm
    · omega
    · have := dep_mem hm; omega
theorem sz_mem : ∀ {ds : List D} {d : D}, d ∈ ds → sz d ≤ szs ds
  | d :: ds, x, hm => by
    simp only [szs]
    rcases List.mem_cons.mp hm with rfl | hm
    · omega
    · have := sz_mem hm; omega
theorem okD.mem {ds : List D} (h : okD (.tup ds)) {d : D} (hm : d ∈ ds) : okD d := by
  obtain ⟨h1, h2, h3, h4⟩ := h
  simp only [D.pu, D.py, PyData.canLay0, PyData.depth, sz] at h1 h2 h3 h4
  exact ⟨pu_mem h1 hm, lay_mem h2 hm, by have := dep_mem hm; omega, by have := sz_mem hm; omega⟩
theorem okD.kind {d : D} (h : okD d) (m : Mu) : kindD m d ∈ ["NoneType", "bool", "int", "str", "tuple", "list"] := by
  have := h.pu
  cases d <;> simp [D.pu, kindD] at this ⊢
theorem okD.isi {d : D} (h : okD d) (m : Mu) {n : String} (hn : ["bool", "int", "str", "tuple", "list"].contains n = true) : isiOk (kindD m d) n = true := by
  unfold isiOk
  rw [hn, Bool.and_true, List.contains_iff_mem]
  exact h.kind m
/-! ### the looks -/
def pWhole : D → Bool
  | .int _ => true
  | _ => false
def pNumber : D → Bool
  | .int i => decide (0 ≤ i)
  | _ => false
def smallC (c : Nat) : Bool := decide (97 ≤ c) && decide (c ≤ 122)
def signC (c : Nat) : Bool := decide (32 ≤ c) && decide (c ≤ 126) && !decide (c = 37)
def pWord : D → Bool
  | .str z => decide (1 ≤ z.length) && decide (z.length ≤ 8) && z.cps.toList.all smallC
  | _ => false
def pText (n : Nat) : D → Bool
  | .str z => decide (1 ≤ z.length) && decide (z.length ≤ n) && z.cps.toList.all signC
  | _ => false
def pSigns : D → Bool := pText 12
def pValue (d : D) : Bool := pWhole d || pSigns d
def pPair : D → Bool
  | .tup [_, _] => true
  | _ => false
def pKey : D → Bool
  | .tup [a, b] => pWord a && pNumber b
  | _ => false
def pName : D → Bool
  | .tup [a, b] => pKey a && pNumber b
  | _ => false
def ltD : D → D → Bool
  | .str i, .str j => decide (i.cps.toList < j.cps.toList)
  | x, y => (ltP x.py y.py).getD false
def risesB : List D → Bool
  | x :: y :: r => ltD x y && risesB (y :: r)
  | _ => true
def pNames : D → Bool
  | .tup ds => !ds.isEmpty && ds.all pName && risesB ds
  | _ => false
def l_LEVELS : List Str := ["none", "see", "tell", "suggest", "change", "own"]
def d_LEVELS : D := .tup (l_LEVELS.map D.str)
def v__HUNDREDTHS : Int := 37
def d__HUNDREDTHS : D := .int 37
def pLevel : D → Bool
  | .str z => l_LEVELS.contains z
  | _ => false
def pShare : D → Bool
  | .tup [a, .int i] => pWord a && decide (0 < i)
  | _ => false
def fstD : D → D
  | .tup (a :: _) => a
  | d => d
def pVersion : D → Bool
  | .tup ds => ds.all pShare && risesB (ds.map fstD)
  | _ => false
/-! ### promises -/
def sp1 (f : D → Bool) : DSp := fun ds m Q => ∃ d, ds = [d] ∧ okD d ∧ Q (.bl (f d)) m
def sp_is_whole : DSp := sp1 pWhole
def sp_is_number : DSp := sp1 pNumber
def sp_is_small_letter : DSp := fun ds m Q => ∃ c, ds = [.str ⟨#[c]⟩] ∧ Q (.bl (smallC c)) m
def sp_is_word : DSp := sp1 pWord
def sp_is_sign : DSp := fun ds m Q => ∃ c, ds = [.str ⟨#[c]⟩] ∧ Q (.bl (signC c)) m
def sp_is_text_to : DSp := fun ds m Q => ∃ d n, ds = [d, .int (n : Nat)] ∧ okD d ∧ Q (.bl (pText n d)) m
def sp_is_signs : DSp := sp1 pSigns
def sp_is_value : DSp := sp1 pValue
def sp_is_pair : DSp := sp1 pPair
def sp_is_key : DSp := sp1 pKey
def sp_is_name : DSp := sp1 pName
def Cmp (x y : D) : Prop := ∀ (m : Mu) (Q : DK), Q (.bl (ltD x y)) m → gLt x y m Q
def sp_rises : DSp := fun ds m Q => ∃ d xs, ds = [d] ∧ (d = .tup xs ∨ d = .lst xs) ∧ xs.length ≤ 100000 ∧ (∀ x ∈ xs, ∀ y ∈ xs, Cmp x y) ∧ Q (.bl (risesB xs)) m
def sp_are_names : DSp := sp1 pNames
def sp_is_level : DSp := sp1 pLevel
def sp_reaches : DSp := fun ds m Q => ∃ (i j : Nat) (x y : Str), ds = [.str x, .str y] ∧ l_LEVELS[i]? = some x ∧ l_LEVELS[j]? = some y ∧ Q (.bl (decide (j ≤ i))) m
def sp_is_share : DSp := sp1 pShare
def sp_is_version : DSp := sp1 pVersion
def sp__law_whole : DSp := sp1 pWhole
def sp__law_counted : DSp := sp1 pNumber
def sp__law_worded : DSp := sp1 pWord
def sp__law_texted : DSp := sp_is_text_to
def sp__law_keyed : DSp := sp1 pKey
def sp__law_named : DSp := sp1 pName
def sp__law_all_named : DSp := sp1 pNames
def sp__law_leveled : DSp := sp1 pLevel
def sp__law_versioned : DSp := sp1 pVersion
def sp__law_feed : DSp := fun ds m Q => ∃ ns, ds = [.scr ns] ∧ ns.length ≤ 63 ∧ ∀ p, m p = none → Q (.ref p) (mset m p (.fd ns))
def sp__law_draw : DSp := fun ds m Q => ∃ (f : Addr) (cs : List Int) (n : Int), ds = [.ref f, .int n] ∧ m f = some (.fd cs) ∧ cs.length ≤ 63 ∧ 0 < n ∧ n < 1000000 ∧ ∀ i : Int, 0 ≤ i → i < n → Q (.int i) m
end K01

set_option Elab.async false
set_option linter.all false
set_option maxRecDepth 100000
set_option maxHeartbeats 4000000
namespace K01
open PySem PySem.Spec PyProof.Rows L2 DL
theorem ar1 {f : D → Bool} : ∀ ds m Q, sp1 f ds m Q → ds.length = 1 := fun ds m Q ⟨d, e, _⟩ => by rw [e]; rfl
/-! ### kinds -/
def isS : D → Bool
  | .str _ => true
  | _ => false
def isT : D → Bool
  | .tup _ => true
  | _ => false
def isI : D → Bool
  | .int _ => true
  | .bl _ => true
  | _ => false
def isB : D → Bool
  | .bl _ => true
  | _ => false
section
variable {d : D} (h : okD d) (m : Mu)
include h
theorem isi_S : isiB (kindD m d) "str" = isS d := by
  have := h.pu
  cases d <;> simp [D.pu] at this <;> rfl
theorem isi_T : isiB (kindD m d) "tuple" = isT d := by
  have := h.pu
  cases d <;> simp [D.pu] at this <;> rfl
theorem isi_I : isiB (kindD m d) "int" = isI d := by
  have := h.pu
  cases d <;> simp [D.pu] at this <;> rfl
theorem isi_B : isiB (kindD m d) "bool" = isB d := by
  have := h.pu
  cases d <;> simp [D.pu] at this <;> rfl
end
/-! ### comprehensions in short -/
theorem lcD_map {still : Mu → Prop} {i : Nat} {te : DTE} {e : Ev} {m : Mu} {p : Addr} {Q : List D → Prop} (f : D → D) (hst : ∀ acc, still (mset m p (.lst acc))) :
    ∀ (ds acc : List D), (∀ d ∈ ds, ∀ (acc : List D) (R : DK), R (f d) (mset m p (.lst acc)) → te (e.set i (some d)) (mset m p (.lst acc)) R) → acc.length + ds.length ≤ sizeLine → Q (acc ++ ds.map f) → lcD still (gN i) dYes te e m p Q ds acc
  | [], acc, _, _, q => ⟨hst acc, by simpa using q⟩
  | d :: ds, acc, h, hl, q => by
    rw [List.length_cons] at hl
    refine ⟨hst acc, rfl, rfl, h d List.mem_cons_self acc _ ⟨rfl, by omega, ?_⟩⟩
    refine lcD_map f hst ds (acc ++ [f d]) (fun d' hd => h d' (List.mem_cons_of_mem _ hd)) (by rw [List.length_append, List.length_singleton]; omega) ?_
    rw [List.append_assoc]
    exact q
theorem lcD_filter {still : Mu → Prop} {i : Nat} {tt : DTT} {te : DTE} {e : Ev} {m : Mu} {p : Addr} {Q : List D → Prop} (b : D → Bool) (f : D → D) (hst : ∀ acc, still (mset m p (.lst acc))) :
    ∀ (ds acc : List D), (∀ d ∈ ds, ∀ (acc : List D) (R : Bool → Mu → Prop), R (b d) (mset m p (.lst acc)) → tt (e.set i (some d)) (mset m p (.lst acc)) R) →
      (∀ d ∈ ds, b d = true → ∀ (acc : List D) (R : DK), R (f d) (mset m p (.lst acc)) → te (e.set i (some d)) (mset m p (.lst acc)) R) → acc.length + ds.length ≤ sizeLine → Q (acc ++ (ds.filter b).map f) → lcD still (gN i) tt te e m p Q ds acc
  | [], acc, _, _, _, q => ⟨hst acc, by simpa using q⟩
  | d :: ds, acc, h, h2, hl, q => by
    rw [List.length_cons] at hl
    refine ⟨hst acc, rfl, h d List.mem_cons_self acc _ ⟨rfl, ?_⟩⟩
    cases hb : b d with
    | true =>
      refine h2 d List.mem_cons_self hb acc _ ⟨rfl, by omega, ?_⟩
      refine lcD_filter b f hst ds (acc ++ [f d]) (fun d' hd => h d' (List.mem_cons_of_mem _ hd)) (fun d' hd => h2 d' (List.mem_cons_of_mem _ hd)) (by rw [List.length_append, List.length_singleton]; omega) ?_
      rw [List.append_assoc]
      rw [List.filter_cons_of_pos hb] at q
      exact q
    | false =>
      refine lcD_filter b f hst ds acc (fun d' hd => h d' (List.mem_cons_of_mem _ hd)) (fun d' hd => h2 d' (List.mem_cons_of_mem _ hd)) (by omega) ?_
      rw [List.filter_cons_of_neg (by simp [hb])] at q
      exact q
theorem blsD_map {α : Type} (f : α → Bool) : ∀ l : List α, blsD (l.map fun x => D.bl (f x)) = some (l.map f)
  | [] => rfl
  | x :: l => by
    show (blsD (l.map fun x => D.bl (f x))).map (f x :: ·) = _
    rw [blsD_map f l]
    rfl
theorem all_id {α : Type} (f : α → Bool) (l : List α) : (l.map f).all id = l.all f := by
  rw [List.all_map]; rfl
def b_is_whole : DTS := (dRet (dAndV (dCB gIsi (dCons (dVar 0) (dCons (dC (.oth (.ty "int"))) dNil))) (dNotV (dCB gIsi (dCons (dVar 0) (dCons (dC (.oth (.ty "bool"))) dNil))))))
def b_is_number : DTS := (dRet (dAndV (dCall sp_is_whole (dCons (dVar 0) dNil)) (dOp (gI0 fun i j => .bl (decide (j ≤ i))) (dVar 0) (dC (.int 0)))))
def b_is_small_letter : DTS := (dRet (dChain gLe gLe (dC (.str "a")) (dVar 0) (dC (.str "z"))))
def b_is_word : DTS := (dRet (dAndV (dCB gIsi (dCons (dVar 0) (dCons (dC (.oth (.ty "str"))) dNil))) (dAndV (dChain gLe gLe (dC (.int 1)) (dCB gLen (dCons (dVar 0) dNil)) (dC (.int 8))) (dCB (g1 gAll1) (dCons (dLc (wSeq (dVar 0)) (gN 1) dYes (dCall sp_is_small_letter (dCons (dVar 1) dNil)) [1]) dNil)))))
def b_is_sign : DTS := (dRet (dAndV (dChain gLe gLe (dC (.str " ")) (dVar 0) (dC (.str "~"))) (dOp gNe (dCB (g1 gOrd1) (dCons (dVar 0) dNil)) (dC d__HUNDREDTHS))))
def b_is_text_to : DTS := (dRet (dAndV (dCB gIsi (dCons (dVar 0) (dCons (dC (.oth (.ty "str"))) dNil))) (dAndV (dChain gLe gLe (dC (.int 1)) (dCB gLen (dCons (dVar 0) dNil)) (dVar 1)) (dCB (g1 gAll1) (dCons (dLc (wSeq (dVar 0)) (gN 2) dYes (dCall sp_is_sign (dCons (dVar 2) dNil)) [2]) dNil)))))
def b_is_signs : DTS := (dRet (dCall sp_is_text_to (dCons (dVar 0) (dCons (dC (.int 12)) dNil))))
def b_is_value : DTS := (dRet (dOrV (dCall sp_is_whole (dCons (dVar 0) dNil)) (dCall sp_is_signs (dCons (dVar 0) dNil))))
def b_is_pair : DTS := (dRet (dAndV (dCB gIsi (dCons (dVar 0) (dCons (dC (.oth (.ty "tuple"))) dNil))) (dOp gEq (dCB gLen (dCons (dVar 0) dNil)) (dC (.int 2)))))
def b_is_key : DTS := (dRet (dAndV (dCall sp_is_pair (dCons (dVar 0) dNil)) (dAndV (dCall sp_is_word (dCons (dOp gIx (dVar 0) (dC (.int 0))) dNil)) (dCall sp_is_number (dCons (dOp gIx (dVar 0) (dC (.int 1))) dNil)))))
def b_is_name : DTS := (dRet (dAndV (dCall sp_is_pair (dCons (dVar 0) dNil)) (dAndV (dCall sp_is_key (dCons (dOp gIx (dVar 0) (dC (.int 0))) dNil)) (dCall sp_is_number (dCons (dOp gIx (dVar 0) (dC (.int 1))) dNil)))))
theorem rd_is_whole : ∀ ds m Q, sp_is_whole ds m Q → b_is_whole { nx := fun _ m' => Q .non m', rt := Q } (startD 1 ds) m := by
  rintro ds m Q ⟨d, rfl, ok, q⟩
  simp only [b_is_whole, dVar, dC, dOp, dB, dChain, dAndT, dOrT, dNotT, dAndV, dOrV, dNotV, dIf, dNeg, dNil, dCons, dTup, dLst, dLstM, dCB, g1, gIsi, gLen, gLen1, gRepr, gRepr1, gList1, gTuple1, gAll1, gOrd1, gStr1, gInt1, dMt, dMt0, gAppend, gExtend, gUpper, dNext, dSeq, dDrop, dRet, dRetF, dRetN, dIfS, dSet, wSeq, wRng1, wRng2, gN, gP, dFor, dLc, dLcM, dYes, dPar, dAsg2, dCall, gI, gI0, gAdd2, gSub2, gAdd, gMul, gLt, gLe, gEq, gNe, gIsN, gNotN, gIn, gIx, gSl, dSl, dNoPart, dPart, dRev, gRev, gAddLM, gRepS, gLIndex, dKIndex, dFCells, dFInt, dFPut, dFeed, startD, wipeD, List.set_cons_zero, List.set_cons_succ, List.getElem?_cons_zero, List.getElem?_cons_succ, List.map_cons, List.map_nil, List.length_cons, List.length_nil, List.replicate, List.cons_append, List.nil_append]
  refine ⟨ok.isi m (by decide), ?_⟩
  rw [isi_I ok, isi_B ok]
  cases d <;> first | exact q | exact ⟨ok.isi m (by decide), q⟩
theorem rd_is_number : ∀ ds m Q, sp_is_number ds m Q → b_is_number { nx := fun _ m' => Q .non m', rt := Q } (startD 1 ds) m := by
  rintro ds m Q ⟨d, rfl, ok, q⟩
  simp only [b_is_number, dVar, dC, dOp, dB, dChain, dAndT, dOrT, dNotT, dAndV, dOrV, dNotV, dIf, dNeg, dNil, dCons, dTup, dLst, dLstM, dCB, g1, gIsi, gLen, gLen1, gRepr, gRepr1, gList1, gTuple1, gAll1, gOrd1, gStr1, gInt1, dMt, dMt0, gAppend, gExtend, gUpper, dNext, dSeq, dDrop, dRet, dRetF, dRetN, dIfS, dSet, wSeq, wRng1, wRng2, gN, gP, dFor, dLc, dLcM, dYes, dPar, dAsg2, dCall, gI, gI0, gAdd2, gSub2, gAdd, gMul, gLt, gLe, gEq, gNe, gIsN, gNotN, gIn, gIx, gSl, dSl, dNoPart, dPart, dRev, gRev, gAddLM, gRepS, gLIndex, dKIndex, dFCells, dFInt, dFPut, dFeed, startD, wipeD, List.set_cons_zero, List.set_cons_succ, List.getElem?_cons_zero, List.getElem?_cons_succ, List.map_cons, List.map_nil, List.length_cons, List.length_nil, List.replicate, List.cons_append, List.nil_append]
  refine ⟨d, rfl, ok, ?_⟩
  cases d <;> exact q
theorem le1 (c : Nat) (a : Nat) : (!decide ((⟨#[c]⟩ : Str).cps.toList < (⟨#[a]⟩ : Str).cps.toList)) = decide (a ≤ c) := by
  show (!decide ([c] < [a])) = decide (a ≤ c)
  by_cases h : a ≤ c
  · rw [decide_eq_true h, decide_eq_false]
    · rfl
    · intro z
      rw [List.cons_lt_cons_iff] at z
      rcases z with z | ⟨_, z⟩
      · omega
      · exact absurd z (List.lt_irrefl _)
  · rw [decide_eq_false h, decide_eq_true]
    · rfl
    · rw [List.cons_lt_cons_iff]
      exact .inl (by omega)
theorem rd_is_small_letter : ∀ ds m Q, sp_is_small_letter ds m Q → b_is_small_letter { nx := fun _ m' => Q .non m', rt := Q } (startD 1 ds) m := by
  rintro ds m Q ⟨c, rfl, q⟩
  simp only [b_is_small_letter, dVar, dC, dOp, dB, dChain, dAndT, dOrT, dNotT, dAndV, dOrV, dNotV, dIf, dNeg, dNil, dCons, dTup, dLst, dLstM, dCB, g1, gIsi, gLen, gLen1, gRepr, gRepr1, gList1, gTuple1, gAll1, gOrd1, gStr1, gInt1, dMt, dMt0, gAppend, gExtend, gUpper, dNext, dSeq, dDrop, dRet, dRetF, dRetN, dIfS, dSet, wSeq, wRng1, wRng2, gN, gP, dFor, dLc, dLcM, dYes, dPar, dAsg2, dCall, gI, gI0, gAdd2, gSub2, gAdd, gMul, gLt, gLe, gEq, gNe, gIsN, gNotN, gIn, gIx, gSl, dSl, dNoPart, dPart, dRev, gRev, gAddLM, gRepS, gLIndex, dKIndex, dFCells, dFInt, dFPut, dFeed, startD, wipeD, List.set_cons_zero, List.set_cons_succ, List.getElem?_cons_zero, List.getElem?_cons_succ, List.map_cons, List.map_nil, List.length_cons, List.length_nil, List.replicate, List.cons_append, List.nil_append]
  rw [show (!decide ((⟨#[c]⟩ : Str).cps.toList < (Str.ofString "a").cps.toList)) = decide (97 ≤ c) from le1 c 97]
  rw [show (!decide ((Str.ofString "z").cps.toList < (⟨#[c]⟩ : Str).cps.toList)) = decide (c ≤ 122) from le1 122 c]
  unfold smallC at q
  cases h : decide (97 ≤ c) with
  | true => rw [h, Bool.true_and] at q; exact q
  | false => rw [h, Bool.false_and] at q; exact q
theorem rd_is_sign : ∀ ds m Q, sp_is_sign ds m Q → b_is_sign { nx := fun _ m' => Q .non m', rt := Q } (startD 1 ds) m := by
  rintro ds m Q ⟨c, rfl, q⟩
  simp only [b_is_sign, d__HUNDREDTHS, dVar, dC, dOp, dB, dChain, dAndT, dOrT, dNotT, dAndV, dOrV, dNotV, dIf, dNeg, dNil, dCons, dTup, dLst, dLstM, dCB, g1, gIsi, gLen, gLen1, gRepr, gRepr1, gList1, gTuple1, gAll1, gOrd1, gStr1, gInt1, dMt, dMt0, gAppend, gExtend, gUpper, dNext, dSeq, dDrop, dRet, dRetF, dRetN, dIfS, dSet, wSeq, wRng1, wRng2, gN, gP, dFor, dLc, dLcM, dYes, dPar, dAsg2, dCall, gI, gI0, gAdd2, gSub2, gAdd, gMul, gLt, gLe, gEq, gNe, gIsN, gNotN, gIn, gIx, gSl, dSl, dNoPart, dPart, dRev, gRev, gAddLM, gRepS, gLIndex, dKIndex, dFCells, dFInt, dFPut, dFeed, startD, wipeD, List.set_cons_zero, List.set_cons_succ, List.getElem?_cons_zero, List.getElem?_cons_succ, List.map_cons, List.map_nil, List.length_cons, List.length_nil, List.replicate, List.cons_append, List.nil_append]
  rw [show (!decide ((⟨#[c]⟩ : Str).cps.toList < (Str.ofString " ").cps.toList)) = decide (32 ≤ c) from le1 c 32]
  rw [show (!decide ((Str.ofString "~").cps.toList < (⟨#[c]⟩ : Str).cps.toList)) = decide (c ≤ 126) from le1 126 c]
  have e : (((⟨#[c]⟩ : Str).cps.getD 0 0 : Nat) : Int) = (c : Int) := rfl
  have e2 : decide (((⟨#[c]⟩ : Str).cps.getD 0 0 : Nat) = (37 : Int)) = decide (c = 37) := by
    rw [e]
    by_cases h : c = 37
    · subst h; rfl
    · rw [decide_eq_false h, decide_eq_false (by omega)]
  rw [e2]
  unfold signC at q
  cases h : decide (32 ≤ c) with
  | false => rw [h, Bool.false_and, Bool.false_and] at q; exact q
  | true =>
    rw [h, Bool.true_and] at q
    cases h2 : decide (c ≤ 126) with
    | false => rw [h2, Bool.false_and] at q; exact q
    | true =>
      rw [h2, Bool.true_and] at q
      exact ⟨rfl, q⟩

theorem chars_map {z : Str} {still : Mu → Prop} {i : Nat} {te : DTE} {e : Ev} {m : Mu} {p : Addr} {Q : List D → Prop} (f : Nat → Bool) (hst : ∀ acc, still (mset m p (.lst acc))) (hl : z.cps.toList.length ≤ sizeLine)
    (h : ∀ (c : Nat) (acc : List D) (R : DK), R (.bl (f c)) (mset m p (.lst acc)) → te (e.set i (some (.str ⟨#[c]⟩))) (mset m p (.lst acc)) R) (q : Q (z.cps.toList.map fun c => D.bl (f c))) :
    lcD still (gN i) dYes te e m p Q (z.cps.toList.map fun c => D.str ⟨#[c]⟩) [] := by
  refine lcD_map (fun d => match d with
    | .str w => .bl (f (w.cps.getD 0 0))
    | d => d) hst _ _ (fun d hd acc R r => ?_) (by simpa using hl) ?_
  · obtain ⟨c, _, rfl⟩ := List.mem_map.mp hd
    exact h c acc R r
  · rw [List.nil_append, List.map_map]
    exact q
theorem okD.len {z : Str} (h : okD (.str z)) : z.length ≤ 100000 := by have := h.few; simp only [sz] at this; omega
theorem okD.len' {z : Str} (h : okD (.str z)) : z.length ≤ sizeLine := by have := h.len; rw [sizeLine_eq]; omega
theorem int_le (a b : Nat) : decide ((a : Int) ≤ (b : Int)) = decide (a ≤ b) := by
  by_cases h : a ≤ b
  · rw [decide_eq_true h, decide_eq_true (by omega)]
  · rw [decide_eq_false h, decide_eq_false (by omega)]
theorem rd_is_word : ∀ ds m Q, sp_is_word ds m Q → b_is_word { nx := fun _ m' => Q .non m', rt := Q } (startD 2 ds) m := by
  rintro ds m Q ⟨d, rfl, ok, q⟩
  simp only [b_is_word, dVar, dC, dOp, dB, dChain, dAndT, dOrT, dNotT, dAndV, dOrV, dNotV, dIf, dNeg, dNil, dCons, dTup, dLst, dLstM, dCB, g1, gIsi, gLen, gLen1, gRepr, gRepr1, gList1, gTuple1, gAll1, gOrd1, gStr1, gInt1, dMt, dMt0, gAppend, gExtend, gUpper, dNext, dSeq, dDrop, dRet, dRetF, dRetN, dIfS, dSet, wSeq, wRng1, wRng2, gN, gP, dFor, dLc, dLcM, dYes, dPar, dAsg2, dCall, gI, gI0, gAdd2, gSub2, gAdd, gMul, gLt, gLe, gEq, gNe, gIsN, gNotN, gIn, gIx, gSl, dSl, dNoPart, dPart, dRev, gRev, gAddLM, gRepS, gLIndex, dKIndex, dFCells, dFInt, dFPut, dFeed, startD, wipeD, List.set_cons_zero, List.set_cons_succ, List.getElem?_cons_zero, List.getElem?_cons_succ, List.map_cons, List.map_nil, List.length_cons, List.length_nil, List.replicate, List.cons_append, List.nil_append]
  refine ⟨ok.isi m (by decide), ?_⟩
  rw [isi_S ok]
  cases d with
  | str z =>
    show z.length ≤ sizeLine ∧ _
    refine ⟨ok.len', ?_⟩
    rw [show decide ((1 : Int) ≤ ((z.length : Nat) : Int)) = decide (1 ≤ z.length) from int_le 1 z.length, show decide (((z.length : Nat) : Int) ≤ (8 : Int)) = decide (z.length ≤ 8) from int_le z.length 8]
    simp only [pWord] at q
    cases h1 : decide (1 ≤ z.length) with
    | false => rw [h1, Bool.false_and, Bool.false_and] at q; exact q
    | true =>
      rw [h1, Bool.true_and] at q
      cases h2 : decide (z.length ≤ 8) with
      | false => rw [h2, Bool.false_and] at q; exact q
      | true =>
        rw [h2, Bool.true_and] at q
        intro p hp
        refine chars_map smallC (fun _ => trivial) (by have := ok.len'; simpa [Str.length] using this) (fun c acc R r => ⟨c, rfl, r⟩) ?_
        simp only [lv, blsD_map, all_id]
        exact q
  | _ => exact q
theorem rd_is_text_to : ∀ ds m Q, sp_is_text_to ds m Q → b_is_text_to { nx := fun _ m' => Q .non m', rt := Q } (startD 3 ds) m := by
  rintro ds m Q ⟨d, n, rfl, ok, q⟩
  simp only [b_is_text_to, dVar, dC, dOp, dB, dChain, dAndT, dOrT, dNotT, dAndV, dOrV, dNotV, dIf, dNeg, dNil, dCons, dTup, dLst, dLstM, dCB, g1, gIsi, gLen, gLen1, gRepr, gRepr1, gList1, gTuple1, gAll1, gOrd1, gStr1, gInt1, dMt, dMt0, gAppend, gExtend, gUpper, dNext, dSeq, dDrop, dRet, dRetF, dRetN, dIfS, dSet, wSeq, wRng1, wRng2, gN, gP, dFor, dLc, dLcM, dYes, dPar, dAsg2, dCall, gI, gI0, gAdd2, gSub2, gAdd, gMul, gLt, gLe, gEq, gNe, gIsN, gNotN, gIn, gIx, gSl, dSl, dNoPart, dPart, dRev, gRev, gAddLM, gRepS, gLIndex, dKIndex, dFCells, dFInt, dFPut, dFeed, startD, wipeD, List.set_cons_zero, List.set_cons_succ, List.getElem?_cons_zero, List.getElem?_cons_succ, List.map_cons, List.map_nil, List.length_cons, List.length_nil, List.replicate, List.cons_append, List.nil_append]
  refine ⟨ok.isi m (by decide), ?_⟩
  rw [isi_S ok]
  cases d with
  | str z =>
    show z.length ≤ sizeLine ∧ _
    refine ⟨ok.len', ?_⟩
    rw [show decide ((1 : Int) ≤ ((z.length : Nat) : Int)) = decide (1 ≤ z.length) from int_le 1 z.length, int_le]
    simp only [pText] at q
    cases h1 : decide (1 ≤ z.length) with
    | false => rw [h1, Bool.false_and, Bool.false_and] at q; exact q
    | true =>
      rw [h1, Bool.true_and] at q
      cases h2 : decide (z.length ≤ n) with
      | false => rw [h2, Bool.false_and] at q; exact q
      | true =>
        rw [h2, Bool.true_and] at q
        intro p hp
        refine chars_map signC (fun _ => trivial) (by have := ok.len'; simpa [Str.length] using this) (fun c acc R r => ⟨c, rfl, r⟩) ?_
        simp only [lv, blsD_map, all_id]
        exact q
  | _ => exact q
theorem rd_is_signs : ∀ ds m Q, sp_is_signs ds m Q → b_is_signs { nx := fun _ m' => Q .non m', rt := Q } (startD 1 ds) m := by
  rintro ds m Q ⟨d, rfl, ok, q⟩
  simp only [b_is_signs, dVar, dC, dOp, dB, dChain, dAndT, dOrT, dNotT, dAndV, dOrV, dNotV, dIf, dNeg, dNil, dCons, dTup, dLst, dLstM, dCB, g1, gIsi, gLen, gLen1, gRepr, gRepr1, gList1, gTuple1, gAll1, gOrd1, gStr1, gInt1, dMt, dMt0, gAppend, gExtend, gUpper, dNext, dSeq, dDrop, dRet, dRetF, dRetN, dIfS, dSet, wSeq, wRng1, wRng2, gN, gP, dFor, dLc, dLcM, dYes, dPar, dAsg2, dCall, gI, gI0, gAdd2, gSub2, gAdd, gMul, gLt, gLe, gEq, gNe, gIsN, gNotN, gIn, gIx, gSl, dSl, dNoPart, dPart, dRev, gRev, gAddLM, gRepS, gLIndex, dKIndex, dFCells, dFInt, dFPut, dFeed, startD, wipeD, List.set_cons_zero, List.set_cons_succ, List.getElem?_cons_zero, List.getElem?_cons_succ, List.map_cons, List.map_nil, List.length_cons, List.length_nil, List.replicate, List.cons_append, List.nil_append]
  exact ⟨d, 12, rfl, ok, q⟩
theorem rd_is_value : ∀ ds m Q, sp_is_value ds m Q → b_is_value { nx := fun _ m' => Q .non m', rt := Q } (startD 1 ds) m := by
  rintro ds m Q ⟨d, rfl, ok, q⟩
  simp only [b_is_value, dVar, dC, dOp, dB, dChain, dAndT, dOrT, dNotT, dAndV, dOrV, dNotV, dIf, dNeg, dNil, dCons, dTup, dLst, dLstM, dCB, g1, gIsi, gLen, gLen1, gRepr, gRepr1, gList1, gTuple1, gAll1, gOrd1, gStr1, gInt1, dMt, dMt0, gAppend, gExtend, gUpper, dNext, dSeq, dDrop, dRet, dRetF, dRetN, dIfS, dSet, wSeq, wRng1, wRng2, gN, gP, dFor, dLc, dLcM, dYes, dPar, dAsg2, dCall, gI, gI0, gAdd2, gSub2, gAdd, gMul, gLt, gLe, gEq, gNe, gIsN, gNotN, gIn, gIx, gSl, dSl, dNoPart, dPart, dRev, gRev, gAddLM, gRepS, gLIndex, dKIndex, dFCells, dFInt, dFPut, dFeed, startD, wipeD, List.set_cons_zero, List.set_cons_succ, List.getElem?_cons_zero, List.getElem?_cons_succ, List.map_cons, List.map_nil, List.length_cons, List.length_nil, List.replicate, List.cons_append, List.nil_append]
  refine ⟨d, rfl, ok, ?_⟩
  unfold pValue at q
  cases h : pWhole d with
  | true => rw [h] at q; exact q
  | false => rw [h] at q; exact ⟨d, rfl, ok, q⟩
theorem rd_is_pair : ∀ ds m Q, sp_is_pair ds m Q → b_is_pair { nx := fun _ m' => Q .non m', rt := Q } (startD 1 ds) m := by
  rintro ds m Q ⟨d, rfl, ok, q⟩
  simp only [b_is_pair, dVar, dC, dOp, dB, dChain, dAndT, dOrT, dNotT, dAndV, dOrV, dNotV, dIf, dNeg, dNil, dCons, dTup, dLst, dLstM, dCB, g1, gIsi, gLen, gLen1, gRepr, gRepr1, gList1, gTuple1, gAll1, gOrd1, gStr1, gInt1, dMt, dMt0, gAppend, gExtend, gUpper, dNext, dSeq, dDrop, dRet, dRetF, dRetN, dIfS, dSet, wSeq, wRng1, wRng2, gN, gP, dFor, dLc, dLcM, dYes, dPar, dAsg2, dCall, gI, gI0, gAdd2, gSub2, gAdd, gMul, gLt, gLe, gEq, gNe, gIsN, gNotN, gIn, gIx, gSl, dSl, dNoPart, dPart, dRev, gRev, gAddLM, gRepS, gLIndex, dKIndex, dFCells, dFInt, dFPut, dFeed, startD, wipeD, List.set_cons_zero, List.set_cons_succ, List.getElem?_cons_zero, List.getElem?_cons_succ, List.map_cons, List.map_nil, List.length_cons, List.length_nil, List.replicate, List.cons_append, List.nil_append]
  refine ⟨ok.isi m (by decide), ?_⟩
  rw [isi_T ok]
  cases d with
  | tup xs =>
    show Q (.bl (decide ((xs.length : Int) = 2))) m
    match xs, q with
    | [], q => exact q
    | [_], q => exact q
    | [_, _], q => exact q
    | x :: y :: z :: r, q =>
      rw [decide_eq_false (by simp only [List.length_cons]; omega)]
      exact q
  | _ => exact q
theorem okD.fst {a b : D} (h : okD (.tup [a, b])) : okD a := h.mem List.mem_cons_self
theorem okD.snd {a b : D} (h : okD (.tup [a, b])) : okD b := h.mem (List.mem_cons_of_mem _ List.mem_cons_self)
theorem rd_is_key : ∀ ds m Q, sp_is_key ds m Q → b_is_key { nx := fun _ m' => Q .non m', rt := Q } (startD 1 ds) m := by
  rintro ds m Q ⟨d, rfl, ok, q⟩
  simp only [b_is_key, dVar, dC, dOp, dB, dChain, dAndT, dOrT, dNotT, dAndV, dOrV, dNotV, dIf, dNeg, dNil, dCons, dTup, dLst, dLstM, dCB, g1, gIsi, gLen, gLen1, gRepr, gRepr1, gList1, gTuple1, gAll1, gOrd1, gStr1, gInt1, dMt, dMt0, gAppend, gExtend, gUpper, dNext, dSeq, dDrop, dRet, dRetF, dRetN, dIfS, dSet, wSeq, wRng1, wRng2, gN, gP, dFor, dLc, dLcM, dYes, dPar, dAsg2, dCall, gI, gI0, gAdd2, gSub2, gAdd, gMul, gLt, gLe, gEq, gNe, gIsN, gNotN, gIn, gIx, gSl, dSl, dNoPart, dPart, dRev, gRev, gAddLM, gRepS, gLIndex, dKIndex, dFCells, dFInt, dFPut, dFeed, startD, wipeD, List.set_cons_zero, List.set_cons_succ, List.getElem?_cons_zero, List.getElem?_cons_succ, List.map_cons, List.map_nil, List.length_cons, List.length_nil, List.replicate, List.cons_append, List.nil_append]
  refine ⟨d, rfl, ok, ?_⟩
  cases d with
  | tup xs =>
    match xs, q with
    | [], q => exact q
    | [_], q => exact q
    | x :: y :: z :: r, q => exact q
    | [a, b], q =>
      show sp_is_word [a] m _
      refine ⟨a, rfl, ok.fst, ?_⟩
      simp only [pKey] at q
      cases h : pWord a with
      | false => rw [h] at q; exact q
      | true =>
        rw [h] at q
        exact ⟨b, rfl, ok.snd, q⟩
  | _ => exact q
theorem rd_is_name : ∀ ds m Q, sp_is_name ds m Q → b_is_name { nx := fun _ m' => Q .non m', rt := Q } (startD 1 ds) m := by
  rintro ds m Q ⟨d, rfl, ok, q⟩
  simp only [b_is_name, dVar, dC, dOp, dB, dChain, dAndT, dOrT, dNotT, dAndV, dOrV, dNotV, dIf, dNeg, dNil, dCons, dTup, dLst, dLstM, dCB, g1, gIsi, gLen, gLen1, gRepr, gRepr1, gList1, gTuple1, gAll1, gOrd1, gStr1, gInt1, dMt, dMt0, gAppend, gExtend, gUpper, dNext, dSeq, dDrop, dRet, dRetF, dRetN, dIfS, dSet, wSeq, wRng1, wRng2, gN, gP, dFor, dLc, dLcM, dYes, dPar, dAsg2, dCall, gI, gI0, gAdd2, gSub2, gAdd, gMul, gLt, gLe, gEq, gNe, gIsN, gNotN, gIn, gIx, gSl, dSl, dNoPart, dPart, dRev, gRev, gAddLM, gRepS, gLIndex, dKIndex, dFCells, dFInt, dFPut, dFeed, startD, wipeD, List.set_cons_zero, List.set_cons_succ, List.getElem?_cons_zero, List.getElem?_cons_succ, List.map_cons, List.map_nil, List.length_cons, List.length_nil, List.replicate, List.cons_append, List.nil_append]
  refine ⟨d, rfl, ok, ?_⟩
  cases d with
  | tup xs =>
    match xs, q with
    | [], q => exact q
    | [_], q => exact q
    | x :: y :: z :: r, q => exact q
    | [a, b], q =>
      show sp_is_key [a] m _
      refine ⟨a, rfl, ok.fst, ?_⟩
      simp only [pName] at q
      cases h : pKey a with
      | false => rw [h] at q; exact q
      | true =>
        rw [h] at q
        exact ⟨b, rfl, ok.snd, q⟩
  | _ => exact q

def b_rises : DTS := (dRet (dCB (g1 gAll1) (dCons (dLc (wRng2 (dCons (dC (.int 1)) (dCons (dCB gLen (dCons (dVar 0) dNil)) dNil))) (gN 1) dYes (dOp gLt (dOp gIx (dVar 0) (dOp gSub2 (dVar 1) (dC (.int 1)))) (dOp gIx (dVar 0) (dVar 1))) [1]) dNil)))
def b_are_names : DTS := (dSeq (dIfS (dOrT (dNotT (dB (dCB gIsi (dCons (dVar 0) (dCons (dC (.oth (.ty "tuple"))) dNil))))) (dB (dOp gEq (dCB gLen (dCons (dVar 0) dNil)) (dC (.int 0)))))
      (dRet (dC (.bl false)))
      dNext)
      (dRet (dAndV (dCB (g1 gAll1) (dCons (dLc (wSeq (dVar 0)) (gN 1) dYes (dCall sp_is_name (dCons (dVar 1) dNil)) [1]) dNil)) (dCall sp_rises (dCons (dVar 0) dNil)))))
def b_is_level : DTS := (dRet (dAndV (dCB gIsi (dCons (dVar 0) (dCons (dC (.oth (.ty "str"))) dNil))) (dOp (gIn false) (dVar 0) (dC d_LEVELS))))
def b_reaches : DTS := (dRet (dOp (gI0 fun i j => .bl (decide (j ≤ i))) (dKIndex l_LEVELS (dVar 0)) (dKIndex l_LEVELS (dVar 1))))
def b_is_share : DTS := (dRet (dAndV (dCall sp_is_key (dCons (dVar 0) dNil)) (dOp (gI0 fun i j => .bl (decide (j < i))) (dOp gIx (dVar 0) (dC (.int 1))) (dC (.int 0)))))
def b_is_version : DTS := (dSeq (dIfS (dNotT (dB (dCB gIsi (dCons (dVar 0) (dCons (dC (.oth (.ty "tuple"))) dNil)))))
      (dRet (dC (.bl false)))
      dNext)
      (dRet (dAndV (dCB (g1 gAll1) (dCons (dLc (wSeq (dVar 0)) (gN 1) dYes (dCall sp_is_share (dCons (dVar 1) dNil)) [1]) dNil)) (dCall sp_rises (dCons (dLc (wSeq (dVar 0)) (gN 1) dYes (dOp gIx (dVar 1) (dC (.int 0))) [1]) dNil)))))
theorem gIx_nat {d : D} {xs : List D} {m : Mu} {k : Int} {j : Nat} {x : D} {Q : DK} (h : d = .tup xs ∨ d = .lst xs) (e : k = (j : Int)) (hx : xs[j]? = some x) (q : Q x m) : gIx d (.int k) m Q := by
  subst e
  have e2 := atI_nat hx
  rcases h with rfl | rfl
  · show (match atI xs (j : Int) with | some d => Q d m | none => False)
    rw [e2]; exact q
  · show (match atI xs (j : Int) with | some d => Q d m | none => False)
    rw [e2]; exact q
/-- the pairs in a row -/
def adj : List D → List Bool
  | x :: y :: r => ltD x y :: adj (y :: r)
  | _ => []
theorem adj_all : ∀ xs : List D, (adj xs).all id = risesB xs
  | [] => rfl
  | [_] => rfl
  | x :: y :: r => by
    show (ltD x y && (adj (y :: r)).all id) = (ltD x y && risesB (y :: r))
    rw [adj_all (y :: r)]
theorem adj_len : ∀ xs : List D, (adj xs).length = xs.length - 1
  | [] => rfl
  | [_] => rfl
  | x :: y :: r => by
    show (adj (y :: r)).length + 1 = _
    rw [adj_len (y :: r)]
    simp only [List.length_cons]
    omega
theorem adj_at : ∀ (xs : List D) (k : Nat) (x y : D), xs[k]? = some x → xs[k + 1]? = some y → (adj xs)[k]? = some (ltD x y)
  | [], k, x, y, h, _ => by simp at h
  | [_], k, x, y, _, h => by simp at h
  | a :: b :: r, 0, x, y, h, h2 => by
    simp at h h2; subst h; subst h2; rfl
  | a :: b :: r, k + 1, x, y, h, h2 => adj_at (b :: r) k x y (by simpa using h) (by simpa using h2)
theorem adj_eq (xs : List D) : adj xs = (List.range (xs.length - 1)).map fun k => ltD (xs.getD k .non) (xs.getD (k + 1) .non) := by
  apply List.ext_getElem?
  intro k
  rw [List.getElem?_map]
  by_cases h : k < xs.length - 1
  · rw [List.getElem?_range h, adj_at xs k xs[k] xs[k + 1] (List.getElem?_eq_getElem (by omega)) (List.getElem?_eq_getElem (by omega))]
    show some (ltD xs[k] xs[k + 1]) = some (ltD (xs.getD k .non) (xs.getD (k + 1) .non))
    rw [List.getD_eq_getElem?_getD, List.getD_eq_getElem?_getD, List.getElem?_eq_getElem (by omega), List.getElem?_eq_getElem (by omega)]
    rfl
  · rw [List.getElem?_eq_none (by rw [adj_len]; omega), List.getElem?_eq_none (by simp; omega)]
    rfl
theorem ar_rises : ∀ ds m Q, sp_rises ds m Q → ds.length = 1 := fun ds m Q ⟨d, xs, e, _⟩ => by rw [e]; rfl
theorem rd_rises : ∀ ds m Q, sp_rises ds m Q → b_rises { nx := fun _ m' => Q .non m', rt := Q } (startD 2 ds) m := by
  rintro ds m Q ⟨d, xs, rfl, hd, hl, hc, q⟩
  simp only [b_rises, dVar, dC, dOp, dB, dChain, dAndT, dOrT, dNotT, dAndV, dOrV, dNotV, dIf, dNeg, dNil, dCons, dTup, dLst, dLstM, dCB, g1, gIsi, gLen, gLen1, gRepr, gRepr1, gList1, gTuple1, gAll1, gOrd1, gStr1, gInt1, dMt, dMt0, gAppend, gExtend, gUpper, dNext, dSeq, dDrop, dRet, dRetF, dRetN, dIfS, dSet, wSeq, wRng1, wRng2, gN, gP, dFor, dLc, dLcM, dYes, dPar, dAsg2, dCall, gI, gI0, gAdd2, gSub2, gAdd, gMul, gLt, gLe, gEq, gNe, gIsN, gNotN, gIn, gIx, gSl, dSl, dNoPart, dPart, dRev, gRev, gAddLM, gRepS, gLIndex, dKIndex, dFCells, dFInt, dFPut, dFeed, startD, wipeD, List.set_cons_zero, List.set_cons_succ, List.getElem?_cons_zero, List.getElem?_cons_succ, List.map_cons, List.map_nil, List.length_cons, List.length_nil, List.replicate, List.cons_append, List.nil_append]
  have hlen : ∀ (R : DK), R (.int (xs.length : Nat)) m → gLen1 d m R := by
    intro R r
    rcases hd with rfl | rfl <;> exact r
  have main : okR 1 ∧ okR ((xs.length : Nat) : Int) ∧ ∀ p, m p = none → lcD yes (gN 1) dYes (dOp gLt (dOp gIx (dVar 0) (dOp gSub2 (dVar 1) (dC (.int 1)))) (dOp gIx (dVar 0) (dVar 1))) (wipeD [some d, none] [1]) m p
      (fun acc => g1 gAll1 [.lst acc] m Q) (rngD 1 (((xs.length : Nat) : Int) - 1).toNat) [] := by
    have l2 : ((xs.length : Nat) : Int) < 2 ^ 62 := by
      have : (100000 : Int) < 2 ^ 62 := by decide
      omega
    refine ⟨⟨by decide, by decide⟩, ⟨by omega, l2⟩, fun p hp => ?_⟩
    have hn : (((xs.length : Nat) : Int) - 1).toNat = xs.length - 1 := by omega
    rw [hn]
    refine lcD_map (fun d => match d with
      | .int k => .bl (ltD (xs.getD (k - 1).toNat .non) (xs.getD k.toNat .non))
      | d => d) (fun _ => trivial) _ _ (fun y hy acc R r => ?_) (by simp only [List.length_nil, rngD, List.length_map, List.length_range]; rw [sizeLine_eq]; omega) ?_
    · obtain ⟨k, hk, rfl⟩ := List.mem_map.mp hy
      have hk := List.mem_range.mp hk
      have h1 : xs[k]? = some xs[k] := List.getElem?_eq_getElem (by omega)
      have h2 : xs[k + 1]? = some xs[k + 1] := List.getElem?_eq_getElem (by omega)
      show gIx d (.int ((1 + (k : Int)) - 1)) _ fun x m1 => gIx d (.int (1 + (k : Int))) m1 fun y m2 => gLt x y m2 R
      refine gIx_nat hd (by omega) h1 (gIx_nat hd (j := k + 1) (by omega) h2 (hc _ (List.getElem_mem _) _ (List.getElem_mem _) _ _ ?_))
      have e1 : ((1 : Int) + (k : Int) - 1).toNat = k := by omega
      have e2 : ((1 : Int) + (k : Int)).toNat = k + 1 := by omega
      simp only [e1, e2, List.getD_eq_getElem?_getD, h1, h2, Option.getD_some] at r
      exact r
    · rw [List.nil_append]
      unfold rngD
      rw [List.map_map]
      have e : ((List.range (xs.length - 1)).map ((fun d => match d with
        | .int k => D.bl (ltD (xs.getD (k - 1).toNat .non) (xs.getD k.toNat .non))
        | d => d) ∘ fun k : Nat => D.int (1 + (k : Int)))) = (List.range (xs.length - 1)).map fun k => D.bl (ltD (xs.getD k .non) (xs.getD (k + 1) .non)) := by
        apply List.map_congr_left
        intro k _
        show D.bl (ltD (xs.getD ((1 : Int) + (k : Int) - 1).toNat .non) (xs.getD ((1 : Int) + (k : Int)).toNat .non)) = _
        have e1 : ((1 : Int) + (k : Int) - 1).toNat = k := by omega
        have e2 : ((1 : Int) + (k : Int)).toNat = k + 1 := by omega
        rw [e1, e2]
      rw [e]
      show gAll1 (.lst _) m Q
      unfold gAll1
      simp only [lv, blsD_map]
      rw [← adj_eq, adj_all]
      exact q
  rcases hd with rfl | rfl <;> exact main

/-! ### names -/
theorem word_form {d : D} (h : pWord d = true) : ∃ a : Str, d = .str a := by
  cases d <;> first | exact ⟨_, rfl⟩ | cases h
theorem num_form {d : D} (h : pNumber d = true) : ∃ a : Int, d = .int a := by
  cases d <;> first | exact ⟨_, rfl⟩ | cases h
theorem key_form {d : D} (h : pKey d = true) : ∃ (a : Str) (n : Int), d = .tup [.str a, .int n] := by
  unfold pKey at h
  split at h
  · rename_i a b
    rw [Bool.and_eq_true] at h
    obtain ⟨x, rfl⟩ := word_form h.1
    obtain ⟨n, rfl⟩ := num_form h.2
    exact ⟨x, n, rfl⟩
  · cases h
theorem name_form {d : D} (h : pName d = true) : ∃ (a : Str) (n k : Int), d = .tup [.tup [.str a, .int n], .int k] := by
  unfold pName at h
  split at h
  · rename_i a b
    rw [Bool.and_eq_true] at h
    obtain ⟨x, n, rfl⟩ := key_form h.1
    obtain ⟨k, rfl⟩ := num_form h.2
    exact ⟨x, n, k, rfl⟩
  · cases h
theorem eqv_str (a b : Str) : PyData.eqv (.str a) (.str b) = (a == b) := by simp only [PyData.eqv]
theorem eqv_int (a b : Int) : PyData.eqv (.int a) (.int b) = (a == b) := by simp only [PyData.eqv]
theorem ltP_key (a b : Str) (n k : Int) : ∃ c, ltP (.tuple [.str a, .int n]) (.tuple [.str b, .int k]) = some c := by
  simp only [ltP, ltPs]
  cases PyData.eqv (.str a) (.str b) <;> cases PyData.eqv (.int n) (.int k) <;> exact ⟨_, rfl⟩
theorem ltP_name (a b : Str) (n k i j : Int) : ∃ c, ltP (.tuple [.tuple [.str a, .int n], .int i]) (.tuple [.tuple [.str b, .int k], .int j]) = some c := by
  obtain ⟨c, hc⟩ := ltP_key a b n k
  have e : ltPs [.tuple [.str a, .int n], .int i] [.tuple [.str b, .int k], .int j] = match PyData.eqv (.tuple [.str a, .int n]) (.tuple [.str b, .int k]), ltPs [.int i] [.int j], ltP (.tuple [.str a, .int n]) (.tuple [.str b, .int k]) with
      | true, r, _ => r
      | false, some _, some b => some b
      | false, _, _ => none := by first | (rw [ltPs]; rfl) | rw [ltPs]
  obtain ⟨c2, hc2⟩ : ∃ c2, ltPs [.int i] [.int j] = some c2 := by
    simp only [ltP, ltPs]
    cases PyData.eqv (.int i) (.int j) <;> exact ⟨_, rfl⟩
  rw [show ltP (.tuple [.tuple [.str a, .int n], .int i]) (.tuple [.tuple [.str b, .int k], .int j]) = ltPs [.tuple [.str a, .int n], .int i] [.tuple [.str b, .int k], .int j] by rw [ltP], e, hc, hc2]
  cases PyData.eqv (.tuple [.str a, .int n]) (.tuple [.str b, .int k]) <;> exact ⟨_, rfl⟩
theorem okD.fit {d : D} (h : okD d) : fitD d := ⟨h.pu, by
  unfold SeqAt.shaped
  rw [h.lay, Bool.true_and]
  exact decide_eq_true (by have := h.dep; omega)⟩
theorem cmp_name {x y : D} (hx : okD x) (hy : okD y) (nx : pName x = true) (ny : pName y = true) : Cmp x y := by
  intro m Q q
  have fx := hx.fit
  have fy := hy.fit
  obtain ⟨a, n, k, rfl⟩ := name_form nx
  obtain ⟨b, n', k', rfl⟩ := name_form ny
  obtain ⟨c, hc⟩ := ltP_name a b n n' k k'
  refine ⟨fx, fy, c, hc, ?_⟩
  have e : ltD (.tup [.tup [.str a, .int n], .int k]) (.tup [.tup [.str b, .int n'], .int k']) = c := by
    show (ltP (.tuple [.tuple [.str a, .int n], .int k]) (.tuple [.tuple [.str b, .int n'], .int k'])).getD false = c
    rw [hc]; rfl
  rw [e] at q
  exact q
theorem cmp_str (a b : Str) : Cmp (.str a) (.str b) := fun m Q q => q
theorem rd_are_names : ∀ ds m Q, sp_are_names ds m Q → b_are_names { nx := fun _ m' => Q .non m', rt := Q } (startD 2 ds) m := by
  rintro ds m Q ⟨d, rfl, ok, q⟩
  simp only [b_are_names, dVar, dC, dOp, dB, dChain, dAndT, dOrT, dNotT, dAndV, dOrV, dNotV, dIf, dNeg, dNil, dCons, dTup, dLst, dLstM, dCB, g1, gIsi, gLen, gLen1, gRepr, gRepr1, gList1, gTuple1, gAll1, gOrd1, gStr1, gInt1, dMt, dMt0, gAppend, gExtend, gUpper, dNext, dSeq, dDrop, dRet, dRetF, dRetN, dIfS, dSet, wSeq, wRng1, wRng2, gN, gP, dFor, dLc, dLcM, dYes, dPar, dAsg2, dCall, gI, gI0, gAdd2, gSub2, gAdd, gMul, gLt, gLe, gEq, gNe, gIsN, gNotN, gIn, gIx, gSl, dSl, dNoPart, dPart, dRev, gRev, gAddLM, gRepS, gLIndex, dKIndex, dFCells, dFInt, dFPut, dFeed, startD, wipeD, List.set_cons_zero, List.set_cons_succ, List.getElem?_cons_zero, List.getElem?_cons_succ, List.map_cons, List.map_nil, List.length_cons, List.length_nil, List.replicate, List.cons_append, List.nil_append]
  refine ⟨ok.isi m (by decide), ?_⟩
  rw [isi_T ok]
  cases d with
  | tup xs =>
    show (match decide (((xs.length : Nat) : Int) = 0) with | true => _ | false => _)
    cases xs with
    | nil => exact q
    | cons x r =>
      rw [decide_eq_false (by simp only [List.length_cons]; omega)]
      intro p hp
      have hl : (x :: r).length ≤ 100000 := by
        have := ok.few
        have := len_szs (x :: r)
        simp only [sz] at *
        omega
      refine lcD_map (fun d => .bl (pName d)) (fun _ => trivial) _ _ (fun y hy acc R r => ⟨y, rfl, ok.mem hy, r⟩) (by rw [sizeLine_eq, List.length_nil]; omega) ?_
      rw [List.nil_append]
      simp only [lv, blsD_map, all_id]
      simp only [pNames, List.isEmpty_cons, Bool.not_false, Bool.true_and] at q
      cases h : (x :: r).all pName with
      | false => rw [h] at q; exact q
      | true =>
        rw [h] at q
        have hn := List.all_eq_true.mp h
        exact ⟨.tup (x :: r), x :: r, rfl, .inl rfl, hl, fun y hy z hz => cmp_name (ok.mem hy) (ok.mem hz) (hn y hy) (hn z hz), q⟩
  | _ => exact q
theorem in_levels (z : Str) : inD (.str z) (l_LEVELS.map D.str) = l_LEVELS.contains z := by
  unfold inD
  rw [List.any_map]
  have : ∀ l : List Str, l.any ((fun y => PyData.eqv y.py (D.str z).py) ∘ D.str) = l.contains z := fun l => by
    induction l with
    | nil => rfl
    | cons y l ih =>
      rw [List.any_cons, List.contains_cons, ih]
      congr 1
      show PyData.eqv (.str y) (.str z) = (z == y)
      rw [eqv_str]
      exact Bool.eq_iff_iff.mpr ⟨fun h => by rw [eq_of_beq h]; exact beq_self_eq_true z, fun h => by rw [eq_of_beq h]; exact beq_self_eq_true y⟩
  exact this l_LEVELS
theorem rd_is_level : ∀ ds m Q, sp_is_level ds m Q → b_is_level { nx := fun _ m' => Q .non m', rt := Q } (startD 1 ds) m := by
  rintro ds m Q ⟨d, rfl, ok, q⟩
  simp only [b_is_level, dVar, dC, dOp, dB, dChain, dAndT, dOrT, dNotT, dAndV, dOrV, dNotV, dIf, dNeg, dNil, dCons, dTup, dLst, dLstM, dCB, g1, gIsi, gLen, gLen1, gRepr, gRepr1, gList1, gTuple1, gAll1, gOrd1, gStr1, gInt1, dMt, dMt0, gAppend, gExtend, gUpper, dNext, dSeq, dDrop, dRet, dRetF, dRetN, dIfS, dSet, wSeq, wRng1, wRng2, gN, gP, dFor, dLc, dLcM, dYes, dPar, dAsg2, dCall, gI, gI0, gAdd2, gSub2, gAdd, gMul, gLt, gLe, gEq, gNe, gIsN, gNotN, gIn, gIx, gSl, dSl, dNoPart, dPart, dRev, gRev, gAddLM, gRepS, gLIndex, dKIndex, dFCells, dFInt, dFPut, dFeed, startD, wipeD, List.set_cons_zero, List.set_cons_succ, List.getElem?_cons_zero, List.getElem?_cons_succ, List.map_cons, List.map_nil, List.length_cons, List.length_nil, List.replicate, List.cons_append, List.nil_append]
  refine ⟨ok.isi m (by decide), ?_⟩
  rw [isi_S ok]
  cases d with
  | str z =>
    refine ⟨rfl, rfl, ?_⟩
    have e := in_levels z
    show Q (.bl (if false = true then !inD (.str z) (l_LEVELS.map D.str) else inD (.str z) (l_LEVELS.map D.str))) m
    rw [e]
    exact q
  | _ => exact q
theorem ar_reaches : ∀ ds m Q, sp_reaches ds m Q → ds.length = 2 := fun ds m Q ⟨i, j, x, y, e, _⟩ => by rw [e]; rfl
theorem ixD_levels : ∀ (i : Nat) (x : Str), l_LEVELS[i]? = some x → ixD (.str x) (l_LEVELS.map D.str) = some i := by
  have h : ∀ i ∈ List.range 6, ixD (.str (l_LEVELS.getD i "")) (l_LEVELS.map D.str) = some i := by decide +kernel
  intro i x hx
  have hi : i < 6 := (List.getElem?_eq_some_iff.mp hx).1
  have := h i (List.mem_range.mpr hi)
  rw [List.getD_eq_getElem?_getD, hx] at this
  exact this
theorem rd_reaches : ∀ ds m Q, sp_reaches ds m Q → b_reaches { nx := fun _ m' => Q .non m', rt := Q } (startD 2 ds) m := by
  rintro ds m Q ⟨i, j, x, y, rfl, hx, hy, q⟩
  simp only [b_reaches, dVar, dC, dOp, dB, dChain, dAndT, dOrT, dNotT, dAndV, dOrV, dNotV, dIf, dNeg, dNil, dCons, dTup, dLst, dLstM, dCB, g1, gIsi, gLen, gLen1, gRepr, gRepr1, gList1, gTuple1, gAll1, gOrd1, gStr1, gInt1, dMt, dMt0, gAppend, gExtend, gUpper, dNext, dSeq, dDrop, dRet, dRetF, dRetN, dIfS, dSet, wSeq, wRng1, wRng2, gN, gP, dFor, dLc, dLcM, dYes, dPar, dAsg2, dCall, gI, gI0, gAdd2, gSub2, gAdd, gMul, gLt, gLe, gEq, gNe, gIsN, gNotN, gIn, gIx, gSl, dSl, dNoPart, dPart, dRev, gRev, gAddLM, gRepS, gLIndex, dKIndex, dFCells, dFInt, dFPut, dFeed, startD, wipeD, List.set_cons_zero, List.set_cons_succ, List.getElem?_cons_zero, List.getElem?_cons_succ, List.map_cons, List.map_nil, List.length_cons, List.length_nil, List.replicate, List.cons_append, List.nil_append]
  rw [ixD_levels i x hx]
  simp only
  rw [ixD_levels j y hy]
  simp only
  rw [int_le]
  exact q
theorem rd_is_share : ∀ ds m Q, sp_is_share ds m Q → b_is_share { nx := fun _ m' => Q .non m', rt := Q } (startD 1 ds) m := by
  rintro ds m Q ⟨d, rfl, ok, q⟩
  simp only [b_is_share, dVar, dC, dOp, dB, dChain, dAndT, dOrT, dNotT, dAndV, dOrV, dNotV, dIf, dNeg, dNil, dCons, dTup, dLst, dLstM, dCB, g1, gIsi, gLen, gLen1, gRepr, gRepr1, gList1, gTuple1, gAll1, gOrd1, gStr1, gInt1, dMt, dMt0, gAppend, gExtend, gUpper, dNext, dSeq, dDrop, dRet, dRetF, dRetN, dIfS, dSet, wSeq, wRng1, wRng2, gN, gP, dFor, dLc, dLcM, dYes, dPar, dAsg2, dCall, gI, gI0, gAdd2, gSub2, gAdd, gMul, gLt, gLe, gEq, gNe, gIsN, gNotN, gIn, gIx, gSl, dSl, dNoPart, dPart, dRev, gRev, gAddLM, gRepS, gLIndex, dKIndex, dFCells, dFInt, dFPut, dFeed, startD, wipeD, List.set_cons_zero, List.set_cons_succ, List.getElem?_cons_zero, List.getElem?_cons_succ, List.map_cons, List.map_nil, List.length_cons, List.length_nil, List.replicate, List.cons_append, List.nil_append]
  refine ⟨d, rfl, ok, ?_⟩
  cases d with
  | tup xs =>
    match xs, q with
    | [], q => exact q
    | [_], q => exact q
    | x :: y :: z :: r, q =>
      have e : pShare (.tup (x :: y :: z :: r)) = false := by cases y <;> rfl
      rw [e] at q
      exact q
    | [a, b], q =>
      simp only [pKey]
      cases b with
      | int i =>
        simp only [pShare] at q
        simp only [pNumber]
        cases h : pWord a with
        | false => rw [h] at q; exact q
        | true =>
          rw [h, Bool.true_and] at q
          rw [Bool.true_and]
          cases h2 : decide (0 ≤ i) with
          | false =>
            have : ¬ 0 ≤ i := of_decide_eq_false h2
            rw [decide_eq_false (by omega)] at q
            exact q
          | true => exact q
      | _ => simp only [pNumber, Bool.and_false]; exact q
  | _ => exact q
theorem share_form {d : D} (h : pShare d = true) : ∃ (a : Str) (n : Int), d = .tup [.str a, .int n] := by
  match d, h with
  | .tup [a, .int i], h =>
    simp only [pShare, Bool.and_eq_true] at h
    cases a <;> simp [pWord] at h
    exact ⟨_, _, rfl⟩
theorem rd_is_version : ∀ ds m Q, sp_is_version ds m Q → b_is_version { nx := fun _ m' => Q .non m', rt := Q } (startD 2 ds) m := by
  rintro ds m Q ⟨d, rfl, ok, q⟩
  simp only [b_is_version, dVar, dC, dOp, dB, dChain, dAndT, dOrT, dNotT, dAndV, dOrV, dNotV, dIf, dNeg, dNil, dCons, dTup, dLst, dLstM, dCB, g1, gIsi, gLen, gLen1, gRepr, gRepr1, gList1, gTuple1, gAll1, gOrd1, gStr1, gInt1, dMt, dMt0, gAppend, gExtend, gUpper, dNext, dSeq, dDrop, dRet, dRetF, dRetN, dIfS, dSet, wSeq, wRng1, wRng2, gN, gP, dFor, dLc, dLcM, dYes, dPar, dAsg2, dCall, gI, gI0, gAdd2, gSub2, gAdd, gMul, gLt, gLe, gEq, gNe, gIsN, gNotN, gIn, gIx, gSl, dSl, dNoPart, dPart, dRev, gRev, gAddLM, gRepS, gLIndex, dKIndex, dFCells, dFInt, dFPut, dFeed, startD, wipeD, List.set_cons_zero, List.set_cons_succ, List.getElem?_cons_zero, List.getElem?_cons_succ, List.map_cons, List.map_nil, List.length_cons, List.length_nil, List.replicate, List.cons_append, List.nil_append]
  refine ⟨ok.isi m (by decide), ?_⟩
  rw [isi_T ok]
  cases d with
  | tup xs =>
    intro p hp
    have hl : xs.length ≤ 100000 := by
      have := ok.few
      have := len_szs xs
      simp only [sz] at *
      omega
    refine lcD_map (fun d => .bl (pShare d)) (fun _ => trivial) _ _ (fun y hy acc R r => ⟨y, rfl, ok.mem hy, r⟩) (by rw [sizeLine_eq, List.length_nil]; omega) ?_
    rw [List.nil_append]
    simp only [lv, blsD_map, all_id]
    simp only [pVersion] at q
    cases h : xs.all pShare with
    | false => rw [h] at q; exact q
    | true =>
      rw [h] at q
      have hn := List.all_eq_true.mp h
      intro p2 hp2
      refine lcD_map fstD (fun _ => trivial) _ _ (fun y hy acc R r => ?_) (by rw [sizeLine_eq, List.length_nil]; omega) ?_
      · obtain ⟨a, n, rfl⟩ := share_form (hn y hy)
        exact r
      · rw [List.nil_append]
        refine ⟨.lst (xs.map fstD), xs.map fstD, rfl, .inr rfl, by rw [List.length_map]; exact hl, fun y hy z hz => ?_, q⟩
        obtain ⟨y', h1, rfl⟩ := List.mem_map.mp hy
        obtain ⟨z', h2, rfl⟩ := List.mem_map.mp hz
        obtain ⟨a, n, rfl⟩ := share_form (hn y' h1)
        obtain ⟨b, k, rfl⟩ := share_form (hn z' h2)
        exact cmp_str a b
  | _ => exact q
end K01

set_option Elab.async false
set_option linter.all false
set_option maxRecDepth 100000
set_option maxHeartbeats 4000000
namespace K01
open PySem PySem.Spec PyProof.Rows L2 DL
def b__law_feed : DTS := (dRet (dFeed (dCB (g1 gList1) (dCons (dSl (dVar 0) dNoPart (dPart (dC (.int 63)))) dNil))))
def b__law_draw : DTS := (dSeq (dFPut (dVar 0) (dOp gAdd2 (dFInt (dVar 0)) (dC (.int 1))))
      (dSeq (dIfS (dB (dOp (gI0 fun i j => .bl (decide (j < i))) (dFInt (dVar 0)) (dC (.int 0))))
      (dSeq (dSet 2 (dOp (gI (fun _ j => 0 < j) fun i j => .int (i % j)) (dFInt (dVar 0)) (dVar 1)))
      (dSeq (dFPut (dVar 0) (dOp (gI CDiv fun i j => .int (i / j)) (dFInt (dVar 0)) (dVar 1)))
      (dRet (dVar 2))))
      dNext)
      (dSeq (dSet 3 (dFInt (dVar 0)))
      (dSeq (dFPut (dVar 0) (dOp gAdd2 (dVar 3) (dC (.int 1))))
      (dSeq (dSet 4 (dIf (dB (dOp gNe (dFCells (dVar 0)) (dLst dNil))) (dOp gIx (dFCells (dVar 0)) (dOp (gI (fun _ j => 0 < j) fun i j => .int (i % j)) (dVar 3) (dCB gLen (dCons (dFCells (dVar 0)) dNil)))) (dC (.int 21))))
      (dSeq (dIfS (dAndT (dB (dOp (gI0 fun i j => .bl (decide (j ≤ i))) (dVar 4) (dOp (gI CPow fun i j => .int (i ^ j.toNat)) (dC (.int 10)) (dC (.int 18))))) (dB (dOp gLt (dVar 3) (dCB gLen (dCons (dFCells (dVar 0)) dNil)))))
      (dSeq (dFPut (dVar 0) (dOp (gI CDiv fun i j => .int (i / j)) (dVar 4) (dVar 1)))
      (dRet (dOp (gI (fun _ j => 0 < j) fun i j => .int (i % j)) (dVar 4) (dVar 1))))
      dNext)
      (dSeq (dSet 5 (dOp (gI (fun _ j => 0 < j) fun i j => .int (i % j)) (dOp gAdd2 (dOp gAdd2 (dOp (gI (fun _ j => 0 < j) fun i j => .int (i % j)) (dVar 4) (dC (.int 1000000241))) (dOp gMul (dC (.int 90001)) (dFInt (dVar 0)))) (dC (.int 71))) (dC (.int 2147483579))))
      (dSeq (dSet 5 (dOp (gI (fun _ j => 0 < j) fun i j => .int (i % j)) (dOp gAdd2 (dOp gAdd2 (dOp gMul (dVar 5) (dVar 5)) (dOp gMul (dC (.int 4256233)) (dFInt (dVar 0)))) (dC (.int 53))) (dC (.int 2147483549))))
      (dRet (dOp (gI (fun _ j => 0 < j) fun i j => .int (i % j)) (dOp (gI CDiv fun i j => .int (i / j)) (dOp (gI (fun _ j => 0 < j) fun i j => .int (i % j)) (dOp gAdd2 (dOp gMul (dVar 5) (dVar 5)) (dOp gMul (dC (.int 47)) (dVar 5))) (dC (.int 2147483543))) (dC (.int 16))) (dVar 1)))))))))))
def b__law_whole : DTS := (dRet (dAndV (dCB gIsi (dCons (dVar 0) (dCons (dC (.oth (.ty "int"))) dNil))) (dNotV (dCB gIsi (dCons (dVar 0) (dCons (dC (.oth (.ty "bool"))) dNil))))))
def b__law_counted : DTS := (dRet (dAndV (dCall sp__law_whole (dCons (dVar 0) dNil)) (dOp (gI0 fun i j => .bl (decide (j ≤ i))) (dVar 0) (dC (.int 0)))))
def b__law_worded : DTS := (dSeq (dIfS (dOrT (dNotT (dB (dCB gIsi (dCons (dVar 0) (dCons (dC (.oth (.ty "str"))) dNil))))) (dOrT (dB (dOp gEq (dVar 0) (dC (.str "")))) (dB (dOp (gI0 fun i j => .bl (decide (j < i))) (dCB gLen (dCons (dVar 0) dNil)) (dC (.int 8))))))
      (dRet (dC (.bl false)))
      dNext)
      (dRet (dOp gEq (dLc (wSeq (dVar 0)) (gN 1) (dOrT (dB (dOp gLt (dCB (g1 gOrd1) (dCons (dVar 1) dNil)) (dC (.int 97)))) (dB (dOp (gI0 fun i j => .bl (decide (j < i))) (dCB (g1 gOrd1) (dCons (dVar 1) dNil)) (dC (.int 122))))) (dVar 1) [1]) (dLst dNil))))
def b__law_texted : DTS := (dSeq (dIfS (dOrT (dNotT (dB (dCB gIsi (dCons (dVar 0) (dCons (dC (.oth (.ty "str"))) dNil))))) (dOrT (dB (dOp gEq (dVar 0) (dC (.str "")))) (dB (dOp (gI0 fun i j => .bl (decide (j < i))) (dCB gLen (dCons (dVar 0) dNil)) (dVar 1)))))
      (dRet (dC (.bl false)))
      dNext)
      (dRet (dOp gEq (dLc (wSeq (dVar 0)) (gN 2) (dOrT (dB (dOp gLt (dCB (g1 gOrd1) (dCons (dVar 2) dNil)) (dC (.int 32)))) (dOrT (dB (dOp (gI0 fun i j => .bl (decide (j < i))) (dCB (g1 gOrd1) (dCons (dVar 2) dNil)) (dC (.int 126)))) (dB (dOp gEq (dCB (g1 gOrd1) (dCons (dVar 2) dNil)) (dC (.int 37)))))) (dVar 2) [2]) (dLst dNil))))
def b__law_keyed : DTS := (dRet (dAndV (dCB gIsi (dCons (dVar 0) (dCons (dC (.oth (.ty "tuple"))) dNil))) (dAndV (dOp gEq (dCB gLen (dCons (dVar 0) dNil)) (dC (.int 2))) (dAndV (dCall sp__law_worded (dCons (dOp gIx (dVar 0) (dC (.int 0))) dNil)) (dCall sp__law_counted (dCons (dOp gIx (dVar 0) (dC (.int 1))) dNil))))))
def b__law_named : DTS := (dRet (dAndV (dCB gIsi (dCons (dVar 0) (dCons (dC (.oth (.ty "tuple"))) dNil))) (dAndV (dOp gEq (dCB gLen (dCons (dVar 0) dNil)) (dC (.int 2))) (dAndV (dCall sp__law_keyed (dCons (dOp gIx (dVar 0) (dC (.int 0))) dNil)) (dCall sp__law_counted (dCons (dOp gIx (dVar 0) (dC (.int 1))) dNil))))))
def b__law_all_named : DTS := (dSeq (dIfS (dOrT (dNotT (dB (dCB gIsi (dCons (dVar 0) (dCons (dC (.oth (.ty "tuple"))) dNil))))) (dOrT (dB (dOp gEq (dVar 0) (dTup dNil))) (dB (dOp gNe (dLc (wSeq (dVar 0)) (gN 2) (dNotT (dB (dCall sp__law_named (dCons (dVar 2) dNil)))) (dVar 2) [2]) (dLst dNil)))))
      (dRet (dC (.bl false)))
      dNext)
      (dRet (dOp gEq (dLc (wRng2 (dCons (dC (.int 1)) (dCons (dCB gLen (dCons (dVar 0) dNil)) dNil))) (gN 1) (dB (dOp gLe (dOp gIx (dVar 0) (dVar 1)) (dOp gIx (dVar 0) (dOp gSub2 (dVar 1) (dC (.int 1)))))) (dVar 1) [1]) (dLst dNil))))
def b__law_leveled : DTS := (dRet (dAndV (dCB gIsi (dCons (dVar 0) (dCons (dC (.oth (.ty "str"))) dNil))) (dOp (gIn false) (dVar 0) (dLst (dCons (dC (.str "none")) (dCons (dC (.str "see")) (dCons (dC (.str "tell")) (dCons (dC (.str "suggest")) (dCons (dC (.str "change")) (dCons (dC (.str "own")) dNil))))))))))
def b__law_versioned : DTS := (dSeq (dIfS (dOrT (dNotT (dB (dCB gIsi (dCons (dVar 0) (dCons (dC (.oth (.ty "tuple"))) dNil))))) (dB (dOp gNe (dLc (wSeq (dVar 0)) (gN 2) (dOrT (dNotT (dB (dCall sp__law_keyed (dCons (dVar 2) dNil)))) (dB (dOp gEq (dOp gIx (dVar 2) (dC (.int 1))) (dC (.int 0))))) (dVar 2) [2]) (dLst dNil))))
      (dRet (dC (.bl false)))
      dNext)
      (dRet (dOp gEq (dLc (wRng2 (dCons (dC (.int 1)) (dCons (dCB gLen (dCons (dVar 0) dNil)) dNil))) (gN 1) (dB (dOp gLe (dOp gIx (dOp gIx (dVar 0) (dVar 1)) (dC (.int 0))) (dOp gIx (dOp gIx (dVar 0) (dOp gSub2 (dVar 1) (dC (.int 1)))) (dC (.int 0))))) (dVar 1) [1]) (dLst dNil))))
theorem ar__law_feed : ∀ ds m Q, sp__law_feed ds m Q → ds.length = 1 := fun ds m Q ⟨d, e, _⟩ => by rw [e]; rfl
theorem ar__law_draw : ∀ ds m Q, sp__law_draw ds m Q → ds.length = 2 := fun ds m Q ⟨f, cs, n, e, _⟩ => by rw [e]; rfl
theorem rd__law_feed : ∀ ds m Q, sp__law_feed ds m Q → b__law_feed { nx := fun _ m' => Q .non m', rt := Q } (startD 1 ds) m := by
  rintro ds m Q ⟨ns, rfl, hl, q⟩
  simp only [b__law_feed, dVar, dC, dOp, dB, dChain, dAndT, dOrT, dNotT, dAndV, dOrV, dNotV, dIf, dNeg, dNil, dCons, dTup, dLst, dLstM, dCB, g1, gIsi, gLen, gLen1, gRepr, gRepr1, gList1, gTuple1, gAll1, gOrd1, gStr1, gInt1, dMt, dMt0, gAppend, gExtend, gUpper, dNext, dSeq, dDrop, dRet, dRetF, dRetN, dIfS, dSet, wSeq, wRng1, wRng2, gN, gP, dFor, dLc, dLcM, dYes, dPar, dAsg2, dCall, gI, gI0, gAdd2, gSub2, gAdd, gMul, gLt, gLe, gEq, gNe, gIsN, gNotN, gIn, gIx, gSl, dSl, dNoPart, dPart, dRev, gRev, gAddLM, gRepS, gLIndex, dKIndex, dFCells, dFInt, dFPut, dFeed, startD, wipeD, List.set_cons_zero, List.set_cons_succ, List.getElem?_cons_zero, List.getElem?_cons_succ, List.map_cons, List.map_nil, List.length_cons, List.length_nil, List.replicate, List.cons_append, List.nil_append]
  intro p hp
  have e : cutG ns none (some 63) = ns := by
    unfold cutG
    have h1 : HT.sIx ns.length 0 none = 0 := rfl
    have h2 : HT.sIx ns.length ns.length (some 63) = ns.length := by
      show (if (63 : Int) < 0 then ((63 : Int) + (ns.length : Int)).toNat else min (63 : Int).toNat ns.length) = ns.length
      rw [if_neg (by decide)]
      show min 63 ns.length = ns.length
      omega
    rw [h1, h2, List.drop_zero, Nat.sub_zero, List.take_length]
  simp only [sq, lv]
  refine ⟨mset_same, ns, by rw [e], hl, ?_⟩
  rw [mset_mset (o := .dK []) (o' := .fd ns)]
  exact q p hp
theorem fit_ints (cs : List Int) : fitD (.lst (cs.map D.int)) := by
  have h1 : ∀ cs : List Int, pus (cs.map D.int) = true := fun cs => by
    induction cs with
    | nil => rfl
    | cons c cs ih => simp only [List.map_cons, pus, D.pu, ih, Bool.and_self]
  have h2 : ∀ cs : List Int, PyData.canLayAll0 (pys (cs.map D.int)) = true := fun cs => by
    induction cs with
    | nil => simp [pys, PyData.canLayAll0]
    | cons c cs ih => simp only [List.map_cons, pys, D.py, PyData.canLayAll0, PyData.canLay0, ih, Bool.and_self]
  have h3 : ∀ cs : List Int, PyData.depthAll (pys (cs.map D.int)) = 0 := fun cs => by
    induction cs with
    | nil => simp [pys, PyData.depthAll]
    | cons c cs ih => simp only [List.map_cons, pys, D.py, PyData.depthAll, PyData.depth, ih]; rfl
  refine ⟨h1 cs, ?_⟩
  unfold SeqAt.shaped
  simp only [D.py, PyData.canLay0, PyData.depth, h2, h3]
  decide
theorem atI_in {cs : List Int} {i : Int} (h0 : 0 ≤ i) (h1 : i < (cs.length : Int)) : ∃ c, atI (cs.map D.int) i = some (.int c) := by
  obtain ⟨k, rfl⟩ : ∃ k : Nat, i = (k : Int) := ⟨i.toNat, by omega⟩
  have hk : k < cs.length := by omega
  exact ⟨cs[k], atI_nat (by rw [List.getElem?_map, List.getElem?_eq_getElem hk]; rfl)⟩
theorem mul_ok {x M : Int} (h1 : 0 ≤ x) (h2 : x < M) (hM : M ≤ 2 ^ 32) : CMul x x := by
  have : (2 : Int) ^ 32 < 2 ^ 64 := by decide
  exact .inl ⟨by omega, by omega⟩
theorem lit_ok {x y : Int} (h : decide (-(2 ^ 64) < x ∧ x < 2 ^ 64) = true) : CMul x y := .inl (of_decide_eq_true h)
theorem rd__law_draw : ∀ ds m Q, sp__law_draw ds m Q → b__law_draw { nx := fun _ m' => Q .non m', rt := Q } (startD 6 ds) m := by
  rintro ds m Q ⟨f, cs, n, rfl, hf, hl, h0, hn, q⟩
  simp only [b__law_draw, dVar, dC, dOp, dB, dChain, dAndT, dOrT, dNotT, dAndV, dOrV, dNotV, dIf, dNeg, dNil, dCons, dTup, dLst, dLstM, dCB, g1, gIsi, gLen, gLen1, gRepr, gRepr1, gList1, gTuple1, gAll1, gOrd1, gStr1, gInt1, dMt, dMt0, gAppend, gExtend, gUpper, dNext, dSeq, dDrop, dRet, dRetF, dRetN, dIfS, dSet, wSeq, wRng1, wRng2, gN, gP, dFor, dLc, dLcM, dYes, dPar, dAsg2, dCall, gI, gI0, gAdd2, gSub2, gAdd, gMul, gLt, gLe, gEq, gNe, gIsN, gNotN, gIn, gIx, gSl, dSl, dNoPart, dPart, dRev, gRev, gAddLM, gRepS, gLIndex, dKIndex, dFCells, dFInt, dFPut, dFeed, startD, wipeD, List.set_cons_zero, List.set_cons_succ, List.getElem?_cons_zero, List.getElem?_cons_succ, List.map_cons, List.map_nil, List.length_cons, List.length_nil, List.replicate, List.cons_append, List.nil_append, hf]
  intro i1 g1
  refine ⟨by omega, fun i2 g2 => ?_⟩
  have cn : ∀ x : Int, CDiv x n := fun x => ⟨h0, by omega⟩
  have md : ∀ x : Int, Q (.int (x % n)) m := fun x => q _ (Int.emod_nonneg _ (by omega)) (Int.emod_lt_of_pos _ h0)
  cases decide (0 < i2) with
  | true => exact fun i3 g3 => ⟨h0, fun i4 g4 => ⟨cn _, Int.ediv_nonneg g4 (by omega), md _⟩⟩
  | false =>
    intro i3 g3
    refine ⟨by omega, by decide, fit_ints cs, fit_ints [], ?_⟩
    have key : ∃ c : Int, (cs = [] ∧ c = 21) ∨ (cs ≠ [] ∧ atI (cs.map D.int) (i3 % (cs.length : Int)) = some (.int c)) := by
      by_cases hc : cs = []
      · exact ⟨21, .inl ⟨hc, rfl⟩⟩
      · have hp : (0 : Int) < cs.length := by
          cases cs with
          | nil => exact absurd rfl hc
          | cons x r => simp only [List.length_cons]; omega
        obtain ⟨c, h⟩ := atI_in (cs := cs) (Int.emod_nonneg i3 (by omega)) (Int.emod_lt_of_pos i3 hp)
        exact ⟨c, .inr ⟨hc, h⟩⟩
    obtain ⟨c, hc⟩ := key
    have e : PyData.eqv (D.lst (cs.map D.int)).py (D.lst []).py = decide (cs = []) := by
      cases cs with
      | nil => simp [D.py, pys, PyData.eqv, PyData.eqvAll]
      | cons x r => simp [D.py, pys, PyData.eqv, PyData.eqvAll]
    rw [e]
    have fin : ∀ (x y : Int), Q (.int (((x * x + 47 * x) % 2147483543 / 16) % n)) m := fun x _ => md _
    rcases hc with ⟨hc, rfl⟩ | ⟨hc, hat⟩
    · rw [decide_eq_true hc]
      simp only [Bool.not_true, hf, sq, lv, List.length_map]
      refine ⟨⟨by decide, by decide, by decide⟩, ?_⟩
      rw [show decide ((10 : Int) ^ Int.toNat 18 ≤ 21) = false by decide]
      refine ⟨by decide, fun i4 g4 => ⟨lit_ok (by decide), by decide, mul_ok (Int.emod_nonneg _ (by decide)) (Int.emod_lt_of_pos _ (by decide)) (by decide), fun i5 g5 => ⟨lit_ok (by decide), by decide, mul_ok (Int.emod_nonneg _ (by decide)) (Int.emod_lt_of_pos _ (by decide)) (by decide), lit_ok (by decide), by decide, ⟨by decide, by decide⟩, h0, md _⟩⟩⟩
    · rw [decide_eq_false hc]
      have hp : (0 : Int) < cs.length := by
        cases cs with
        | nil => exact absurd rfl hc
        | cons x r => simp only [List.length_cons]; omega
      simp only [Bool.not_false, hf, sq, lv, List.length_map, hat]
      refine ⟨hp, ⟨by decide, by decide, by decide⟩, ?_⟩
      cases hb : decide ((10 : Int) ^ Int.toNat 18 ≤ c) with
      | true =>
        have hc0 : 0 ≤ c := by
          have := of_decide_eq_true hb
          have : (0 : Int) ≤ 10 ^ Int.toNat 18 := by decide
          omega
        cases hb2 : decide (i3 < (cs.length : Int)) with
        | true => exact ⟨cn _, Int.ediv_nonneg hc0 (by omega), h0, md _⟩
        | false =>
          refine ⟨by decide, fun i4 g4 => ⟨lit_ok (by decide), by decide, mul_ok (Int.emod_nonneg _ (by decide)) (Int.emod_lt_of_pos _ (by decide)) (by decide), fun i5 g5 => ⟨lit_ok (by decide), by decide, mul_ok (Int.emod_nonneg _ (by decide)) (Int.emod_lt_of_pos _ (by decide)) (by decide), lit_ok (by decide), by decide, ⟨by decide, by decide⟩, h0, md _⟩⟩⟩
      | false =>
        refine ⟨by decide, fun i4 g4 => ⟨lit_ok (by decide), by decide, mul_ok (Int.emod_nonneg _ (by decide)) (Int.emod_lt_of_pos _ (by decide)) (by decide), fun i5 g5 => ⟨lit_ok (by decide), by decide, mul_ok (Int.emod_nonneg _ (by decide)) (Int.emod_lt_of_pos _ (by decide)) (by decide), lit_ok (by decide), by decide, ⟨by decide, by decide⟩, h0, md _⟩⟩⟩

theorem rd__law_whole : ∀ ds m Q, sp__law_whole ds m Q → b__law_whole { nx := fun _ m' => Q .non m', rt := Q } (startD 1 ds) m := by
  rintro ds m Q ⟨d, rfl, ok, q⟩
  simp only [b__law_whole, dVar, dC, dOp, dB, dChain, dAndT, dOrT, dNotT, dAndV, dOrV, dNotV, dIf, dNeg, dNil, dCons, dTup, dLst, dLstM, dCB, g1, gIsi, gLen, gLen1, gRepr, gRepr1, gList1, gTuple1, gAll1, gOrd1, gStr1, gInt1, dMt, dMt0, gAppend, gExtend, gUpper, dNext, dSeq, dDrop, dRet, dRetF, dRetN, dIfS, dSet, wSeq, wRng1, wRng2, gN, gP, dFor, dLc, dLcM, dYes, dPar, dAsg2, dCall, gI, gI0, gAdd2, gSub2, gAdd, gMul, gLt, gLe, gEq, gNe, gIsN, gNotN, gIn, gIx, gSl, dSl, dNoPart, dPart, dRev, gRev, gAddLM, gRepS, gLIndex, dKIndex, dFCells, dFInt, dFPut, dFeed, startD, wipeD, List.set_cons_zero, List.set_cons_succ, List.getElem?_cons_zero, List.getElem?_cons_succ, List.map_cons, List.map_nil, List.length_cons, List.length_nil, List.replicate, List.cons_append, List.nil_append]
  refine ⟨ok.isi m (by decide), ?_⟩
  rw [isi_I ok, isi_B ok]
  cases d <;> first | exact q | exact ⟨ok.isi m (by decide), q⟩
theorem rd__law_counted : ∀ ds m Q, sp__law_counted ds m Q → b__law_counted { nx := fun _ m' => Q .non m', rt := Q } (startD 1 ds) m := by
  rintro ds m Q ⟨d, rfl, ok, q⟩
  simp only [b__law_counted, dVar, dC, dOp, dB, dChain, dAndT, dOrT, dNotT, dAndV, dOrV, dNotV, dIf, dNeg, dNil, dCons, dTup, dLst, dLstM, dCB, g1, gIsi, gLen, gLen1, gRepr, gRepr1, gList1, gTuple1, gAll1, gOrd1, gStr1, gInt1, dMt, dMt0, gAppend, gExtend, gUpper, dNext, dSeq, dDrop, dRet, dRetF, dRetN, dIfS, dSet, wSeq, wRng1, wRng2, gN, gP, dFor, dLc, dLcM, dYes, dPar, dAsg2, dCall, gI, gI0, gAdd2, gSub2, gAdd, gMul, gLt, gLe, gEq, gNe, gIsN, gNotN, gIn, gIx, gSl, dSl, dNoPart, dPart, dRev, gRev, gAddLM, gRepS, gLIndex, dKIndex, dFCells, dFInt, dFPut, dFeed, startD, wipeD, List.set_cons_zero, List.set_cons_succ, List.getElem?_cons_zero, List.getElem?_cons_succ, List.map_cons, List.map_nil, List.length_cons, List.length_nil, List.replicate, List.cons_append, List.nil_append]
  refine ⟨d, rfl, ok, ?_⟩
  cases d <;> exact q
theorem filter_none {α β : Type} (f : α → Bool) (g : α → β) (l : List α) : ((l.filter fun x => !f x).map g).isEmpty = l.all f := by
  induction l with
  | nil => rfl
  | cons x l ih =>
    cases h : f x with
    | true => rw [List.filter_cons_of_neg (by simp [h]), List.all_cons, h, ih]; rfl
    | false => rw [List.filter_cons_of_pos (by simp [h]), List.all_cons, h]; rfl
theorem eqv_nil (l : List D) : PyData.eqv (D.lst l).py (D.lst []).py = l.isEmpty := by
  cases l with
  | nil => simp [D.py, pys, PyData.eqv, PyData.eqvAll]
  | cons x r => simp [D.py, pys, PyData.eqv, PyData.eqvAll]
theorem fit_chars {z : Str} (h : okD (.str z)) (f : Nat → Bool) : fitD (.lst ((z.cps.toList.filter f).map fun c => D.str ⟨#[c]⟩)) := by
  have hz : ∀ c ∈ z.cps.toList, c < 0x110000 := fun c hc => by
    have := h.lay
    simp only [D.py, PyData.canLay0, PyData.strOk] at this
    rw [Array.all_eq_true_iff_forall_mem] at this
    exact of_decide_eq_true (this c (by simpa using hc))
  have key : ∀ l : List Nat, (∀ c ∈ l, c < 0x110000) → pus (l.map fun c => D.str ⟨#[c]⟩) = true ∧ PyData.canLayAll0 (pys (l.map fun c => D.str ⟨#[c]⟩)) = true ∧ PyData.depthAll (pys (l.map fun c => D.str ⟨#[c]⟩)) = 0 := fun l hl => by
    induction l with
    | nil => exact ⟨rfl, by simp [pys, PyData.canLayAll0], by simp [pys, PyData.depthAll]⟩
    | cons c l ih =>
      obtain ⟨h1, h2, h3⟩ := ih fun c hc => hl c (List.mem_cons_of_mem _ hc)
      refine ⟨by simp only [List.map_cons, pus, D.pu, h1, Bool.and_self], ?_, by simp only [List.map_cons, pys, D.py, PyData.depthAll, PyData.depth, h3]; rfl⟩
      have : PyData.strOk ⟨#[c]⟩ = true := by
        simp only [PyData.strOk]
        simpa using hl c List.mem_cons_self
      simp only [List.map_cons, pys, D.py, PyData.canLayAll0, PyData.canLay0, h2, this, Bool.and_self]
  obtain ⟨h1, h2, h3⟩ := key (z.cps.toList.filter f) fun c hc => hz c ((List.mem_filter.mp hc).1)
  refine ⟨h1, ?_⟩
  unfold SeqAt.shaped
  simp only [D.py, PyData.canLay0, PyData.depth, h2, h3]
  decide
theorem chars_filter {z : Str} {still : Mu → Prop} {i : Nat} {tt : DTT} {te : DTE} {e : Ev} {m : Mu} {p : Addr} {Q : List D → Prop} (b : Nat → Bool) (hst : ∀ acc, still (mset m p (.lst acc))) (hl : z.cps.toList.length ≤ sizeLine)
    (h : ∀ (c : Nat) (acc : List D) (R : Bool → Mu → Prop), R (b c) (mset m p (.lst acc)) → tt (e.set i (some (.str ⟨#[c]⟩))) (mset m p (.lst acc)) R)
    (h2 : ∀ (c : Nat) (acc : List D) (R : DK), R (.str ⟨#[c]⟩) (mset m p (.lst acc)) → te (e.set i (some (.str ⟨#[c]⟩))) (mset m p (.lst acc)) R) (q : Q ((z.cps.toList.filter b).map fun c => D.str ⟨#[c]⟩)) :
    lcD still (gN i) tt te e m p Q (z.cps.toList.map fun c => D.str ⟨#[c]⟩) [] := by
  refine lcD_filter (fun d => match d with
    | .str w => b (w.cps.getD 0 0)
    | _ => true) id hst _ _ (fun d hd acc R r => ?_) (fun d hd hb acc R r => ?_) (by simpa using hl) ?_
  · obtain ⟨c, _, rfl⟩ := List.mem_map.mp hd
    exact h c acc R r
  · obtain ⟨c, _, rfl⟩ := List.mem_map.mp hd
    exact h2 c acc R r
  · rw [List.nil_append, List.map_id, List.filter_map]
    exact q
theorem lt_int (a : Nat) (b : Nat) : decide ((a : Int) < (b : Int)) = decide (a < b) := by
  by_cases h : a < b
  · rw [decide_eq_true h, decide_eq_true (by omega)]
  · rw [decide_eq_false h, decide_eq_false (by omega)]
theorem str_empty (z : Str) : decide (z = Str.ofString "") = decide (z.length = 0) := by
  by_cases h : z.length = 0
  · rw [decide_eq_true h]
    apply decide_eq_true
    obtain ⟨c⟩ := z
    have : c = #[] := Array.eq_empty_of_size_eq_zero h
    subst this
    rfl
  · rw [decide_eq_false h]
    apply decide_eq_false
    intro e
    subst e
    exact h rfl
theorem rd__law_worded : ∀ ds m Q, sp__law_worded ds m Q → b__law_worded { nx := fun _ m' => Q .non m', rt := Q } (startD 2 ds) m := by
  rintro ds m Q ⟨d, rfl, ok, q⟩
  simp only [b__law_worded, dVar, dC, dOp, dB, dChain, dAndT, dOrT, dNotT, dAndV, dOrV, dNotV, dIf, dNeg, dNil, dCons, dTup, dLst, dLstM, dCB, g1, gIsi, gLen, gLen1, gRepr, gRepr1, gList1, gTuple1, gAll1, gOrd1, gStr1, gInt1, dMt, dMt0, gAppend, gExtend, gUpper, dNext, dSeq, dDrop, dRet, dRetF, dRetN, dIfS, dSet, wSeq, wRng1, wRng2, gN, gP, dFor, dLc, dLcM, dYes, dPar, dAsg2, dCall, gI, gI0, gAdd2, gSub2, gAdd, gMul, gLt, gLe, gEq, gNe, gIsN, gNotN, gIn, gIx, gSl, dSl, dNoPart, dPart, dRev, gRev, gAddLM, gRepS, gLIndex, dKIndex, dFCells, dFInt, dFPut, dFeed, startD, wipeD, List.set_cons_zero, List.set_cons_succ, List.getElem?_cons_zero, List.getElem?_cons_succ, List.map_cons, List.map_nil, List.length_cons, List.length_nil, List.replicate, List.cons_append, List.nil_append]
  refine ⟨ok.isi m (by decide), ?_⟩
  rw [isi_S ok]
  cases d with
  | str z =>
    simp only [isS, Bool.not_true]
    rw [str_empty]
    simp only [pWord] at q
    by_cases h0 : z.length = 0
    · rw [decide_eq_true h0]
      rw [decide_eq_false (show ¬ 1 ≤ z.length by omega)] at q
      exact q
    · rw [decide_eq_false h0]
      rw [decide_eq_true (show 1 ≤ z.length by omega), Bool.true_and] at q
      refine ⟨ok.len', ?_⟩
      rw [show decide ((8 : Int) < ((z.length : Nat) : Int)) = decide (8 < z.length) from lt_int 8 z.length]
      by_cases h8 : z.length ≤ 8
      · rw [decide_eq_false (show ¬ 8 < z.length by omega)]
        rw [decide_eq_true h8, Bool.true_and] at q
        intro p hp
        refine chars_filter (fun c => !smallC c) (fun _ => trivial) (by have := ok.len'; simpa [Str.length] using this) (fun c acc R r => ?_) (fun c acc R r => r) ?_
        · simp only [dVar, dC, dOp, dB, dChain, dAndT, dOrT, dNotT, dAndV, dOrV, dNotV, dIf, dNeg, dNil, dCons, dTup, dLst, dLstM, dCB, g1, gIsi, gLen, gLen1, gRepr, gRepr1, gList1, gTuple1, gAll1, gOrd1, gStr1, gInt1, dMt, dMt0, gAppend, gExtend, gUpper, dNext, dSeq, dDrop, dRet, dRetF, dRetN, dIfS, dSet, wSeq, wRng1, wRng2, gN, gP, dFor, dLc, dLcM, dYes, dPar, dAsg2, dCall, gI, gI0, gAdd2, gSub2, gAdd, gMul, gLt, gLe, gEq, gNe, gIsN, gNotN, gIn, gIx, gSl, dSl, dNoPart, dPart, dRev, gRev, gAddLM, gRepS, gLIndex, dKIndex, dFCells, dFInt, dFPut, dFeed, startD, wipeD, List.set_cons_zero, List.set_cons_succ, List.getElem?_cons_zero, List.getElem?_cons_succ, List.map_cons, List.map_nil, List.length_cons, List.length_nil, List.replicate, List.cons_append, List.nil_append]
          refine ⟨rfl, ?_⟩
          have e1 : (((⟨#[c]⟩ : Str).cps.getD 0 0 : Nat) : Int) = (c : Int) := rfl
          rw [e1]
          rw [show decide ((c : Int) < (97 : Int)) = decide (c < 97) from lt_int c 97]
          by_cases ha : c < 97
          · rw [decide_eq_true ha]
            have : (!smallC c) = true := by
              unfold smallC
              rw [decide_eq_false (show ¬ 97 ≤ c by omega)]
              rfl
            rw [this] at r
            exact r
          · rw [decide_eq_false ha]
            refine ⟨rfl, ?_⟩
            rw [show decide ((122 : Int) < (c : Int)) = decide (122 < c) from lt_int 122 c]
            have : (!smallC c) = decide (122 < c) := by
              unfold smallC
              rw [decide_eq_true (show 97 ≤ c by omega), Bool.true_and]
              by_cases hb : c ≤ 122
              · rw [decide_eq_true hb, decide_eq_false (by omega)]; rfl
              · rw [decide_eq_false hb, decide_eq_true (by omega)]; rfl
            rw [this] at r
            exact r
        · refine ⟨by decide, fit_chars ok _, fit_ints [], ?_⟩
          rw [eqv_nil, filter_none]
          exact q
      · rw [decide_eq_true (show 8 < z.length by omega)]
        rw [decide_eq_false h8] at q
        exact q
  | _ => exact q
theorem ar__law_texted : ∀ ds m Q, sp__law_texted ds m Q → ds.length = 2 := fun ds m Q ⟨d, n, e, _⟩ => by rw [e]; rfl
theorem rd__law_texted : ∀ ds m Q, sp__law_texted ds m Q → b__law_texted { nx := fun _ m' => Q .non m', rt := Q } (startD 3 ds) m := by
  rintro ds m Q ⟨d, n, rfl, ok, q⟩
  simp only [b__law_texted, dVar, dC, dOp, dB, dChain, dAndT, dOrT, dNotT, dAndV, dOrV, dNotV, dIf, dNeg, dNil, dCons, dTup, dLst, dLstM, dCB, g1, gIsi, gLen, gLen1, gRepr, gRepr1, gList1, gTuple1, gAll1, gOrd1, gStr1, gInt1, dMt, dMt0, gAppend, gExtend, gUpper, dNext, dSeq, dDrop, dRet, dRetF, dRetN, dIfS, dSet, wSeq, wRng1, wRng2, gN, gP, dFor, dLc, dLcM, dYes, dPar, dAsg2, dCall, gI, gI0, gAdd2, gSub2, gAdd, gMul, gLt, gLe, gEq, gNe, gIsN, gNotN, gIn, gIx, gSl, dSl, dNoPart, dPart, dRev, gRev, gAddLM, gRepS, gLIndex, dKIndex, dFCells, dFInt, dFPut, dFeed, startD, wipeD, List.set_cons_zero, List.set_cons_succ, List.getElem?_cons_zero, List.getElem?_cons_succ, List.map_cons, List.map_nil, List.length_cons, List.length_nil, List.replicate, List.cons_append, List.nil_append]
  refine ⟨ok.isi m (by decide), ?_⟩
  rw [isi_S ok]
  cases d with
  | str z =>
    simp only [isS, Bool.not_true]
    rw [str_empty]
    simp only [pText] at q
    by_cases h0 : z.length = 0
    · rw [decide_eq_true h0]
      rw [decide_eq_false (show ¬ 1 ≤ z.length by omega)] at q
      exact q
    · rw [decide_eq_false h0]
      rw [decide_eq_true (show 1 ≤ z.length by omega), Bool.true_and] at q
      refine ⟨ok.len', ?_⟩
      rw [lt_int]
      by_cases h8 : z.length ≤ n
      · rw [decide_eq_false (show ¬ n < z.length by omega)]
        rw [decide_eq_true h8, Bool.true_and] at q
        intro p hp
        refine chars_filter (fun c => !signC c) (fun _ => trivial) (by have := ok.len'; simpa [Str.length] using this) (fun c acc R r => ?_) (fun c acc R r => r) ?_
        · simp only [dVar, dC, dOp, dB, dChain, dAndT, dOrT, dNotT, dAndV, dOrV, dNotV, dIf, dNeg, dNil, dCons, dTup, dLst, dLstM, dCB, g1, gIsi, gLen, gLen1, gRepr, gRepr1, gList1, gTuple1, gAll1, gOrd1, gStr1, gInt1, dMt, dMt0, gAppend, gExtend, gUpper, dNext, dSeq, dDrop, dRet, dRetF, dRetN, dIfS, dSet, wSeq, wRng1, wRng2, gN, gP, dFor, dLc, dLcM, dYes, dPar, dAsg2, dCall, gI, gI0, gAdd2, gSub2, gAdd, gMul, gLt, gLe, gEq, gNe, gIsN, gNotN, gIn, gIx, gSl, dSl, dNoPart, dPart, dRev, gRev, gAddLM, gRepS, gLIndex, dKIndex, dFCells, dFInt, dFPut, dFeed, startD, wipeD, List.set_cons_zero, List.set_cons_succ, List.getElem?_cons_zero, List.getElem?_cons_succ, List.map_cons, List.map_nil, List.length_cons, List.length_nil, List.replicate, List.cons_append, List.nil_append]
          refine ⟨rfl, ?_⟩
          have e1 : (((⟨#[c]⟩ : Str).cps.getD 0 0 : Nat) : Int) = (c : Int) := rfl
          rw [e1, show decide ((c : Int) < (32 : Int)) = decide (c < 32) from lt_int c 32]
          by_cases ha : c < 32
          · rw [decide_eq_true ha]
            have : (!signC c) = true := by
              unfold signC
              rw [decide_eq_false (show ¬ 32 ≤ c by omega)]
              rfl
            rw [this] at r
            exact r
          · rw [decide_eq_false ha]
            refine ⟨rfl, ?_⟩
            rw [show decide ((126 : Int) < (c : Int)) = decide (126 < c) from lt_int 126 c]
            by_cases hb : 126 < c
            · rw [decide_eq_true hb]
              have : (!signC c) = true := by
                unfold signC
                rw [decide_eq_false (show ¬ c ≤ 126 by omega)]
                simp
              rw [this] at r
              exact r
            · rw [decide_eq_false hb]
              refine ⟨rfl, ?_⟩
              have : (!signC c) = decide ((c : Int) = 37) := by
                unfold signC
                rw [decide_eq_true (show 32 ≤ c by omega), decide_eq_true (show c ≤ 126 by omega), Bool.true_and, Bool.true_and, Bool.not_not]
                by_cases hc : c = 37
                · subst hc; rfl
                · rw [decide_eq_false hc, decide_eq_false (by omega)]
              rw [this] at r
              exact r
        · refine ⟨by decide, fit_chars ok _, fit_ints [], ?_⟩
          rw [eqv_nil, filter_none]
          exact q
      · rw [decide_eq_true (show n < z.length by omega)]
        rw [decide_eq_false h8] at q
        exact q
  | _ => exact q
theorem rd__law_leveled : ∀ ds m Q, sp__law_leveled ds m Q → b__law_leveled { nx := fun _ m' => Q .non m', rt := Q } (startD 1 ds) m := by
  rintro ds m Q ⟨d, rfl, ok, q⟩
  simp only [b__law_leveled, dVar, dC, dOp, dB, dChain, dAndT, dOrT, dNotT, dAndV, dOrV, dNotV, dIf, dNeg, dNil, dCons, dTup, dLst, dLstM, dCB, g1, gIsi, gLen, gLen1, gRepr, gRepr1, gList1, gTuple1, gAll1, gOrd1, gStr1, gInt1, dMt, dMt0, gAppend, gExtend, gUpper, dNext, dSeq, dDrop, dRet, dRetF, dRetN, dIfS, dSet, wSeq, wRng1, wRng2, gN, gP, dFor, dLc, dLcM, dYes, dPar, dAsg2, dCall, gI, gI0, gAdd2, gSub2, gAdd, gMul, gLt, gLe, gEq, gNe, gIsN, gNotN, gIn, gIx, gSl, dSl, dNoPart, dPart, dRev, gRev, gAddLM, gRepS, gLIndex, dKIndex, dFCells, dFInt, dFPut, dFeed, startD, wipeD, List.set_cons_zero, List.set_cons_succ, List.getElem?_cons_zero, List.getElem?_cons_succ, List.map_cons, List.map_nil, List.length_cons, List.length_nil, List.replicate, List.cons_append, List.nil_append]
  refine ⟨ok.isi m (by decide), ?_⟩
  rw [isi_S ok]
  cases d with
  | str z =>
    refine ⟨by decide, rfl, rfl, ?_⟩
    have e : inD (.str z) (l_LEVELS.map D.str) = l_LEVELS.contains z := in_levels z
    show Q (.bl (inD (.str z) (l_LEVELS.map D.str))) m
    rw [e]
    exact q
  | _ => exact q
theorem rd__law_keyed : ∀ ds m Q, sp__law_keyed ds m Q → b__law_keyed { nx := fun _ m' => Q .non m', rt := Q } (startD 1 ds) m := by
  rintro ds m Q ⟨d, rfl, ok, q⟩
  simp only [b__law_keyed, dVar, dC, dOp, dB, dChain, dAndT, dOrT, dNotT, dAndV, dOrV, dNotV, dIf, dNeg, dNil, dCons, dTup, dLst, dLstM, dCB, g1, gIsi, gLen, gLen1, gRepr, gRepr1, gList1, gTuple1, gAll1, gOrd1, gStr1, gInt1, dMt, dMt0, gAppend, gExtend, gUpper, dNext, dSeq, dDrop, dRet, dRetF, dRetN, dIfS, dSet, wSeq, wRng1, wRng2, gN, gP, dFor, dLc, dLcM, dYes, dPar, dAsg2, dCall, gI, gI0, gAdd2, gSub2, gAdd, gMul, gLt, gLe, gEq, gNe, gIsN, gNotN, gIn, gIx, gSl, dSl, dNoPart, dPart, dRev, gRev, gAddLM, gRepS, gLIndex, dKIndex, dFCells, dFInt, dFPut, dFeed, startD, wipeD, List.set_cons_zero, List.set_cons_succ, List.getElem?_cons_zero, List.getElem?_cons_succ, List.map_cons, List.map_nil, List.length_cons, List.length_nil, List.replicate, List.cons_append, List.nil_append]
  refine ⟨ok.isi m (by decide), ?_⟩
  rw [isi_T ok]
  cases d with
  | tup xs =>
    show (match D.bl (decide (((xs.length : Nat) : Int) = 2)) with | D.bl true => _ | D.bl false => _ | _ => False)
    match xs, q, ok with
    | [], q, _ => exact q
    | [_], q, _ => exact q
    | x :: y :: z :: r, q, _ =>
      rw [decide_eq_false (by simp only [List.length_cons]; omega)]
      exact q
    | [a, b], q, ok =>
      show sp__law_worded [a] m _
      refine ⟨a, rfl, ok.fst, ?_⟩
      simp only [pKey] at q
      cases h : pWord a with
      | false => rw [h] at q; exact q
      | true =>
        rw [h] at q
        exact ⟨b, rfl, ok.snd, q⟩
  | _ => exact q
theorem rd__law_named : ∀ ds m Q, sp__law_named ds m Q → b__law_named { nx := fun _ m' => Q .non m', rt := Q } (startD 1 ds) m := by
  rintro ds m Q ⟨d, rfl, ok, q⟩
  simp only [b__law_named, dVar, dC, dOp, dB, dChain, dAndT, dOrT, dNotT, dAndV, dOrV, dNotV, dIf, dNeg, dNil, dCons, dTup, dLst, dLstM, dCB, g1, gIsi, gLen, gLen1, gRepr, gRepr1, gList1, gTuple1, gAll1, gOrd1, gStr1, gInt1, dMt, dMt0, gAppend, gExtend, gUpper, dNext, dSeq, dDrop, dRet, dRetF, dRetN, dIfS, dSet, wSeq, wRng1, wRng2, gN, gP, dFor, dLc, dLcM, dYes, dPar, dAsg2, dCall, gI, gI0, gAdd2, gSub2, gAdd, gMul, gLt, gLe, gEq, gNe, gIsN, gNotN, gIn, gIx, gSl, dSl, dNoPart, dPart, dRev, gRev, gAddLM, gRepS, gLIndex, dKIndex, dFCells, dFInt, dFPut, dFeed, startD, wipeD, List.set_cons_zero, List.set_cons_succ, List.getElem?_cons_zero, List.getElem?_cons_succ, List.map_cons, List.map_nil, List.length_cons, List.length_nil, List.replicate, List.cons_append, List.nil_append]
  refine ⟨ok.isi m (by decide), ?_⟩
  rw [isi_T ok]
  cases d with
  | tup xs =>
    show (match D.bl (decide (((xs.length : Nat) : Int) = 2)) with | D.bl true => _ | D.bl false => _ | _ => False)
    match xs, q, ok with
    | [], q, _ => exact q
    | [_], q, _ => exact q
    | x :: y :: z :: r, q, _ =>
      rw [decide_eq_false (by simp only [List.length_cons]; omega)]
      exact q
    | [a, b], q, ok =>
      show sp__law_keyed [a] m _
      refine ⟨a, rfl, ok.fst, ?_⟩
      simp only [pName] at q
      cases h : pKey a with
      | false => rw [h] at q; exact q
      | true =>
        rw [h] at q
        exact ⟨b, rfl, ok.snd, q⟩
  | _ => exact q

theorem le_key (a b : Str) (n k : Int) : leP (.tuple [.str b, .int k]) (.tuple [.str a, .int n]) = (ltP (.tuple [.str a, .int n]) (.tuple [.str b, .int k])).map (!·) := by
  simp only [leP, lePs, ltP, ltPs, PyData.eqv]
  have s1 : (b == a) = (a == b) := Bool.eq_iff_iff.mpr ⟨fun h => by rw [eq_of_beq h]; exact beq_self_eq_true a, fun h => by rw [eq_of_beq h]; exact beq_self_eq_true b⟩
  have s2 : (k == n) = (n == k) := Bool.eq_iff_iff.mpr ⟨fun h => by rw [eq_of_beq h]; exact beq_self_eq_true n, fun h => by rw [eq_of_beq h]; exact beq_self_eq_true k⟩
  rw [s1, s2]
  have s3 : decide (k ≤ n) = !decide (n < k) := by
    by_cases h : n < k
    · rw [decide_eq_true h, decide_eq_false (by omega)]; rfl
    · rw [decide_eq_false h, decide_eq_true (by omega)]; rfl
  cases (a == b) <;> cases (n == k) <;> simp [s3]
theorem eqv_key_comm (a b : Str) (n k : Int) : PyData.eqv (.tuple [.str b, .int k]) (.tuple [.str a, .int n]) = PyData.eqv (.tuple [.str a, .int n]) (.tuple [.str b, .int k]) := by
  simp only [PyData.eqv, PyData.eqvAll]
  have s1 : (b == a) = (a == b) := Bool.eq_iff_iff.mpr ⟨fun h => by rw [eq_of_beq h]; exact beq_self_eq_true a, fun h => by rw [eq_of_beq h]; exact beq_self_eq_true b⟩
  have s2 : (k == n) = (n == k) := Bool.eq_iff_iff.mpr ⟨fun h => by rw [eq_of_beq h]; exact beq_self_eq_true n, fun h => by rw [eq_of_beq h]; exact beq_self_eq_true k⟩
  rw [s1, s2]
theorem le_one (i j : Int) : lePs [.int j] [.int i] = (ltPs [.int i] [.int j]).map (!·) := by
  simp only [leP, lePs, ltP, ltPs, PyData.eqv]
  have s2 : (j == i) = (i == j) := Bool.eq_iff_iff.mpr ⟨fun h => by rw [eq_of_beq h]; exact beq_self_eq_true i, fun h => by rw [eq_of_beq h]; exact beq_self_eq_true j⟩
  rw [s2]
  have s3 : decide (j ≤ i) = !decide (i < j) := by
    by_cases h : i < j
    · rw [decide_eq_true h, decide_eq_false (by omega)]; rfl
    · rw [decide_eq_false h, decide_eq_true (by omega)]; rfl
  cases (i == j) <;> simp [s3]
theorem le_name (a b : Str) (n k i j : Int) : leP (.tuple [.tuple [.str b, .int k], .int j]) (.tuple [.tuple [.str a, .int n], .int i]) = (ltP (.tuple [.tuple [.str a, .int n], .int i]) (.tuple [.tuple [.str b, .int k], .int j])).map (!·) := by
  have e1 : leP (.tuple [.tuple [.str b, .int k], .int j]) (.tuple [.tuple [.str a, .int n], .int i]) = (match PyData.eqv (.tuple [.str b, .int k]) (.tuple [.str a, .int n]), lePs [.int j] [.int i], leP (.tuple [.str b, .int k]) (.tuple [.str a, .int n]) with
      | true, r, _ => r
      | false, some _, some b => some b
      | false, _, _ => none) := by first | (rw [leP, lePs]; rfl) | rw [leP, lePs]
  have e2 : ltP (.tuple [.tuple [.str a, .int n], .int i]) (.tuple [.tuple [.str b, .int k], .int j]) = (match PyData.eqv (.tuple [.str a, .int n]) (.tuple [.str b, .int k]), ltPs [.int i] [.int j], ltP (.tuple [.str a, .int n]) (.tuple [.str b, .int k]) with
      | true, r, _ => r
      | false, some _, some b => some b
      | false, _, _ => none) := by first | (rw [ltP, ltPs]; rfl) | rw [ltP, ltPs]
  rw [e1, e2, le_one, le_key, eqv_key_comm]
  cases PyData.eqv (.tuple [.str a, .int n]) (.tuple [.str b, .int k]) with
  | true => rfl
  | false => cases ltPs [.int i] [.int j] <;> cases ltP (.tuple [.str a, .int n]) (.tuple [.str b, .int k]) <;> rfl
/-- x <= y where y < x is known -/
def CmpL (x y : D) : Prop := ∀ (m : Mu) (Q : DK), Q (.bl (!ltD y x)) m → gLe x y m Q
theorem cmpL_str (a b : Str) : CmpL (.str a) (.str b) := fun m Q q => q
theorem cmpL_name {x y : D} (hx : okD x) (hy : okD y) (nx : pName x = true) (ny : pName y = true) : CmpL x y := by
  intro m Q q
  have fx := hx.fit
  have fy := hy.fit
  obtain ⟨a, n, k, rfl⟩ := name_form nx
  obtain ⟨b, n', k', rfl⟩ := name_form ny
  obtain ⟨c, hc⟩ := ltP_name b a n' n k' k
  have h2 := le_name b a n' n k' k
  rw [hc] at h2
  refine ⟨fx, fy, !c, h2, ?_⟩
  have e : ltD (.tup [.tup [.str b, .int n'], .int k']) (.tup [.tup [.str a, .int n], .int k]) = c := by
    show (ltP (.tuple [.tuple [.str b, .int n'], .int k']) (.tuple [.tuple [.str a, .int n], .int k])).getD false = c
    rw [hc]; rfl
  rw [e] at q
  exact q
theorem adj_filter (xs : List D) : (((List.range (xs.length - 1)).filter fun k => !ltD (xs.getD k .non) (xs.getD (k + 1) .non)).map fun k : Nat => D.int (1 + (k : Int))).isEmpty = risesB xs := by
  rw [filter_none (fun k => ltD (xs.getD k .non) (xs.getD (k + 1) .non)), ← adj_all, adj_eq, all_id]
/-- the comprehension that seeks two in a row that don't rise; key tells what is compared of each -/
theorem seek_adj {still : Mu → Prop} {i : Nat} {tt : DTT} {te : DTE} {e : Ev} {m : Mu} {p : Addr} {Q : List D → Prop} (ys : List D) (hst : ∀ acc, still (mset m p (.lst acc))) (hl : ys.length ≤ 100000)
    (h : ∀ (k : Nat), k + 1 < ys.length → ∀ (acc : List D) (R : Bool → Mu → Prop), R (!ltD (ys.getD k .non) (ys.getD (k + 1) .non)) (mset m p (.lst acc)) → tt (e.set i (some (.int (1 + (k : Int))))) (mset m p (.lst acc)) R)
    (h2 : ∀ (d : D) (acc : List D) (R : DK), R d (mset m p (.lst acc)) → te (e.set i (some d)) (mset m p (.lst acc)) R)
    (q : ∀ l : List Int, (l.isEmpty = risesB ys) → l.length ≤ 100000 → Q (l.map D.int)) :
    lcD still (gN i) tt te e m p Q (rngD 1 (((ys.length : Nat) : Int) - 1).toNat) [] := by
  have hn : (((ys.length : Nat) : Int) - 1).toNat = ys.length - 1 := by omega
  rw [hn]
  refine lcD_filter (fun d => match d with
    | .int k => !ltD (ys.getD (k - 1).toNat .non) (ys.getD k.toNat .non)
    | _ => true) id hst _ _ (fun d hd acc R r => ?_) (fun d hd hb acc R r => h2 d acc R r) (by simp only [List.length_nil, rngD, List.length_map, List.length_range]; rw [sizeLine_eq]; omega) ?_
  · obtain ⟨k, hk, rfl⟩ := List.mem_map.mp hd
    have hk := List.mem_range.mp hk
    refine h k (by omega) acc R ?_
    have e1 : ((1 : Int) + (k : Int) - 1).toNat = k := by omega
    have e2 : ((1 : Int) + (k : Int)).toNat = k + 1 := by omega
    simp only [e1, e2] at r
    exact r
  · rw [List.nil_append, List.map_id]
    unfold rngD
    rw [List.filter_map]
    have e : ((fun d => match d with
      | .int k => !ltD (ys.getD (k - 1).toNat .non) (ys.getD k.toNat .non)
      | _ => true) ∘ fun k : Nat => D.int (1 + (k : Int))) = fun k : Nat => !ltD (ys.getD k .non) (ys.getD (k + 1) .non) := by
      funext k
      show (!ltD (ys.getD ((1 : Int) + (k : Int) - 1).toNat .non) (ys.getD ((1 : Int) + (k : Int)).toNat .non)) = _
      have e1 : ((1 : Int) + (k : Int) - 1).toNat = k := by omega
      have e2 : ((1 : Int) + (k : Int)).toNat = k + 1 := by omega
      rw [e1, e2]
    rw [e]
    have := q (((List.range (ys.length - 1)).filter fun k => !ltD (ys.getD k .non) (ys.getD (k + 1) .non)).map fun k : Nat => (1 + (k : Int))) (by
      rw [← adj_filter ys]
      cases ((List.range (ys.length - 1)).filter fun k => !ltD (ys.getD k .non) (ys.getD (k + 1) .non)) <;> rfl) (by
      rw [List.length_map]
      have := List.length_filter_le (fun k => !ltD (ys.getD k .non) (ys.getD (k + 1) .non)) (List.range (ys.length - 1))
      rw [List.length_range] at this
      omega)
    rw [List.map_map] at this
    exact this
theorem lenTup {ds : List D} (ok : okD (.tup ds)) : ds.length ≤ 100000 := by
  have := ok.few
  have := len_szs ds
  simp only [sz] at *
  omega
theorem okR_len {n : Nat} (h : n ≤ 100000) : okR ((n : Nat) : Int) := by
  have : (100000 : Int) < 2 ^ 62 := by decide
  exact ⟨by omega, by omega⟩
theorem fit_nil : fitD (.lst []) := fit_ints []
theorem bad_empty (l : List D) (f : D → Bool) : (l.filter fun d => !f d).isEmpty = l.all f := by
  have := filter_none f (fun d => d) l
  rw [List.map_id'] at this
  exact this
theorem okD.filt {ds : List D} (h : okD (.tup ds)) (f : D → Bool) : fitD (.lst (ds.filter f)) := by
  have key : ∀ l : List D, (∀ d ∈ l, d.pu = true ∧ d.py.canLay0 = true ∧ d.py.depth ≤ 50) → pus l = true ∧ PyData.canLayAll0 (pys l) = true ∧ PyData.depthAll (pys l) ≤ 50 := fun l hl => by
    induction l with
    | nil => exact ⟨rfl, by simp [pys, PyData.canLayAll0], by simp [pys, PyData.depthAll]⟩
    | cons d l ih =>
      obtain ⟨h1, h2, h3⟩ := ih fun c hc => hl c (List.mem_cons_of_mem _ hc)
      obtain ⟨g1, g2, g3⟩ := hl d List.mem_cons_self
      refine ⟨by simp only [pus, g1, h1, Bool.and_self], by simp only [pys, PyData.canLayAll0, g2, h2, Bool.and_self], by simp only [pys, PyData.depthAll]; omega⟩
  obtain ⟨h1, h2, h3⟩ := key (ds.filter f) fun d hd => by
    have o := h.mem (List.mem_filter.mp hd).1
    exact ⟨o.pu, o.lay, o.dep⟩
  refine ⟨h1, ?_⟩
  unfold SeqAt.shaped
  simp only [D.py, PyData.canLay0, PyData.depth, h2, Bool.true_and]
  exact decide_eq_true (by omega)
theorem rd__law_all_named : ∀ ds m Q, sp__law_all_named ds m Q → b__law_all_named { nx := fun _ m' => Q .non m', rt := Q } (startD 3 ds) m := by
  rintro ds m Q ⟨d, rfl, ok, q⟩
  simp only [b__law_all_named, dVar, dC, dOp, dB, dChain, dAndT, dOrT, dNotT, dAndV, dOrV, dNotV, dIf, dNeg, dNil, dCons, dTup, dLst, dLstM, dCB, g1, gIsi, gLen, gLen1, gRepr, gRepr1, gList1, gTuple1, gAll1, gOrd1, gStr1, gInt1, dMt, dMt0, gAppend, gExtend, gUpper, dNext, dSeq, dDrop, dRet, dRetF, dRetN, dIfS, dSet, wSeq, wRng1, wRng2, gN, gP, dFor, dLc, dLcM, dYes, dPar, dAsg2, dCall, gI, gI0, gAdd2, gSub2, gAdd, gMul, gLt, gLe, gEq, gNe, gIsN, gNotN, gIn, gIx, gSl, dSl, dNoPart, dPart, dRev, gRev, gAddLM, gRepS, gLIndex, dKIndex, dFCells, dFInt, dFPut, dFeed, startD, wipeD, List.set_cons_zero, List.set_cons_succ, List.getElem?_cons_zero, List.getElem?_cons_succ, List.map_cons, List.map_nil, List.length_cons, List.length_nil, List.replicate, List.cons_append, List.nil_append]
  refine ⟨ok.isi m (by decide), ?_⟩
  rw [isi_T ok]
  cases d with
  | tup xs =>
    simp only [isT, Bool.not_true]
    refine ⟨by decide, ok.fit, ⟨rfl, by decide⟩, ?_⟩
    have e : PyData.eqv (D.tup xs).py (D.tup []).py = xs.isEmpty := by
      cases xs with
      | nil => simp [D.py, pys, PyData.eqv, PyData.eqvAll]
      | cons x r => simp [D.py, pys, PyData.eqv, PyData.eqvAll]
    rw [e]
    simp only [pNames] at q
    cases hx : xs.isEmpty with
    | true => rw [hx] at q; exact q
    | false =>
      rw [hx, Bool.not_false, Bool.true_and] at q
      intro p hp
      refine lcD_filter (fun d => !pName d) id (fun _ => trivial) _ _ (fun y hy acc R r => ?_) (fun y hy hb acc R r => r) (by rw [sizeLine_eq, List.length_nil]; have := lenTup ok; omega) ?_
      · simp only [dVar, dC, dOp, dB, dChain, dAndT, dOrT, dNotT, dAndV, dOrV, dNotV, dIf, dNeg, dNil, dCons, dTup, dLst, dLstM, dCB, g1, gIsi, gLen, gLen1, gRepr, gRepr1, gList1, gTuple1, gAll1, gOrd1, gStr1, gInt1, dMt, dMt0, gAppend, gExtend, gUpper, dNext, dSeq, dDrop, dRet, dRetF, dRetN, dIfS, dSet, wSeq, wRng1, wRng2, gN, gP, dFor, dLc, dLcM, dYes, dPar, dAsg2, dCall, gI, gI0, gAdd2, gSub2, gAdd, gMul, gLt, gLe, gEq, gNe, gIsN, gNotN, gIn, gIx, gSl, dSl, dNoPart, dPart, dRev, gRev, gAddLM, gRepS, gLIndex, dKIndex, dFCells, dFInt, dFPut, dFeed, startD, wipeD, List.set_cons_zero, List.set_cons_succ, List.getElem?_cons_zero, List.getElem?_cons_succ, List.map_cons, List.map_nil, List.length_cons, List.length_nil, List.replicate, List.cons_append, List.nil_append]
        exact ⟨y, rfl, ok.mem hy, r⟩
      · rw [List.nil_append, List.map_id]
        refine ⟨by decide, ok.filt _, fit_nil, ?_⟩
        rw [eqv_nil, bad_empty]
        cases hn : xs.all pName with
        | false => rw [hn] at q; exact q
        | true =>
          rw [hn, Bool.true_and] at q
          have hn := List.all_eq_true.mp hn
          refine ⟨⟨by decide, by decide⟩, okR_len (lenTup ok), fun p hp => ?_⟩
          refine seek_adj xs (fun _ => trivial) (lenTup ok) (fun k hk acc R r => ?_) (fun d acc R r => r) (fun l hl hl2 => ?_)
          · have h1 : xs[k]? = some xs[k] := List.getElem?_eq_getElem (by omega)
            have h2 : xs[k + 1]? = some xs[k + 1] := List.getElem?_eq_getElem hk
            show gIx (.tup xs) (.int (1 + (k : Int))) _ fun x m1 => gIx (.tup xs) (.int (1 + (k : Int) - 1)) m1 fun y m2 => gLe x y m2 fun d m3 => match d with | .bl k => R k m3 | _ => False
            refine gIx_nat (.inl rfl) (j := k + 1) (by omega) h2 (gIx_nat (.inl rfl) (j := k) (by omega) h1 ?_)
            have a1 : xs[k] ∈ xs := List.getElem_mem _
            have a2 : xs[k + 1] ∈ xs := List.getElem_mem _
            refine cmpL_name (ok.mem a2) (ok.mem a1) (hn _ a2) (hn _ a1) _ _ ?_
            rw [List.getD_eq_getElem?_getD, List.getD_eq_getElem?_getD, h1, h2] at r
            exact r
          · refine ⟨by decide, fit_ints l, fit_nil, ?_⟩
            rw [eqv_nil]
            have : (l.map D.int).isEmpty = risesB xs := by
              rw [← hl]
              cases l <;> rfl
            rw [this]
            exact q
  | _ => exact q
theorem rd__law_versioned : ∀ ds m Q, sp__law_versioned ds m Q → b__law_versioned { nx := fun _ m' => Q .non m', rt := Q } (startD 3 ds) m := by
  rintro ds m Q ⟨d, rfl, ok, q⟩
  simp only [b__law_versioned, dVar, dC, dOp, dB, dChain, dAndT, dOrT, dNotT, dAndV, dOrV, dNotV, dIf, dNeg, dNil, dCons, dTup, dLst, dLstM, dCB, g1, gIsi, gLen, gLen1, gRepr, gRepr1, gList1, gTuple1, gAll1, gOrd1, gStr1, gInt1, dMt, dMt0, gAppend, gExtend, gUpper, dNext, dSeq, dDrop, dRet, dRetF, dRetN, dIfS, dSet, wSeq, wRng1, wRng2, gN, gP, dFor, dLc, dLcM, dYes, dPar, dAsg2, dCall, gI, gI0, gAdd2, gSub2, gAdd, gMul, gLt, gLe, gEq, gNe, gIsN, gNotN, gIn, gIx, gSl, dSl, dNoPart, dPart, dRev, gRev, gAddLM, gRepS, gLIndex, dKIndex, dFCells, dFInt, dFPut, dFeed, startD, wipeD, List.set_cons_zero, List.set_cons_succ, List.getElem?_cons_zero, List.getElem?_cons_succ, List.map_cons, List.map_nil, List.length_cons, List.length_nil, List.replicate, List.cons_append, List.nil_append]
  refine ⟨ok.isi m (by decide), ?_⟩
  rw [isi_T ok]
  cases d with
  | tup xs =>
    simp only [isT, Bool.not_true]
    simp only [pVersion] at q
    intro p hp
    refine lcD_filter (fun d => !pShare d) id (fun _ => trivial) _ _ (fun y hy acc R r => ?_) (fun y hy hb acc R r => r) (by rw [sizeLine_eq, List.length_nil]; have := lenTup ok; omega) ?_
    · simp only [dVar, dC, dOp, dB, dChain, dAndT, dOrT, dNotT, dAndV, dOrV, dNotV, dIf, dNeg, dNil, dCons, dTup, dLst, dLstM, dCB, g1, gIsi, gLen, gLen1, gRepr, gRepr1, gList1, gTuple1, gAll1, gOrd1, gStr1, gInt1, dMt, dMt0, gAppend, gExtend, gUpper, dNext, dSeq, dDrop, dRet, dRetF, dRetN, dIfS, dSet, wSeq, wRng1, wRng2, gN, gP, dFor, dLc, dLcM, dYes, dPar, dAsg2, dCall, gI, gI0, gAdd2, gSub2, gAdd, gMul, gLt, gLe, gEq, gNe, gIsN, gNotN, gIn, gIx, gSl, dSl, dNoPart, dPart, dRev, gRev, gAddLM, gRepS, gLIndex, dKIndex, dFCells, dFInt, dFPut, dFeed, startD, wipeD, List.set_cons_zero, List.set_cons_succ, List.getElem?_cons_zero, List.getElem?_cons_succ, List.map_cons, List.map_nil, List.length_cons, List.length_nil, List.replicate, List.cons_append, List.nil_append]
      refine ⟨y, rfl, ok.mem hy, ?_⟩
      cases hk : pKey y with
      | false =>
        have : pShare y = false := by
          cases hs : pShare y with
          | false => rfl
          | true =>
            obtain ⟨a, n, rfl⟩ := share_form hs
            simp only [pShare, Bool.and_eq_true, decide_eq_true_eq] at hs
            simp only [pKey, pNumber, hs.1, Bool.true_and, decide_eq_false_iff_not] at hk
            omega
        rw [this] at r
        exact r
      | true =>
        obtain ⟨a, n, rfl⟩ := key_form hk
        show R (decide (n = 0)) _
        have : (!pShare (.tup [.str a, .int n])) = decide (n = 0) := by
          simp only [pKey, pNumber, Bool.and_eq_true, decide_eq_true_eq] at hk
          simp only [pShare, hk.1, Bool.true_and]
          by_cases h0 : n = 0
          · rw [decide_eq_true h0, decide_eq_false (by omega)]; rfl
          · rw [decide_eq_false h0, decide_eq_true (by omega)]; rfl
        rw [this] at r
        exact r
    · rw [List.nil_append, List.map_id]
      refine ⟨by decide, ok.filt _, fit_nil, ?_⟩
      rw [eqv_nil, bad_empty]
      cases hn : xs.all pShare with
      | false => rw [hn] at q; exact q
      | true =>
        rw [hn, Bool.true_and] at q
        have hn := List.all_eq_true.mp hn
        refine ⟨⟨by decide, by decide⟩, okR_len (lenTup ok), fun p hp => ?_⟩
        have := seek_adj (xs.map fstD) (still := yes) (i := 1) (e := [some (.tup xs), none, none]) (m := m) (p := p) (Q := fun acc => 0 ≤ sizeLine ∧ gEqG (.lst acc) (.lst []) m Q)
          (tt := dB (dOp gLe (dOp gIx (dOp gIx (dVar 0) (dVar 1)) (dC (.int 0))) (dOp gIx (dOp gIx (dVar 0) (dOp gSub2 (dVar 1) (dC (.int 1)))) (dC (.int 0))))) (te := dVar 1)
          (fun _ => trivial) (by rw [List.length_map]; exact lenTup ok) (fun k hk acc R r => ?_) (fun d acc R r => r) (fun l hl hl2 => ?_)
        · rw [List.length_map] at this
          exact this
        · rw [List.length_map] at hk
          have h1 : xs[k]? = some xs[k] := List.getElem?_eq_getElem (by omega)
          have h2 : xs[k + 1]? = some xs[k + 1] := List.getElem?_eq_getElem hk
          obtain ⟨a, n, ea⟩ := share_form (hn _ (List.getElem_mem (by omega : k < xs.length)))
          obtain ⟨b, n', eb⟩ := share_form (hn _ (List.getElem_mem hk))
          show gIx (.tup xs) (.int (1 + (k : Int))) _ fun x m1 => gIx x (.int 0) m1 fun x m2 => gIx (.tup xs) (.int (1 + (k : Int) - 1)) m2 fun y m3 => gIx y (.int 0) m3 fun y m4 => gLe x y m4 fun d m5 => match d with | .bl k => R k m5 | _ => False
          refine gIx_nat (.inl rfl) (j := k + 1) (by omega) h2 ?_
          rw [eb]
          show gIx (.tup xs) (.int (1 + (k : Int) - 1)) _ fun y m3 => gIx y (.int 0) m3 fun y m4 => gLe (.str b) y m4 fun d m5 => match d with | .bl k => R k m5 | _ => False
          refine gIx_nat (.inl rfl) (j := k) (by omega) h1 ?_
          rw [ea]
          show R (!decide (a.cps.toList < b.cps.toList)) _
          rw [List.getD_eq_getElem?_getD, List.getD_eq_getElem?_getD, List.getElem?_map, List.getElem?_map, h1, h2, ea, eb] at r
          exact r
        · refine ⟨by decide, fit_ints l, fit_nil, ?_⟩
          rw [eqv_nil]
          have : (l.map D.int).isEmpty = risesB (xs.map fstD) := by
            rw [← hl]
            cases l <;> rfl
          rw [this]
          exact q
  | _ => exact q
end K01

set_option Elab.async false
set_option linter.all false
set_option maxRecDepth 100000
set_option maxHeartbeats 4000000
namespace K01
open PySem PySem.Spec PyProof.Rows L2 DL

/-! ### the things that are drawn -/
mutual
def asc (b : Nat) : D → Bool
  | .non => true
  | .bl _ => true
  | .int i => decide (i.natAbs ≤ b)
  | .str z => z.cps.toList.all fun c => decide (c < 128)
  | .tup ds => ascs b ds
  | .lst ds => ascs b ds
  | _ => false
def ascs (b : Nat) : List D → Bool
  | [] => true
  | d :: ds => asc b d && ascs b ds
end
mutual
def dp : D → Nat
  | .tup ds => dps ds + 1
  | .lst ds => dps ds + 1
  | _ => 0
def dps : List D → Nat
  | [] => 0
  | d :: ds => max (dp d) (dps ds)
end
def huge : Nat := 10 ^ 60
structure okT (b n k : Nat) (d : D) : Prop where
  a : asc b d = true
  s : sz d ≤ n
  k : dp d ≤ k
def okTb (b n k : Nat) (d : D) : Bool := asc b d && decide (sz d ≤ n) && decide (dp d ≤ k)
theorem okT_of {b n k : Nat} {d : D} (h : okTb b n k d = true) : okT b n k d := by
  unfold okTb at h
  rw [Bool.and_eq_true, Bool.and_eq_true, decide_eq_true_eq, decide_eq_true_eq] at h
  exact ⟨h.1.1, h.1.2, h.2⟩
mutual
theorem asc_mono {b c : Nat} (h : b ≤ c) : ∀ d : D, asc b d = true → asc c d = true
  | .non, _ => rfl
  | .bl _, _ => rfl
  | .int i, e => by simp only [asc, decide_eq_true_eq] at e ⊢; omega
  | .str _, e => e
  | .tup ds, e => ascs_mono h ds e
  | .lst ds, e => ascs_mono h ds e
  | .ref _, e => e
  | .oth _, e => e
  | .scr _, e => e
theorem ascs_mono {b c : Nat} (h : b ≤ c) : ∀ ds : List D, ascs b ds = true → ascs c ds = true
  | [], _ => rfl
  | d :: ds, e => by
    simp only [ascs, Bool.and_eq_true] at e ⊢
    exact ⟨asc_mono h d e.1, ascs_mono h ds e.2⟩
end
theorem okT.mono {b n k b' n' k' : Nat} {d : D} (h : okT b n k d) (hb : b ≤ b') (hn : n ≤ n') (hk : k ≤ k') : okT b' n' k' d := ⟨asc_mono hb d h.a, Nat.le_trans h.s hn, Nat.le_trans h.k hk⟩
theorem ascs_iff {b : Nat} : ∀ {ds : List D}, ascs b ds = true ↔ ∀ d ∈ ds, asc b d = true
  | [] => by simp [ascs]
  | d :: ds => by simp only [ascs, Bool.and_eq_true, List.mem_cons, forall_eq_or_imp, ascs_iff (ds := ds)]
theorem dps_le {k : Nat} : ∀ {ds : List D}, dps ds ≤ k ↔ ∀ d ∈ ds, dp d ≤ k
  | [] => by simp [dps]
  | d :: ds => by simp only [dps, Nat.max_le, List.mem_cons, forall_eq_or_imp, dps_le (ds := ds)]
theorem szs_app : ∀ ds es : List D, szs (ds ++ es) = szs ds + szs es
  | [], es => by simp [szs]
  | d :: ds, es => by rw [List.cons_append]; simp only [szs, szs_app ds es]; omega
theorem szs_rev : ∀ ds : List D, szs ds.reverse = szs ds
  | [] => rfl
  | d :: ds => by rw [List.reverse_cons, szs_app, szs_rev ds]; simp only [szs]; omega
theorem szs_take (ds : List D) (j : Nat) : szs (ds.take j) ≤ szs ds := by
  have := szs_app (ds.take j) (ds.drop j)
  rw [List.take_append_drop] at this
  omega
theorem szs_drop (ds : List D) (j : Nat) : szs (ds.drop j) ≤ szs ds := by
  have := szs_app (ds.take j) (ds.drop j)
  rw [List.take_append_drop] at this
  omega
mutual
theorem asc_pu {b : Nat} : ∀ d : D, asc b d = true → d.pu = true
  | .non, _ => rfl
  | .bl _, _ => rfl
  | .int _, _ => rfl
  | .str _, _ => rfl
  | .tup ds, e => ascs_pu ds e
  | .lst ds, e => ascs_pu ds e
  | .ref _, e => by simp [asc] at e
  | .oth _, e => by simp [asc] at e
  | .scr _, e => by simp [asc] at e
theorem ascs_pu {b : Nat} : ∀ ds : List D, ascs b ds = true → pus ds = true
  | [], _ => rfl
  | d :: ds, e => by
    simp only [ascs, Bool.and_eq_true] at e
    simp only [pus, asc_pu d e.1, ascs_pu ds e.2, Bool.and_self]
end
mutual
theorem asc_lay {b : Nat} : ∀ d : D, asc b d = true → d.py.canLay0 = true
  | .non, _ => by simp only [D.py, PyData.canLay0]
  | .bl _, _ => by simp only [D.py, PyData.canLay0]
  | .int _, _ => by simp only [D.py, PyData.canLay0]
  | .str z, e => by
    simp only [D.py, PyData.canLay0, PyData.strOk]
    simp only [asc, List.all_eq_true, decide_eq_true_eq] at e
    rw [Array.all_eq_true_iff_forall_mem]
    exact fun c hc => decide_eq_true (by have := e c (by simpa using hc); omega)
  | .tup ds, e => by simp only [D.py, PyData.canLay0]; exact ascs_lay ds e
  | .lst ds, e => by simp only [D.py, PyData.canLay0]; exact ascs_lay ds e
  | .ref _, e => by simp [asc] at e
  | .oth _, e => by simp [asc] at e
  | .scr _, e => by simp [asc] at e
theorem ascs_lay {b : Nat} : ∀ ds : List D, ascs b ds = true → PyData.canLayAll0 (pys ds) = true
  | [], _ => by simp only [pys, PyData.canLayAll0]
  | d :: ds, e => by
    simp only [ascs, Bool.and_eq_true] at e
    simp only [pys, PyData.canLayAll0, asc_lay d e.1, ascs_lay ds e.2, Bool.and_self]
end
mutual
theorem dp_py : ∀ d : D, d.py.depth = dp d
  | .non => by simp only [D.py, PyData.depth, dp]
  | .bl _ => by simp only [D.py, PyData.depth, dp]
  | .int _ => by simp only [D.py, PyData.depth, dp]
  | .str _ => by simp only [D.py, PyData.depth, dp]
  | .tup ds => by simp only [D.py, PyData.depth, dp, dps_py ds]
  | .lst ds => by simp only [D.py, PyData.depth, dp, dps_py ds]
  | .ref _ => by simp only [D.py, PyData.depth, dp]
  | .oth _ => by simp only [D.py, PyData.depth, dp]
  | .scr _ => by simp only [D.py, PyData.depth, dp]
theorem dps_py : ∀ ds : List D, PyData.depthAll (pys ds) = dps ds
  | [] => by simp only [pys, PyData.depthAll, dps]
  | d :: ds => by simp only [pys, PyData.depthAll, dps, dp_py d, dps_py ds]
end
theorem okT.okD {b n k : Nat} {d : D} (h : okT b n k d) (hn : n ≤ 100000) (hk : k ≤ 50) : K01.okD d := ⟨asc_pu d h.a, asc_lay d h.a, by rw [dp_py]; have := h.k; omega, by have := h.s; omega⟩
theorem okT.mem {b n k : Nat} {ds : List D} (h : okT b n (k + 1) (.tup ds)) {d : D} (hm : d ∈ ds) : okT b (sz d) k d :=
  ⟨ascs_iff.mp h.a d hm, Nat.le_refl _, by have := h.k; simp only [dp] at this; exact dps_le.mp (by omega) d hm⟩
/-- a row of such things -/
theorem okT_tup {b n k : Nat} {ds : List D} (h1 : ∀ d ∈ ds, asc b d = true) (h2 : szs ds + 1 ≤ n) (h3 : ∀ d ∈ ds, dp d ≤ k) : okT b n (k + 1) (.tup ds) := ⟨ascs_iff.mpr h1, h2, by simp only [dp]; have := dps_le.mpr h3; omega⟩
theorem okT_lst {b n k : Nat} {ds : List D} (h1 : ∀ d ∈ ds, asc b d = true) (h2 : szs ds + 1 ≤ n) (h3 : ∀ d ∈ ds, dp d ≤ k) : okT b n (k + 1) (.lst ds) := ⟨ascs_iff.mpr h1, h2, by simp only [dp]; have := dps_le.mpr h3; omega⟩
theorem at_mem {ds : List D} {i : Int} (h0 : 0 ≤ i) (h1 : i < (ds.length : Int)) : ∃ d, d ∈ ds ∧ atI ds i = some d := by
  obtain ⟨k, rfl⟩ : ∃ k : Nat, i = (k : Int) := ⟨i.toNat, by omega⟩
  have hk : k < ds.length := by omega
  exact ⟨ds[k], List.getElem_mem _, atI_nat (List.getElem?_eq_getElem hk)⟩
theorem cut_take (ds : List D) (j : Nat) : cutG ds none (some (j : Int)) = ds.take j := by
  unfold cutG
  rw [show HT.sIx ds.length 0 none = 0 from rfl, HT.sIx_nat, List.drop_zero, Nat.sub_zero]
  by_cases h : j ≤ ds.length
  · rw [Nat.min_eq_left h]
  · rw [Nat.min_eq_right (by omega), List.take_length, List.take_of_length_le (by omega)]
theorem cut_drop (ds : List D) (j : Nat) : cutG ds (some (j : Int)) none = ds.drop j := by
  unfold cutG
  rw [show HT.sIx ds.length ds.length none = ds.length from rfl, HT.sIx_nat]
  by_cases h : j ≤ ds.length
  · rw [Nat.min_eq_left h, List.take_of_length_le (by rw [List.length_drop]; omega)]
  · rw [Nat.min_eq_right (by omega), Nat.sub_self, List.take_zero, List.drop_of_length_le (by omega)]
theorem cut_mem (ds : List D) (lo hi : Option Int) : (∀ d ∈ cutG ds lo hi, d ∈ ds) ∧ szs (cutG ds lo hi) ≤ szs ds := by
  unfold cutG
  exact ⟨fun d hd => List.mem_of_mem_drop (List.mem_of_mem_take hd), Nat.le_trans (szs_take _ _) (szs_drop _ _)⟩
/-! ### odd things -/
def odds : List D := [.non, .bl true, .bl false, .int 0, .int (-1), .int 1, .str "", .str "a", .tup [], .lst [], .tup [.str "ann", .int 0], .tup [.tup [.str "ann", .int 0], .int 0], .str "Red", .int (10 ^ Int.toNat 60), .tup [.str "open", .str "text"]]
theorem odds_ok : ∀ d ∈ odds, okT huge 20 2 d := by
  have h : odds.all (okTb huge 20 2) = true := by decide +kernel
  exact fun d hd => okT_of (List.all_eq_true.mp h d hd)
def sp__law_odd : DSp := fun ds m Q => ∃ (f : Addr) (cs : List Int), ds = [.ref f] ∧ m f = some (.fd cs) ∧ cs.length ≤ 63 ∧ ∀ d : D, okT huge 20 2 d → Q d m
def spBent (K' : Nat) : DSp := fun ds m Q => ∃ (f : Addr) (cs : List Int) (d : D) (b n k : Nat), ds = [.ref f, d] ∧ m f = some (.fd cs) ∧ cs.length ≤ 63 ∧ okT b n k d ∧ huge ≤ b ∧ b ≤ huge + 1000 ∧ 1 ≤ n ∧ n ≤ 1000 ∧ k ≤ K' ∧ ∀ d' : D, okT (b + 1) (2 * n + 70) (k + 3) d' → Q d' m
def b__law_odd : DTS := (dSeq (dSet 1 (dLstM (dCons (dC .non) (dCons (dC (.bl true)) (dCons (dC (.bl false)) (dCons (dC (.int 0)) (dCons (dNeg (dC (.int 1))) (dCons (dC (.int 1)) (dCons (dC (.str "")) (dCons (dC (.str "a")) dNil))))))))))
      (dSeq (dDrop (dMt okM gExtend (dVar 1) (dCons (dLst (dCons (dTup dNil) (dCons (dLst dNil) (dCons (dTup (dCons (dC (.str "ann")) (dCons (dC (.int 0)) dNil))) (dCons (dTup (dCons (dTup (dCons (dC (.str "ann")) (dCons (dC (.int 0)) dNil))) (dCons (dC (.int 0)) dNil))) (dCons (dC (.str "Red")) (dCons (dOp (gI CPow fun i j => .int (i ^ j.toNat)) (dC (.int 10)) (dC (.int 60))) (dCons (dTup (dCons (dC (.str "open")) (dCons (dC (.str "text")) dNil))) dNil)))))))) dNil)))
      (dRetX (dOp gIx (dVar 1) (dCall sp__law_draw (dCons (dVar 0) (dCons (dC (.int 15)) dNil)))))))
def b__law_bent (sp__law_bent : DSp) : DTS := (dSeq (dIfS (dAndT (dB (dCB gIsi (dCons (dVar 1) (dCons (dC (.oth (.ty "tuple"))) dNil)))) (dAndT (dB (dOp gNe (dVar 1) (dTup dNil))) (dB (dOp (gI0 fun i j => .bl (decide (j < i))) (dCall sp__law_draw (dCons (dVar 0) (dCons (dC (.int 5)) dNil))) (dC (.int 0))))))
      (dSeq (dSet 2 (dCall sp__law_draw (dCons (dVar 0) (dCons (dCB gLen (dCons (dVar 1) dNil)) dNil))))
      (dRetX (dOp gAdd2 (dOp gAdd2 (dSl (dVar 1) dNoPart (dPart (dVar 2))) (dTup (dCons (dCall sp__law_bent (dCons (dVar 0) (dCons (dOp gIx (dVar 1) (dVar 2)) dNil))) dNil))) (dSl (dVar 1) (dPart (dOp gAdd2 (dVar 2) (dC (.int 1)))) dNoPart))))
      dNext)
      (dSeq (dSet 3 (dCall sp__law_draw (dCons (dVar 0) (dCons (dC (.int 9)) dNil))))
      (dSeq (dIfS (dAndT (dB (dCB gIsi (dCons (dVar 1) (dCons (dC (.oth (.ty "tuple"))) dNil)))) (dB (dOp gLt (dVar 3) (dC (.int 7)))))
      (dSeq (dSet 4 (dLstM (dCons (dCB (g1 gList1) (dCons (dVar 1) dNil)) (dCons (dSl (dVar 1) (dPart (dC (.int 1))) dNoPart) (dCons (dSl (dVar 1) dNoPart (dPart (dNeg (dC (.int 1))))) (dCons (dOp gAdd2 (dVar 1) (dSl (dVar 1) (dPart (dNeg (dC (.int 1)))) dNoPart)) dNil))))))
      (dSeq (dDrop (dMt okM gExtend (dVar 4) (dCons (dLst (dCons (dRev (dVar 1)) (dCons (dTup (dCons (dVar 1) dNil)) (dCons (dOp gAdd2 (dVar 1) (dTup (dCons (dC .non) dNil))) dNil)))) dNil)))
      (dRetX (dOp gIx (dVar 4) (dVar 3)))))
      dNext)
      (dSeq (dIfS (dAndT (dB (dCB gIsi (dCons (dVar 1) (dCons (dC (.oth (.ty "str"))) dNil)))) (dB (dOp gLt (dVar 3) (dC (.int 6)))))
      (dRetX (dOp gIx (dLst (dCons (dOp gAdd2 (dVar 1) (dC (.str "a"))) (dCons (dSl (dVar 1) dNoPart (dPart (dNeg (dC (.int 1))))) (dCons (dMt0 okS gUpper (dVar 1)) (dCons (dOp gAdd2 (dVar 1) (dC (.str " "))) (dCons (dLst (dCons (dVar 1) dNil)) (dCons (dOp gAdd2 (dVar 1) (dC (.str "abcdefgh"))) dNil))))))) (dVar 3)))
      dNext)
      (dSeq (dIfS (dAndT (dB (dCB gIsi (dCons (dVar 1) (dCons (dC (.oth (.ty "int"))) dNil)))) (dB (dOp gLt (dVar 3) (dC (.int 6)))))
      (dRetX (dOp gIx (dLst (dCons (dOp gAdd2 (dVar 1) (dC (.int 1))) (dCons (dOp gSub2 (dVar 1) (dC (.int 1))) (dCons (dOp gEq (dVar 1) (dC (.int 1))) (dCons (dCB (g1 gStr1) (dCons (dVar 1) dNil)) (dCons (dOp gSub2 (dNeg (dC (.int 1))) (dVar 1)) (dCons (dLst (dCons (dVar 1) dNil)) dNil))))))) (dVar 3)))
      dNext)
      (dRetX (dCall sp__law_odd (dCons (dVar 0) dNil))))))))
theorem ar__law_odd : ∀ ds m Q, sp__law_odd ds m Q → ds.length = 1 := fun ds m Q ⟨f, cs, e, _⟩ => by rw [e]; rfl
theorem ar_bent (K' : Nat) : ∀ ds m Q, spBent K' ds m Q → ds.length = 2 := fun ds m Q ⟨f, cs, d, b, n, k, e, _⟩ => by rw [e]; rfl
theorem ref_ne {m : Mu} {f p : Addr} {o : MO} (hf : m f = some o) (hp : m p = none) : f ≠ p := fun e => by rw [e, hp] at hf; cases hf
theorem rd__law_odd : ∀ ds m Q, sp__law_odd ds m Q → b__law_odd { nx := fun _ m' => Q .non m', rt := Q } (startD 2 ds) m := by
  rintro ds m Q ⟨f, cs, rfl, hf, hl, q⟩
  simp only [b__law_odd, dVar, dC, dOp, dB, dChain, dAndT, dOrT, dNotT, dAndV, dOrV, dNotV, dIf, dNeg, dNil, dCons, dTup, dLst, dLstM, dCB, g1, gIsi, gLen, gLen1, gRepr, gRepr1, gList1, gTuple1, gAll1, gOrd1, gStr1, gInt1, dMt, dMt0, gAppend, gExtend, gUpper, dNext, dSeq, dDrop, dRet, dRetF, dRetX, dRetN, dIfS, dSet, wSeq, wRng1, wRng2, gN, gP, dFor, dLc, dLcM, dYes, dPar, dAsg2, dCall, gI, gI0, gAdd2, gSub2, gAdd, gMul, gLt, gLe, gEq, gNe, gIsN, gNotN, gIn, gIx, gSl, dSl, dNoPart, dPart, dRev, gRev, gAddLM, gRepS, gLIndex, dKIndex, dFCells, dFInt, dFPut, dFeed, startD, wipeD, List.set_cons_zero, List.set_cons_succ, List.getElem?_cons_zero, List.getElem?_cons_succ, List.map_cons, List.map_nil, List.length_cons, List.length_nil, List.replicate, List.cons_append, List.nil_append]
  refine ⟨by decide, fun p hp => ?_⟩
  have hfp := ref_ne hf hp
  simp only [mlv, mset_same, lv]
  refine ⟨by simp [okM, mlv, mset_same], by decide, by decide, by decide, by decide, by decide, ⟨by decide, by decide, by decide⟩, by decide, by decide, by decide, f, cs, 15, rfl, ?_, hl, by decide, by decide, fun i h0 h1 => ?_⟩
  · rw [mset_ne hfp, mset_ne hfp]; exact hf
  · simp only [sq, lv, mset_same]
    obtain ⟨d, hd, e⟩ := at_mem (ds := odds) h0 h1
    simp only [odds, List.cons_append, List.nil_append] at e ⊢
    rw [e]
    exact ⟨m, (by rw [mset_mset]; exact Less.mset hp), q d (odds_ok d hd)⟩
end K01

set_option Elab.async false
set_option linter.all false
set_option maxRecDepth 100000
set_option maxHeartbeats 4000000
namespace K01
open PySem PySem.Spec PyProof.Rows L2 DL
def p1 (sp__law_bent : DSp) : DTS := (dIfS (dAndT (dB (dCB gIsi (dCons (dVar 1) (dCons (dC (.oth (.ty "tuple"))) dNil)))) (dAndT (dB (dOp gNe (dVar 1) (dTup dNil))) (dB (dOp (gI0 fun i j => .bl (decide (j < i))) (dCall sp__law_draw (dCons (dVar 0) (dCons (dC (.int 5)) dNil))) (dC (.int 0)))))) (dSeq (dSet 2 (dCall sp__law_draw (dCons (dVar 0) (dCons (dCB gLen (dCons (dVar 1) dNil)) dNil)))) (dRetX (dOp gAdd2 (dOp gAdd2 (dSl (dVar 1) dNoPart (dPart (dVar 2))) (dTup (dCons (dCall sp__law_bent (dCons (dVar 0) (dCons (dOp gIx (dVar 1) (dVar 2)) dNil))) dNil))) (dSl (dVar 1) (dPart (dOp gAdd2 (dVar 2) (dC (.int 1)))) dNoPart)))) dNext)
def p2 : DTS := (dSet 3 (dCall sp__law_draw (dCons (dVar 0) (dCons (dC (.int 9)) dNil))))
def p3 : DTS := (dIfS (dAndT (dB (dCB gIsi (dCons (dVar 1) (dCons (dC (.oth (.ty "tuple"))) dNil)))) (dB (dOp gLt (dVar 3) (dC (.int 7))))) (dSeq (dSet 4 (dLstM (dCons (dCB (g1 gList1) (dCons (dVar 1) dNil)) (dCons (dSl (dVar 1) (dPart (dC (.int 1))) dNoPart) (dCons (dSl (dVar 1) dNoPart (dPart (dNeg (dC (.int 1))))) (dCons (dOp gAdd2 (dVar 1) (dSl (dVar 1) (dPart (dNeg (dC (.int 1)))) dNoPart)) dNil)))))) (dSeq (dDrop (dMt okM gExtend (dVar 4) (dCons (dLst (dCons (dRev (dVar 1)) (dCons (dTup (dCons (dVar 1) dNil)) (dCons (dOp gAdd2 (dVar 1) (dTup (dCons (dC .non) dNil))) dNil)))) dNil))) (dRetX (dOp gIx (dVar 4) (dVar 3))))) dNext)
def p4 : DTS := (dIfS (dAndT (dB (dCB gIsi (dCons (dVar 1) (dCons (dC (.oth (.ty "str"))) dNil)))) (dB (dOp gLt (dVar 3) (dC (.int 6))))) (dRetX (dOp gIx (dLst (dCons (dOp gAdd2 (dVar 1) (dC (.str "a"))) (dCons (dSl (dVar 1) dNoPart (dPart (dNeg (dC (.int 1))))) (dCons (dMt0 okS gUpper (dVar 1)) (dCons (dOp gAdd2 (dVar 1) (dC (.str " "))) (dCons (dLst (dCons (dVar 1) dNil)) (dCons (dOp gAdd2 (dVar 1) (dC (.str "abcdefgh"))) dNil))))))) (dVar 3))) dNext)
def p5 : DTS := (dIfS (dAndT (dB (dCB gIsi (dCons (dVar 1) (dCons (dC (.oth (.ty "int"))) dNil)))) (dB (dOp gLt (dVar 3) (dC (.int 6))))) (dRetX (dOp gIx (dLst (dCons (dOp gAdd2 (dVar 1) (dC (.int 1))) (dCons (dOp gSub2 (dVar 1) (dC (.int 1))) (dCons (dOp gEq (dVar 1) (dC (.int 1))) (dCons (dCB (g1 gStr1) (dCons (dVar 1) dNil)) (dCons (dOp gSub2 (dNeg (dC (.int 1))) (dVar 1)) (dCons (dLst (dCons (dVar 1) dNil)) dNil))))))) (dVar 3))) dNext)
def p6 : DTS := (dRetX (dCall sp__law_odd (dCons (dVar 0) dNil)))
theorem bent_eq (sp : DSp) : b__law_bent sp = dSeq (p1 sp) (dSeq p2 (dSeq p3 (dSeq p4 (dSeq p5 p6)))) := rfl
theorem fit_tnil : fitD (.tup []) := (odds_ok (.tup []) (by simp [odds])).okD (by decide) (by decide) |>.fit
theorem eqv_tnil : PyData.eqv (D.tup []).py (D.tup []).py = true := by decide +kernel
theorem isB_tup (m : Mu) (ds : List D) (n : String) : isiB (kindD m (D.tup ds)) n = isiB "tuple" n := rfl
theorem cut_len (ds : List D) (lo hi : Option Int) : (cutG ds lo hi).length ≤ ds.length := by
  unfold cutG
  rw [List.length_take, List.length_drop]
  omega
theorem take_drop_szs {ds : List D} {i : Nat} {d : D} (h : ds[i]? = some d) : szs (ds.take i) + sz d + szs (ds.drop (i + 1)) = szs ds := by
  have e : ds = ds.take i ++ d :: ds.drop (i + 1) := by
    obtain ⟨hi, rfl⟩ := List.getElem?_eq_some_iff.mp h
    rw [List.getElem_cons_drop, List.take_append_drop]
  have := congrArg szs e
  rw [szs_app] at this
  simp only [szs] at this
  omega
theorem t1 {sp : DSp} {f : Addr} {cs : List Int} {d : D} {b n k : Nat} {m : Mu} {DD : DEnds} {x y z : Option D} (hf : m f = some (.fd cs)) (hl : cs.length ≤ 63) (ok : okT b n k d) (hn : n ≤ 1000) (hk : k ≤ 40)
    (hs : ∀ k', k = k' + 1 → ∀ d1 Q, okT b (sz d1) k' d1 → sz d1 ≤ n → (∀ d', okT (b + 1) (2 * sz d1 + 70) (k' + 3) d' → Q d' m) → sp [.ref f, d1] m Q)
    (r : ∀ d', okT (b + 1) (2 * n + 70) (k + 3) d' → DD.rt d' m) (nx : DD.nx [some (.ref f), some d, x, y, z] m) : p1 sp DD [some (.ref f), some d, x, y, z] m := by
  cases d with
  | tup ds =>
    have od := ok.okD (by omega) (by omega)
    simp only [p1, dVar, dC, dOp, dB, dChain, dAndT, dOrT, dNotT, dAndV, dOrV, dNotV, dIf, dNeg, dNil, dCons, dTup, dLst, dLstM, dCB, g1, gIsi, gLen, gLen1, gRepr, gRepr1, gList1, gTuple1, gAll1, gOrd1, gStr1, gInt1, dMt, dMt0, gAppend, gExtend, gUpper, dNext, dSeq, dDrop, dRet, dRetF, dRetX, dRetN, dIfS, dSet, wSeq, wRng1, wRng2, gN, gP, dFor, dLc, dLcM, dYes, dPar, dAsg2, dCall, gI, gI0, gAdd2, gSub2, gAdd, gMul, gLt, gLe, gEq, gNe, gIsN, gNotN, gIn, gIx, gSl, dSl, dNoPart, dPart, dRev, gRev, gAddLM, gRepS, gLIndex, dKIndex, dFCells, dFInt, dFPut, dFeed, startD, wipeD, List.set_cons_zero, List.set_cons_succ, List.getElem?_cons_zero, List.getElem?_cons_succ, List.map_cons, List.map_nil, List.length_cons, List.length_nil, List.replicate, List.cons_append, List.nil_append]
    refine ⟨od.isi m (by decide), ?_⟩
    rw [isB_tup, show isiB "tuple" "tuple" = true from by decide]
    refine ⟨by decide, od.fit, fit_tnil, ?_⟩
    cases he : PyData.eqv (D.tup ds).py (D.tup []).py with
    | true => exact nx
    | false =>
      have hds : 0 < ds.length := by
        cases ds with
        | nil => rw [eqv_tnil] at he; cases he
        | cons => exact Nat.succ_pos _
      refine ⟨f, cs, 5, rfl, hf, hl, by decide, by decide, fun j _ _ => ?_⟩
      cases hj : decide ((0 : Int) < j) with
      | false => simp only [hj]; exact nx
      | true =>
        have hlen : ds.length ≤ 1000 := by have h1 := ok.s; have h2 := len_szs ds; simp only [sz] at h1; omega
        simp only [hj, sq]
        refine ⟨f, cs, _, rfl, hf, hl, by omega, by omega, fun i h0 h1 => ?_⟩
        obtain ⟨i, rfl⟩ : ∃ k : Nat, i = (k : Int) := ⟨i.toNat, by omega⟩
        obtain ⟨d1, e1⟩ : ∃ d1, ds[i]? = some d1 := ⟨ds[i], List.getElem?_eq_getElem (by omega)⟩
        have hm := List.mem_of_getElem? e1
        simp only [sq, atI_nat e1]
        obtain ⟨k', rfl⟩ : ∃ k', k = k' + 1 := ⟨k - 1, by have := ok.k; simp only [dp] at this; omega⟩
        refine hs k' rfl d1 _ (ok.mem hm) (by have h1 := ok.s; have h2 := sz_mem hm; simp only [sz] at h1; omega) fun d' ok' => ?_
        have ll := cut_len ds none (some (i : Int))
        have l2 := cut_len ds (some ((i : Int) + 1)) none
        refine ⟨by decide, by rw [sizeLine_eq]; omega, ?_⟩
        refine ⟨by rw [List.length_append, sizeLine_eq]; simp only [List.length_cons, List.length_nil]; omega, m, Less.refl m, r _ (okT_tup ?_ ?_ ?_)⟩
        · intro d hd
          rcases List.mem_append.mp hd with hd | hd
          · rcases List.mem_append.mp hd with hd | hd
            · exact asc_mono (Nat.le_succ b) d (ascs_iff.mp ok.a d ((cut_mem ds _ _).1 d hd))
            · rw [List.mem_singleton.mp hd]; exact ok'.a
          · exact asc_mono (Nat.le_succ b) d (ascs_iff.mp ok.a d ((cut_mem ds _ _).1 d hd))
        · have a1 := ok.s
          have a2 := ok'.s
          have a3 := take_drop_szs e1
          have a4 := sz_mem hm
          have e2 := cut_take ds i
          have e3 := cut_drop ds (i + 1)
          simp only [sz] at a1
          rw [szs_app, szs_app, e2, show ((i : Int) + 1) = ((i + 1 : Nat) : Int) from rfl, e3]
          simp only [szs]
          omega
        · have kk := dps_le.mp (Nat.le_of_succ_le_succ ok.k)
          intro d hd
          rcases List.mem_append.mp hd with hd | hd
          · rcases List.mem_append.mp hd with hd | hd
            · have := kk d ((cut_mem ds _ _).1 d hd); omega
            · rw [List.mem_singleton.mp hd]; exact ok'.k
          · have := kk d ((cut_mem ds _ _).1 d hd); omega
  | ref a => exact absurd ok.a (by simp [asc])
  | oth a => exact absurd ok.a (by simp [asc])
  | scr a => exact absurd ok.a (by simp [asc])
  | non => exact ⟨rfl, nx⟩
  | bl _ => exact ⟨rfl, nx⟩
  | int _ => exact ⟨rfl, nx⟩
  | str _ => exact ⟨rfl, nx⟩
  | lst _ => exact ⟨rfl, nx⟩
theorem asc_str {b : Nat} {z : Str} : asc b (.str z) = true ↔ W.KSb.Asc z := by
  simp only [asc, List.all_eq_true, decide_eq_true_eq]; rfl
theorem t3 {f : Addr} {d : D} {b n k : Nat} {m : Mu} {DD : DEnds} {x y : Option D} {i : Int} (h0 : 0 ≤ i) (ok : okT b n k d) (hb : huge ≤ b) (h1 : 1 ≤ n) (hn : n ≤ 1000) (hk : k ≤ 40)
    (r : ∀ d', okT (b + 1) (2 * n + 70) (k + 3) d' → DD.rt d' m) (nx : DD.nx [some (.ref f), some d, x, some (.int i), y] m) : p3 DD [some (.ref f), some d, x, some (.int i), y] m := by
  cases d with
  | tup ds =>
    have od := ok.okD (by omega) (by omega)
    simp only [p3, dVar, dC, dOp, dB, dChain, dAndT, dOrT, dNotT, dAndV, dOrV, dNotV, dIf, dNeg, dNil, dCons, dTup, dLst, dLstM, dCB, g1, gIsi, gLen, gLen1, gRepr, gRepr1, gList1, gTuple1, gAll1, gOrd1, gStr1, gInt1, dMt, dMt0, gAppend, gExtend, gUpper, dNext, dSeq, dDrop, dRet, dRetF, dRetX, dRetN, dIfS, dSet, wSeq, wRng1, wRng2, gN, gP, dFor, dLc, dLcM, dYes, dPar, dAsg2, dCall, gI, gI0, gAdd2, gSub2, gAdd, gMul, gLt, gLe, gEq, gNe, gIsN, gNotN, gIn, gIx, gSl, dSl, dNoPart, dPart, dRev, gRev, gAddLM, gRepS, gLIndex, dKIndex, dFCells, dFInt, dFPut, dFeed, startD, wipeD, List.set_cons_zero, List.set_cons_succ, List.getElem?_cons_zero, List.getElem?_cons_succ, List.map_cons, List.map_nil, List.length_cons, List.length_nil, List.replicate, List.cons_append, List.nil_append]
    refine ⟨od.isi m (by decide), ?_⟩
    rw [isB_tup, show isiB "tuple" "tuple" = true from by decide]
    cases hi : decide (i < 7) with
    | false => simp only [hi]; exact nx
    | true =>
      simp only [hi]
      have a1 := ok.s
      have a2 := len_szs ds
      have kk := ok.k
      simp only [sz] at a1
      simp only [dp] at kk
      have kd := dps_le.mp (Nat.le_refl (dps ds))
      have as := ascs_iff.mp ok.a
      have asb : ∀ d ∈ ds, asc (b + 1) d = true := fun d hd => asc_mono (Nat.le_succ b) d (as d hd)
      have ll := cut_len ds (some (-1)) none
      have cut : ∀ lo hi, okT (b + 1) (2 * n + 70) (k + 3) (.tup (cutG ds lo hi)) := fun lo hi =>
        okT_tup (fun d hd => asb d ((cut_mem ds lo hi).1 d hd)) (by have := (cut_mem ds lo hi).2; omega) (fun d hd => by have := kd d ((cut_mem ds lo hi).1 d hd); omega)
      have all : ∀ d ∈ [D.lst ds, D.tup (cutG ds (some 1) none), D.tup (cutG ds none (some (-1))), D.tup (ds ++ cutG ds (some (-1)) none), D.tup ds.reverse, D.tup [D.tup ds], D.tup (ds ++ [D.non])], okT (b + 1) (2 * n + 70) (k + 3) d := by
        simp only [List.forall_mem_cons]
        refine ⟨okT_lst asb (by omega) (fun d hd => by have := kd d hd; omega), cut _ _, cut _ _, okT_tup (fun d hd => ?_) ?_ (fun d hd => ?_), okT_tup (fun d hd => asb d (List.mem_reverse.mp hd)) (by rw [szs_rev]; omega) (fun d hd => by have := kd d (List.mem_reverse.mp hd); omega), okT_tup (fun d hd => ?_) ?_ (fun d hd => ?_), okT_tup (fun d hd => ?_) ?_ (fun d hd => ?_), fun d hd => by cases hd⟩
        · rcases List.mem_append.mp hd with hd | hd
          · exact asb d hd
          · exact asb d ((cut_mem ds _ _).1 d hd)
        · rw [szs_app]; have := (cut_mem ds (some (-1)) none).2; omega
        · rcases List.mem_append.mp hd with hd | hd
          · have := kd d hd; omega
          · have := kd d ((cut_mem ds _ _).1 d hd); omega
        · rw [List.mem_singleton.mp hd]; exact asc_mono (Nat.le_succ b) _ ok.a
        · simp only [szs, sz]; omega
        · rw [List.mem_singleton.mp hd]; simp only [dp]; omega
        · rcases List.mem_append.mp hd with hd | hd
          · exact asb d hd
          · rw [List.mem_singleton.mp hd]; rfl
        · rw [szs_app]; simp only [szs, sz]; omega
        · rcases List.mem_append.mp hd with hd | hd
          · have := kd d hd; omega
          · rw [List.mem_singleton.mp hd]; simp only [dp]; omega
      have hi := of_decide_eq_true hi
      simp only [sq]
      refine ⟨by rw [sizeLine_eq]; omega, by decide, fun p hp => ⟨by simp [okM, mlv, mset_same], by rw [sizeLine_eq]; omega, by decide, by decide, by rw [sizeLine_eq]; omega, by decide, ?_⟩⟩
      simp only [mlv, mset_same, lv, sq]
      refine ⟨by rw [sizeLine_eq]; simp only [List.length_cons, List.length_nil]; omega, ?_⟩
      obtain ⟨d', hd, e⟩ := at_mem (ds := [D.lst ds, D.tup (cutG ds (some 1) none), D.tup (cutG ds none (some (-1))), D.tup (ds ++ cutG ds (some (-1)) none), D.tup ds.reverse, D.tup [D.tup ds], D.tup (ds ++ [D.non])]) h0 hi
      simp only [List.cons_append, List.nil_append]
      rw [e]
      exact ⟨m, (by rw [mset_mset]; exact Less.mset hp), r d' (all d' hd)⟩
  | ref a => exact absurd ok.a (by simp [asc])
  | oth a => exact absurd ok.a (by simp [asc])
  | scr a => exact absurd ok.a (by simp [asc])
  | non => exact ⟨rfl, nx⟩
  | bl _ => exact ⟨rfl, nx⟩
  | int _ => exact ⟨rfl, nx⟩
  | str _ => exact ⟨rfl, nx⟩
  | lst _ => exact ⟨rfl, nx⟩
theorem up_list : ∀ l : List Nat, (∀ c ∈ l, c < 128) → (Txt.upper ⟨l.toArray⟩).length = l.length ∧ W.KSb.Asc (Txt.upper ⟨l.toArray⟩)
  | [], _ => ⟨by decide, W.KSb.asc_of (by decide)⟩
  | c :: l, h => by
    obtain ⟨e1, e2⟩ := up_list l fun c hc => h c (List.mem_cons_of_mem _ hc)
    have hc := h c List.mem_cons_self
    have e : (⟨(c :: l).toArray⟩ : Str) = ⟨#[c]⟩ ++ ⟨l.toArray⟩ := PySem.Str.ext' (by rw [PySem.Str.cps_append]; simp)
    rw [e, W.KOpn.upper_app, W.KOpn.upper_one hc]
    refine ⟨by rw [PySem.Str.length_append, e1, List.length_cons]; show 1 + _ = _; omega, W.KSb.asc_app (fun x hx => ?_) e2⟩
    have hx : x = if 97 ≤ c ∧ c ≤ 122 then c - 32 else c := List.mem_singleton.mp hx
    rw [hx]
    split <;> omega
theorem upper_asc {z : Str} (h : W.KSb.Asc z) : W.KSb.Asc (Txt.upper z) ∧ (Txt.upper z).length = z.length := by
  have := up_list z.cps.toList h
  exact ⟨this.2, this.1⟩
theorem cut_asc {z : Str} (h : W.KSb.Asc z) (lo hi : Option Int) : W.KSb.Asc (cutS z lo hi) := fun c hc => by
  unfold cutS at hc
  exact h c (List.mem_of_mem_drop (List.mem_of_mem_take hc))
theorem huge_bits : huge + 1001 < 2 ^ 200 := by decide +kernel
theorem huge_digits : huge + 1001 < 10 ^ 61 := by decide +kernel
theorem log_small {i : Int} (h : i.natAbs ≤ huge + 1001) : i.natAbs.log2 < 1920 := by
  by_cases h0 : i.natAbs = 0
  · rw [h0]; decide
  · exact Nat.lt_trans ((Nat.log2_lt h0).mpr (Nat.lt_of_le_of_lt h huge_bits)) (by decide)
theorem text_small {i : Int} (h : i.natAbs ≤ huge + 1001) : (Str.ofString (toString i)).length ≤ 62 := by
  rw [PySem.ofString_length]
  exact PySem.int_text_length_le10 (k := 61) (by decide) (Nat.lt_of_le_of_lt h huge_digits)
theorem ok_int {b n k : Nat} {i : Int} (h : i.natAbs ≤ b + 1) : okT (b + 1) (2 * n + 70) (k + 3) (.int i) := ⟨by simp only [asc, decide_eq_true_eq]; exact h, by simp only [sz]; omega, Nat.zero_le _⟩
theorem t4 {f : Addr} {d : D} {b n k : Nat} {m : Mu} {DD : DEnds} {x y : Option D} {i : Int} (h0 : 0 ≤ i) (ok : okT b n k d) (hb : huge ≤ b) (h1 : 1 ≤ n) (hn : n ≤ 1000) (hk : k ≤ 40)
    (r : ∀ d', okT (b + 1) (2 * n + 70) (k + 3) d' → DD.rt d' m) (nx : DD.nx [some (.ref f), some d, x, some (.int i), y] m) : p4 DD [some (.ref f), some d, x, some (.int i), y] m := by
  cases d with
  | str z =>
    have od := ok.okD (by omega) (by omega)
    simp only [p4, dVar, dC, dOp, dB, dChain, dAndT, dOrT, dNotT, dAndV, dOrV, dNotV, dIf, dNeg, dNil, dCons, dTup, dLst, dLstM, dCB, g1, gIsi, gLen, gLen1, gRepr, gRepr1, gList1, gTuple1, gAll1, gOrd1, gStr1, gInt1, dMt, dMt0, gAppend, gExtend, gUpper, dNext, dSeq, dDrop, dRet, dRetF, dRetX, dRetN, dIfS, dSet, wSeq, wRng1, wRng2, gN, gP, dFor, dLc, dLcM, dYes, dPar, dAsg2, dCall, gI, gI0, gAdd2, gSub2, gAdd, gMul, gLt, gLe, gEq, gNe, gIsN, gNotN, gIn, gIx, gSl, dSl, dNoPart, dPart, dRev, gRev, gAddLM, gRepS, gLIndex, dKIndex, dFCells, dFInt, dFPut, dFeed, startD, wipeD, List.set_cons_zero, List.set_cons_succ, List.getElem?_cons_zero, List.getElem?_cons_succ, List.map_cons, List.map_nil, List.length_cons, List.length_nil, List.replicate, List.cons_append, List.nil_append]
    refine ⟨od.isi m (by decide), ?_⟩
    rw [show isiB (kindD m (D.str z)) "str" = true from by first | (show isiB "str" "str" = true; decide) | (show isiB "int" "int" = true; decide) | (show isiB "bool" "int" = true; decide)]
    cases hi : decide (i < 6) with
    | false => simp only [hi]; exact nx
    | true =>
      simp only [hi]
      have hi := of_decide_eq_true hi
      have az := asc_str.mp ok.a
      have a1 := ok.s
      simp only [sz] at a1
      have lit : ∀ y : Str, W.KSb.Asc y → y.length ≤ 8 → okT (b + 1) (2 * n + 70) (k + 3) (.str (z ++ y)) := fun y hy hl =>
        ⟨asc_str.mpr (W.KSb.asc_app az hy), by simp only [sz, PySem.Str.length_append]; omega, Nat.zero_le _⟩
      have l1 : (Str.ofString "a").length = 1 := rfl
      have l2 : (Str.ofString " ").length = 1 := rfl
      have l3 : (Str.ofString "abcdefgh").length = 8 := rfl
      have hu := upper_asc az
      have all : ∀ d ∈ [D.str (z ++ Str.ofString "a"), D.str (cutS z none (some (-1))), D.str (Txt.upper z), D.str (z ++ Str.ofString " "), D.lst [D.str z], D.str (z ++ Str.ofString "abcdefgh")], okT (b + 1) (2 * n + 70) (k + 3) d := by
        simp only [List.forall_mem_cons]
        refine ⟨lit _ (W.KSb.asc_of (by decide)) (by omega), ⟨asc_str.mpr (cut_asc az _ _), by simp only [sz]; have := cutS_length z none (some (-1)); omega, Nat.zero_le _⟩, ⟨asc_str.mpr hu.1, by simp only [sz]; omega, Nat.zero_le _⟩, lit _ (W.KSb.asc_of (by decide)) (by omega), okT_lst (fun d hd => ?_) (by simp only [szs, sz]; omega) (fun d hd => ?_), lit _ (W.KSb.asc_of (by decide)) (by omega), fun d hd => by cases hd⟩
        · rw [List.mem_singleton.mp hd]; exact asc_str.mpr az
        · rw [List.mem_singleton.mp hd]; exact Nat.zero_le _
      refine ⟨by rw [sizeLine_eq]; omega, by rw [sizeLine_eq]; omega, ⟨z, rfl⟩, by omega, trivial, by rw [sizeLine_eq]; omega, by decide, by rw [sizeLine_eq]; omega, by decide, ?_⟩
      obtain ⟨d', hd, e⟩ := at_mem (ds := [D.str (z ++ Str.ofString "a"), D.str (cutS z none (some (-1))), D.str (Txt.upper z), D.str (z ++ Str.ofString " "), D.lst [D.str z], D.str (z ++ Str.ofString "abcdefgh")]) h0 hi
      simp only [sq, lv]
      rw [e]
      exact ⟨m, Less.refl m, r d' (all d' hd)⟩
  | ref a => exact absurd ok.a (by simp [asc])
  | oth a => exact absurd ok.a (by simp [asc])
  | scr a => exact absurd ok.a (by simp [asc])
  | non => exact ⟨rfl, nx⟩
  | bl _ => exact ⟨rfl, nx⟩
  | int _ => exact ⟨rfl, nx⟩
  | tup _ => exact ⟨rfl, nx⟩
  | lst _ => exact ⟨rfl, nx⟩
theorem t5 {f : Addr} {d : D} {b n k : Nat} {m : Mu} {DD : DEnds} {x y : Option D} {i : Int} (h0 : 0 ≤ i) (ok : okT b n k d) (hb : huge ≤ b) (hb2 : b ≤ huge + 1000) (h1 : 1 ≤ n) (hn : n ≤ 1000) (hk : k ≤ 40)
    (r : ∀ d', okT (b + 1) (2 * n + 70) (k + 3) d' → DD.rt d' m) (nx : DD.nx [some (.ref f), some d, x, some (.int i), y] m) : p5 DD [some (.ref f), some d, x, some (.int i), y] m := by
  cases d with
  | int z =>
    have od := ok.okD (by omega) (by omega)
    simp only [p5, dVar, dC, dOp, dB, dChain, dAndT, dOrT, dNotT, dAndV, dOrV, dNotV, dIf, dNeg, dNil, dCons, dTup, dLst, dLstM, dCB, g1, gIsi, gLen, gLen1, gRepr, gRepr1, gList1, gTuple1, gAll1, gOrd1, gStr1, gInt1, dMt, dMt0, gAppend, gExtend, gUpper, dNext, dSeq, dDrop, dRet, dRetF, dRetX, dRetN, dIfS, dSet, wSeq, wRng1, wRng2, gN, gP, dFor, dLc, dLcM, dYes, dPar, dAsg2, dCall, gI, gI0, gAdd2, gSub2, gAdd, gMul, gLt, gLe, gEq, gNe, gIsN, gNotN, gIn, gIx, gSl, dSl, dNoPart, dPart, dRev, gRev, gAddLM, gRepS, gLIndex, dKIndex, dFCells, dFInt, dFPut, dFeed, startD, wipeD, List.set_cons_zero, List.set_cons_succ, List.getElem?_cons_zero, List.getElem?_cons_succ, List.map_cons, List.map_nil, List.length_cons, List.length_nil, List.replicate, List.cons_append, List.nil_append]
    refine ⟨od.isi m (by decide), ?_⟩
    rw [show isiB (kindD m (D.int z)) "int" = true from by first | (show isiB "str" "str" = true; decide) | (show isiB "int" "int" = true; decide) | (show isiB "bool" "int" = true; decide)]
    cases hi : decide (i < 6) with
    | false => simp only [hi]; exact nx
    | true =>
      simp only [hi]
      have hi := of_decide_eq_true hi
      have az := ok.a
      simp only [asc, decide_eq_true_eq] at az
      have lg := log_small (i := z) (by omega)
      have all : ∀ d ∈ [D.int (z + 1), D.int (z - 1), D.bl (decide (z = 1)), D.str (Str.ofString (toString z)), D.int (-1 - z), D.lst [D.int z]], okT (b + 1) (2 * n + 70) (k + 3) d := by
        simp only [List.forall_mem_cons]
        refine ⟨ok_int (by omega), ok_int (by omega), ⟨rfl, by simp only [sz]; omega, Nat.zero_le _⟩, ⟨asc_str.mpr (W.KSb.asc_num z), by simp only [sz]; have := text_small (i := z) (by omega); omega, Nat.zero_le _⟩, ok_int (by omega), okT_lst (fun d hd => ?_) (by simp only [szs, sz]; omega) (fun d hd => ?_), fun d hd => by cases hd⟩
        · rw [List.mem_singleton.mp hd]; simp only [asc, decide_eq_true_eq]; omega
        · rw [List.mem_singleton.mp hd]; exact Nat.zero_le _
      refine ⟨lg, by decide, by decide, ?_⟩
      obtain ⟨d', hd, e⟩ := at_mem (ds := [D.int (z + 1), D.int (z - 1), D.bl (decide (z = 1)), D.str (Str.ofString (toString z)), D.int (-1 - z), D.lst [D.int z]]) h0 hi
      simp only [sq, lv]
      rw [e]
      exact ⟨m, Less.refl m, r d' (all d' hd)⟩
  | bl z =>
    have od := ok.okD (by omega) (by omega)
    simp only [p5, dVar, dC, dOp, dB, dChain, dAndT, dOrT, dNotT, dAndV, dOrV, dNotV, dIf, dNeg, dNil, dCons, dTup, dLst, dLstM, dCB, g1, gIsi, gLen, gLen1, gRepr, gRepr1, gList1, gTuple1, gAll1, gOrd1, gStr1, gInt1, dMt, dMt0, gAppend, gExtend, gUpper, dNext, dSeq, dDrop, dRet, dRetF, dRetX, dRetN, dIfS, dSet, wSeq, wRng1, wRng2, gN, gP, dFor, dLc, dLcM, dYes, dPar, dAsg2, dCall, gI, gI0, gAdd2, gSub2, gAdd, gMul, gLt, gLe, gEq, gNe, gIsN, gNotN, gIn, gIx, gSl, dSl, dNoPart, dPart, dRev, gRev, gAddLM, gRepS, gLIndex, dKIndex, dFCells, dFInt, dFPut, dFeed, startD, wipeD, List.set_cons_zero, List.set_cons_succ, List.getElem?_cons_zero, List.getElem?_cons_succ, List.map_cons, List.map_nil, List.length_cons, List.length_nil, List.replicate, List.cons_append, List.nil_append]
    refine ⟨od.isi m (by decide), ?_⟩
    rw [show isiB (kindD m (D.bl z)) "int" = true from by first | (show isiB "str" "str" = true; decide) | (show isiB "int" "int" = true; decide) | (show isiB "bool" "int" = true; decide)]
    cases hi : decide (i < 6) with
    | false => simp only [hi]; exact nx
    | true =>
      simp only [hi]
      have hi := of_decide_eq_true hi
      have hz : (if z = true then (1 : Int) else 0).natAbs ≤ 1 := by cases z <;> decide
      have hu : 1 ≤ huge := by decide +kernel
      generalize e0 : PyData.eqv (D.bl z).py (D.int 1).py = w
      have all : ∀ d ∈ [D.int ((if z = true then 1 else 0) + 1), D.int ((if z = true then 1 else 0) - 1), D.bl w, D.str (if z = true then Str.ofString "True" else Str.ofString "False"), D.int (-1 - if z = true then 1 else 0), D.lst [D.bl z]], okT (b + 1) (2 * n + 70) (k + 3) d := by
        simp only [List.forall_mem_cons]
        refine ⟨ok_int (by omega), ok_int (by omega), ⟨rfl, by simp only [sz]; omega, Nat.zero_le _⟩, ⟨asc_str.mpr (by cases z <;> exact W.KSb.asc_of (by decide)), ?_, Nat.zero_le _⟩, ok_int (by omega), okT_lst (fun d hd => ?_) (by simp only [szs, sz]; omega) (fun d hd => ?_), fun d hd => by cases hd⟩
        · have l1 : (Str.ofString "True").length = 4 := rfl
          have l2 : (Str.ofString "False").length = 5 := rfl
          cases z <;> simp only [sz] <;> simp <;> omega
        · rw [List.mem_singleton.mp hd]; rfl
        · rw [List.mem_singleton.mp hd]; exact Nat.zero_le _
      unfold gEqG
      rw [e0]
      refine ⟨od.fit, ((odds_ok (.int 1) (by simp [odds])).okD (by decide) (by decide)).fit, by decide, by decide, ?_⟩
      obtain ⟨d', hd, e⟩ := at_mem (ds := [D.int ((if z = true then 1 else 0) + 1), D.int ((if z = true then 1 else 0) - 1), D.bl w, D.str (if z = true then Str.ofString "True" else Str.ofString "False"), D.int (-1 - if z = true then 1 else 0), D.lst [D.bl z]]) h0 hi
      simp only [sq, lv]
      rw [e]
      exact ⟨m, Less.refl m, r d' (all d' hd)⟩
  | ref a => exact absurd ok.a (by simp [asc])
  | oth a => exact absurd ok.a (by simp [asc])
  | scr a => exact absurd ok.a (by simp [asc])
  | non => exact ⟨rfl, nx⟩
  | str _ => exact ⟨rfl, nx⟩
  | tup _ => exact ⟨rfl, nx⟩
  | lst _ => exact ⟨rfl, nx⟩
theorem rd_bentG (sp : DSp) (K : Nat) (hK : K ≤ 40) (hs : ∀ K', K = K' + 1 → ∀ ds m Q, spBent K' ds m Q → sp ds m Q) : ∀ ds m Q, spBent K ds m Q → b__law_bent sp { nx := fun _ m' => Q .non m', rt := Q } (startD 5 ds) m := by
  rintro ds m Q ⟨f, cs, d, b, n, k, rfl, hf, hl, ok, hb, hb2, h1, hn, hk, q⟩
  rw [bent_eq]
  have h5 : startD 5 [D.ref f, d] = [some (.ref f), some d, none, none, none] := rfl
  rw [h5]
  refine t1 hf hl ok hn (by omega) (fun k' ek d1 Q' ok1 hsz q1 => ?_) q ?_
  · subst ek
    obtain ⟨K', rfl⟩ : ∃ K', K = K' + 1 := ⟨K - 1, by omega⟩
    exact hs K' rfl _ _ _ ⟨f, cs, d1, b, sz d1, k', rfl, hf, hl, ok1, hb, hb2, sz_pos d1, by omega, by omega, q1⟩
  · refine ⟨f, cs, 9, rfl, hf, hl, by decide, by decide, fun i h0 h9 => ?_⟩
    refine t3 (i := i) h0 ok hb h1 hn (by omega) q ?_
    refine t4 h0 ok hb h1 hn (by omega) q ?_
    refine t5 h0 ok hb hb2 h1 hn (by omega) q ?_
    exact ⟨f, cs, rfl, hf, hl, fun d' o => ⟨m, Less.refl m, q d' (o.mono (by omega) (by omega) (by omega))⟩⟩
end K01

set_option Elab.async false
set_option linter.all false
set_option maxRecDepth 100000
namespace K02
open PySem PySem.Spec PyProof.Rows L2 DL K01
/-! ### tables -/
def l_SORTS : List Str := ["text", "rows", "tree"]
def d_SORTS : D := .tup (l_SORTS.map D.str)
def T_FORMS : List (Str × List Str) := [("open", ["sort"]), ("give", ["key", "word", "level"]), ("put", ["key", "after", "signs"]), ("cut", ["key", "names"]), ("look", ["key", "names", "word", "truth"]), ("row", ["key"]), ("set", ["key", "key", "word", "value"]), ("drop", ["key", "key"]), ("node", ["key", "parent", "word"]), ("move", ["key", "key", "parent"]), ("say", ["key", "on", "said"]), ("close", ["key", "key"]), ("suggest", ["key", "inner"]), ("take", ["key", "key"]), ("refuse", ["key", "key"]), ("mark", ["key", "at"]), ("undo", ["key", "key"]), ("redo", ["key", "key"])]
def T_INNERS : List (Str × List Str) := [("put", ["after", "signs"]), ("cut", ["names"])]
/-! ### the looks -/
def pSaid : D → Bool := pText 40
def pPlain (k : Str) (d : D) : Bool := if k = "word" then pWord d else if k = "level" then pLevel d else if k = "signs" then pSigns d else if k = "said" then pSaid d else pValue d
def pNamedK (k : Str) (d : D) : Bool := if k ∈ (["key", "parent"] : List Str) then pKey d else if k = "after" then pName d else if k = "names" then pNames d else if k = "on" then pNames d || pKey d else pName d || pKey d
def pSort : D → Bool
  | .str z => l_SORTS.contains z
  | _ => false
def pFitsG (inn : D → Bool) (k : Str) (d : D) : Bool :=
  if k ∈ (["after", "parent", "at"] : List Str) ∧ isNon d = true then true
  else if k = "sort" then pSort d
  else if k = "truth" then isB d
  else if k = "inner" then inn d
  else if k ∈ (["word", "level", "signs", "said", "value"] : List Str) then pPlain k d
  else pNamedK k d
def pFitG (inn : D → Bool) (ks : List Str) (ds : List D) : Bool := decide (ds.length = ks.length) && (List.zipWith (pFitsG inn) ks ds).all id
def pTagged (T : List (Str × List Str)) (inn : D → Bool) : D → Bool
  | .tup (.str z :: r) => (match T.lookup z with
    | some ks => pFitG inn ks r
    | none => false)
  | _ => false
def noInn (_ : D) : Bool := false
def pInner : D → Bool := pTagged T_INNERS noInn
def pWhat : D → Bool := pTagged T_FORMS pInner
def pDeed : D → Bool
  | .tup [h, n, c, k, w] => pWord h && pNumber n && pNumber c && pVersion k && pWhat w
  | _ => false
def pBegins : D → Bool
  | .tup (.str _ :: _) => true
  | _ => false
/-! ### promises -/
def sp_is_said : DSp := sp1 pSaid
def sp_is_what : DSp := sp1 pWhat
def sp_is_deed : DSp := sp1 pDeed
def sp__is_inner : DSp := sp1 pInner
def sp__begins_with_text : DSp := sp1 pBegins
def sp__fits_plainly : DSp := fun ds m Q => ∃ k d, ds = [.str k, d] ∧ okD d ∧ Q (.bl (pPlain k d)) m
def sp__fits_as_named : DSp := fun ds m Q => ∃ k d, ds = [.str k, d] ∧ okD d ∧ Q (.bl (pNamedK k d)) m
/-- the kinds ks alone -/
def spFits (inn : D → Bool) (ok : Str → Prop) : DSp := fun ds m Q => ∃ k d, ds = [.str k, d] ∧ ok k ∧ okD d ∧ Q (.bl (pFitsG inn k d)) m
def spFit (inn : D → Bool) (ok : Str → Prop) : DSp := fun ds m Q => ∃ (ks : List Str) (es : List D), ds = [.tup (ks.map D.str), .tup es] ∧ (∀ k ∈ ks, ok k) ∧ ks.length ≤ 10 ∧ okD (.tup es) ∧ Q (.bl (pFitG inn ks es)) m
def okAll (_ : Str) : Prop := True
def okNoInn (k : Str) : Prop := k ≠ "inner"
def sp__fits : DSp := spFits pInner okAll
def sp__fit : DSp := spFit pInner okAll
def sp_key_of : DSp := fun ds m Q => ∃ h n c k w, ds = [.tup [h, n, c, k, w]] ∧ Q (.tup [h, n]) m
def sp_what_of : DSp := fun ds m Q => ∃ h n c k w, ds = [.tup [h, n, c, k, w]] ∧ Q w m
def docOf (w : D) (key : D) : D := match w with
  | .tup (.str z :: r) => if z = "open" then key else r.headD .non
  | _ => .non
def sp_doc_named : DSp := fun ds m Q => ∃ (z : Str) (r : List D) (key : D), ds = [.tup (.str z :: r), key] ∧ (z ≠ "open" → r ≠ []) ∧ Q (docOf (.tup (.str z :: r)) key) m
def sp_doc_of : DSp := fun ds m Q => ∃ (h n c k : D) (z : Str) (r : List D), ds = [.tup [h, n, c, k, .tup (.str z :: r)]] ∧ (z ≠ "open" → r ≠ []) ∧ Q (docOf (.tup (.str z :: r)) (.tup [h, n])) m
end K02

set_option Elab.async false
set_option linter.all false
set_option maxRecDepth 100000
set_option maxHeartbeats 4000000
namespace K02
open PySem PySem.Spec PyProof.Rows L2 DL K01
theorem seq_in {t u : DTS} {D : DEnds} {e : Ev} {m : Mu} (h : t { D with nx := u D } e m) : dSeq t u D e m := h
theorem in_dec (z : Str) (l : List Str) : inD (.str z) (l.map D.str) = decide (z ∈ l) := by
  unfold inD
  rw [List.any_map]
  induction l with
  | nil => rfl
  | cons y l ih =>
    rw [List.any_cons, ih]
    simp only [Function.comp, D.py, eqv_str, List.mem_cons]
    by_cases h : y = z
    · subst h
      simp
    · have h2 : (y == z) = false := beq_eq_false_iff_ne.mpr h
      rw [h2, Bool.false_or]
      by_cases h3 : z ∈ l
      · simp [h3]
      · simp [h3, Ne.symm h]
theorem _root_.K01.okD.noth {d : D} (h : okD d) : notOth d := by
  have := h.pu
  cases d <;> simp [D.pu] at this <;> trivial
theorem _root_.K01.okD.tail {x : D} {r : List D} (h : okD (.tup (x :: r))) : okD (.tup r) := by
  obtain ⟨h1, h2, h3, h4⟩ := h
  simp only [D.pu, pus, D.py, pys, PyData.canLay0, PyData.canLayAll0, PyData.depth, PyData.depthAll, sz, szs, Bool.and_eq_true] at h1 h2 h3 h4
  refine ⟨h1.2, h2.2, ?_, ?_⟩
  · simp only [D.py, PyData.depth]; omega
  · simp only [sz]; have := sz_pos x; omega
theorem at0 {x : D} {r : List D} : atI (x :: r) 0 = some x := atI_nat (j := 0) rfl
theorem at1 {x y : D} {r : List D} : atI (x :: y :: r) 1 = some y := atI_nat (j := 1) rfl
theorem at4 {x y z u v : D} {r : List D} : atI (x :: y :: z :: u :: v :: r) 4 = some v := atI_nat (j := 4) rfl
theorem cut1 {x : D} {r : List D} : cutG (x :: r) (some 1) none = r := cut_drop (x :: r) 1
theorem lookup_mem {β : Type} {z : Str} {b : β} : ∀ {l : List (Str × β)}, l.lookup z = some b → (z, b) ∈ l
  | [], h => by cases h
  | p :: l, h => by
    rw [List.lookup_cons] at h
    cases hk : z == p.1 with
    | true =>
      rw [hk] at h
      cases h
      rw [eq_of_beq hk]
      exact List.mem_cons_self
    | false =>
      rw [hk] at h
      exact List.mem_cons_of_mem _ (lookup_mem h)
theorem lcD_pairs {still : Mu → Prop} {i j : Nat} {te : DTE} {e : Ev} {m : Mu} {p : Addr} {Q : List D → Prop} (f : D → D → D) (hst : ∀ acc, still (mset m p (.lst acc))) :
    ∀ (l : List (D × D)) (acc : List D), (∀ x ∈ l, ∀ (acc : List D) (R : DK), R (f x.1 x.2) (mset m p (.lst acc)) → te ((e.set i (some x.1)).set j (some x.2)) (mset m p (.lst acc)) R) → acc.length + l.length ≤ sizeLine → Q (acc ++ l.map fun x => f x.1 x.2) → lcD still (gP i j) dYes te e m p Q (l.map fun x => D.tup [x.1, x.2]) acc
  | [], acc, _, _, q => ⟨hst acc, by simpa using q⟩
  | d :: ds, acc, h, hl, q => by
    rw [List.length_cons] at hl
    refine ⟨hst acc, rfl, rfl, h d List.mem_cons_self acc _ ⟨rfl, by omega, ?_⟩⟩
    refine lcD_pairs f hst ds (acc ++ [f d.1 d.2]) (fun d' hd => h d' (List.mem_cons_of_mem _ hd)) (by rw [List.length_append, List.length_singleton]; omega) ?_
    rw [List.append_assoc]
    exact q
theorem zip_map {α β γ : Type} (f : α → β → γ) : ∀ (a : List α) (b : List β), List.zipWith f a b = (List.zip a b).map fun x => f x.1 x.2
  | [], _ => by simp
  | _ :: _, [] => by simp
  | x :: a, y :: b => by simp [zip_map f a b]
def b_is_said : DTS := (dRet (dCall sp_is_text_to (dCons (dVar 0) (dCons (dC (.int 40)) dNil))))
def b_is_what : DTS := (dSeq (dIfS (dOrT (dNotT (dB (dCall sp__begins_with_text (dCons (dVar 0) dNil)))) (dB (dInK true T_FORMS (dOp gIx (dVar 0) (dC (.int 0))))))
      (dRet (dC (.bl false)))
      dNext)
      (dRet (dCall sp__fit (dCons (dIxK T_FORMS (dOp gIx (dVar 0) (dC (.int 0)))) (dCons (dSl (dVar 0) (dPart (dC (.int 1))) dNoPart) dNil)))))
def b_is_deed : DTS := (dSeq (dIfS (dOrT (dNotT (dB (dCB gIsi (dCons (dVar 0) (dCons (dC (.oth (.ty "tuple"))) dNil))))) (dB (dOp gNe (dCB gLen (dCons (dVar 0) dNil)) (dC (.int 5)))))
      (dRet (dC (.bl false)))
      dNext)
      (dSeq (dAsg5 1 2 3 4 5 (dVar 0))
      (dRet (dAndV (dCall sp_is_word (dCons (dVar 1) dNil)) (dAndV (dCall sp_is_number (dCons (dVar 2) dNil)) (dAndV (dCall sp_is_number (dCons (dVar 3) dNil)) (dAndV (dCall sp_is_version (dCons (dVar 4) dNil)) (dCall sp_is_what (dCons (dVar 5) dNil)))))))))
def b__is_inner (sp__fit : DSp) : DTS := (dSeq (dIfS (dOrT (dNotT (dB (dCall sp__begins_with_text (dCons (dVar 0) dNil)))) (dB (dInK true T_INNERS (dOp gIx (dVar 0) (dC (.int 0))))))
      (dRet (dC (.bl false)))
      dNext)
      (dRet (dCall sp__fit (dCons (dIxK T_INNERS (dOp gIx (dVar 0) (dC (.int 0)))) (dCons (dSl (dVar 0) (dPart (dC (.int 1))) dNoPart) dNil)))))
def b__begins_with_text : DTS := (dRet (dAndV (dCB gIsi (dCons (dVar 0) (dCons (dC (.oth (.ty "tuple"))) dNil))) (dAndV (dOp (gI0 fun i j => .bl (decide (j < i))) (dCB gLen (dCons (dVar 0) dNil)) (dC (.int 0))) (dCB gIsi (dCons (dOp gIx (dVar 0) (dC (.int 0))) (dCons (dC (.oth (.ty "str"))) dNil))))))
def b__fit (sp__fits : DSp) : DTS := (dSeq (dIfS (dB (dOp gNe (dCB gLen (dCons (dVar 1) dNil)) (dCB gLen (dCons (dVar 0) dNil))))
      (dRet (dC (.bl false)))
      dNext)
      (dRet (dCB (g1 gAll1) (dCons (dLc (wZip (dCons (dVar 0) (dCons (dVar 1) dNil))) (gP 2 3) dYes (dCall sp__fits (dCons (dVar 2) (dCons (dVar 3) dNil))) [2, 3]) dNil))))
def b__fits (sp__is_inner : DSp) : DTS := (dSeq (dIfS (dAndT (dB (dOp (gIn false) (dVar 0) (dTup (dCons (dC (.str "after")) (dCons (dC (.str "parent")) (dCons (dC (.str "at")) dNil)))))) (dB (dOp gIsN (dVar 1) (dC .non))))
      (dRet (dC (.bl true)))
      dNext)
      (dSeq (dIfS (dB (dOp gEq (dVar 0) (dC (.str "sort"))))
      (dRet (dAndV (dCB gIsi (dCons (dVar 1) (dCons (dC (.oth (.ty "str"))) dNil))) (dOp (gIn false) (dVar 1) (dC d_SORTS))))
      dNext)
      (dSeq (dIfS (dB (dOp gEq (dVar 0) (dC (.str "truth"))))
      (dRet (dCB gIsi (dCons (dVar 1) (dCons (dC (.oth (.ty "bool"))) dNil))))
      dNext)
      (dSeq (dIfS (dB (dOp gEq (dVar 0) (dC (.str "inner"))))
      (dRet (dCall sp__is_inner (dCons (dVar 1) dNil)))
      dNext)
      (dSeq (dIfS (dB (dOp (gIn false) (dVar 0) (dTup (dCons (dC (.str "word")) (dCons (dC (.str "level")) (dCons (dC (.str "signs")) (dCons (dC (.str "said")) (dCons (dC (.str "value")) dNil))))))))
      (dRet (dCall sp__fits_plainly (dCons (dVar 0) (dCons (dVar 1) dNil))))
      dNext)
      (dRet (dCall sp__fits_as_named (dCons (dVar 0) (dCons (dVar 1) dNil)))))))))
def g__fits_1 (sp__is_inner : DSp) : DTS := (dIfS (dAndT (dB (dOp (gIn false) (dVar 0) (dTup (dCons (dC (.str "after")) (dCons (dC (.str "parent")) (dCons (dC (.str "at")) dNil)))))) (dB (dOp gIsN (dVar 1) (dC .non)))) (dRet (dC (.bl true))) dNext)
def g__fits_2 (sp__is_inner : DSp) : DTS := (dIfS (dB (dOp gEq (dVar 0) (dC (.str "sort")))) (dRet (dAndV (dCB gIsi (dCons (dVar 1) (dCons (dC (.oth (.ty "str"))) dNil))) (dOp (gIn false) (dVar 1) (dC d_SORTS)))) dNext)
def g__fits_3 (sp__is_inner : DSp) : DTS := (dIfS (dB (dOp gEq (dVar 0) (dC (.str "truth")))) (dRet (dCB gIsi (dCons (dVar 1) (dCons (dC (.oth (.ty "bool"))) dNil)))) dNext)
def g__fits_4 (sp__is_inner : DSp) : DTS := (dIfS (dB (dOp gEq (dVar 0) (dC (.str "inner")))) (dRet (dCall sp__is_inner (dCons (dVar 1) dNil))) dNext)
def g__fits_5 (sp__is_inner : DSp) : DTS := (dIfS (dB (dOp (gIn false) (dVar 0) (dTup (dCons (dC (.str "word")) (dCons (dC (.str "level")) (dCons (dC (.str "signs")) (dCons (dC (.str "said")) (dCons (dC (.str "value")) dNil)))))))) (dRet (dCall sp__fits_plainly (dCons (dVar 0) (dCons (dVar 1) dNil)))) dNext)
def g__fits_6 (sp__is_inner : DSp) : DTS := (dRet (dCall sp__fits_as_named (dCons (dVar 0) (dCons (dVar 1) dNil))))
theorem eq__fits (sp__is_inner : DSp) : b__fits sp__is_inner = (dSeq (g__fits_1 sp__is_inner) (dSeq (g__fits_2 sp__is_inner) (dSeq (g__fits_3 sp__is_inner) (dSeq (g__fits_4 sp__is_inner) (dSeq (g__fits_5 sp__is_inner) (g__fits_6 sp__is_inner)))))) := rfl
def b__fits_plainly : DTS := (dSeq (dIfS (dB (dOp gEq (dVar 0) (dC (.str "word"))))
      (dRet (dCall sp_is_word (dCons (dVar 1) dNil)))
      dNext)
      (dSeq (dIfS (dB (dOp gEq (dVar 0) (dC (.str "level"))))
      (dRet (dCall sp_is_level (dCons (dVar 1) dNil)))
      dNext)
      (dSeq (dIfS (dB (dOp gEq (dVar 0) (dC (.str "signs"))))
      (dRet (dCall sp_is_signs (dCons (dVar 1) dNil)))
      dNext)
      (dSeq (dIfS (dB (dOp gEq (dVar 0) (dC (.str "said"))))
      (dRet (dCall sp_is_said (dCons (dVar 1) dNil)))
      dNext)
      (dRet (dCall sp_is_value (dCons (dVar 1) dNil)))))))
def b__fits_as_named : DTS := (dSeq (dIfS (dB (dOp (gIn false) (dVar 0) (dTup (dCons (dC (.str "key")) (dCons (dC (.str "parent")) dNil)))))
      (dRet (dCall sp_is_key (dCons (dVar 1) dNil)))
      dNext)
      (dSeq (dIfS (dB (dOp gEq (dVar 0) (dC (.str "after"))))
      (dRet (dCall sp_is_name (dCons (dVar 1) dNil)))
      dNext)
      (dSeq (dIfS (dB (dOp gEq (dVar 0) (dC (.str "names"))))
      (dRet (dCall sp_are_names (dCons (dVar 1) dNil)))
      dNext)
      (dSeq (dIfS (dB (dOp gEq (dVar 0) (dC (.str "on"))))
      (dRet (dOrV (dCall sp_are_names (dCons (dVar 1) dNil)) (dCall sp_is_key (dCons (dVar 1) dNil))))
      dNext)
      (dRet (dOrV (dCall sp_is_name (dCons (dVar 1) dNil)) (dCall sp_is_key (dCons (dVar 1) dNil))))))))
def b_key_of : DTS := (dRet (dTup (dCons (dOp gIx (dVar 0) (dC (.int 0))) (dCons (dOp gIx (dVar 0) (dC (.int 1))) dNil))))
def b_what_of : DTS := (dRet (dOp gIx (dVar 0) (dC (.int 4))))
def b_doc_named : DTS := (dSeq (dIfS (dB (dOp gEq (dOp gIx (dVar 0) (dC (.int 0))) (dC (.str "open"))))
      (dRet (dVar 1))
      dNext)
      (dRet (dOp gIx (dVar 0) (dC (.int 1)))))
def b_doc_of : DTS := (dRet (dCall sp_doc_named (dCons (dCall sp_what_of (dCons (dVar 0) dNil)) (dCons (dCall sp_key_of (dCons (dVar 0) dNil)) dNil))))
theorem ar_plain : ∀ ds m Q, sp__fits_plainly ds m Q → ds.length = 2 := fun ds m Q ⟨k, d, e, _⟩ => by rw [e]; rfl
theorem rd_is_said : ∀ ds m Q, sp_is_said ds m Q → b_is_said { nx := fun _ m' => Q .non m', rt := Q } (startD 1 ds) m := by
  rintro ds m Q ⟨d, rfl, ok, q⟩
  exact ⟨d, 40, rfl, ok, q⟩
theorem rd__fits_plainly : ∀ ds m Q, sp__fits_plainly ds m Q → b__fits_plainly { nx := fun _ m' => Q .non m', rt := Q } (startD 2 ds) m := by
  rintro ds m Q ⟨k, d, rfl, ok, q⟩
  simp only [b__fits_plainly, dVar, dC, dOp, dB, dChain, dAndT, dOrT, dNotT, dAndV, dOrV, dNotV, dIf, dNeg, dNil, dCons, dTup, dLst, dLstM, dCB, g1, gIsi, gLen, gLen1, gRepr, gRepr1, gList1, gTuple1, gAll1, gOrd1, gStr1, gInt1, dMt, dMt0, gAppend, gExtend, gUpper, dNext, dSeq, dDrop, dRet, dRetF, dRetX, dRetN, dIfS, dSet, wSeq, wRng1, wRng2, gN, gP, dFor, dLc, dLcM, dYes, dPar, dAsg2, dCall, gI, gI0, gAdd2, gSub2, gAdd, gMul, gLt, gLe, gEq, gNe, gIsN, gNotN, gIn, gIx, gSl, dSl, dNoPart, dPart, dRev, gRev, gAddLM, gRepS, gLIndex, dKIndex, dFCells, dFInt, dFPut, dFeed, startD, wipeD, List.set_cons_zero, List.set_cons_succ, List.getElem?_cons_zero, List.getElem?_cons_succ, List.map_cons, List.map_nil, List.length_cons, List.length_nil, List.replicate, List.cons_append, List.nil_append, dInK, dIxK, wZip, dAsg3, dAsg5, gInS, dDisp, dDIn, dDGet, dCallF, gUpdate]
  unfold pPlain at q
  by_cases h1 : k = "word"
  · rw [if_pos h1] at q; rw [decide_eq_true h1]; exact ⟨d, rfl, ok, q⟩
  rw [if_neg h1] at q; rw [decide_eq_false h1]
  by_cases h2 : k = "level"
  · rw [if_pos h2] at q; rw [decide_eq_true h2]; exact ⟨d, rfl, ok, q⟩
  rw [if_neg h2] at q; rw [decide_eq_false h2]
  by_cases h3 : k = "signs"
  · rw [if_pos h3] at q; rw [decide_eq_true h3]; exact ⟨d, rfl, ok, q⟩
  rw [if_neg h3] at q; rw [decide_eq_false h3]
  by_cases h4 : k = "said"
  · rw [if_pos h4] at q; rw [decide_eq_true h4]; exact ⟨d, rfl, ok, q⟩
  rw [if_neg h4] at q; rw [decide_eq_false h4]
  exact ⟨d, rfl, ok, q⟩
theorem rd__fits_as_named : ∀ ds m Q, sp__fits_as_named ds m Q → b__fits_as_named { nx := fun _ m' => Q .non m', rt := Q } (startD 2 ds) m := by
  rintro ds m Q ⟨k, d, rfl, ok, q⟩
  simp only [b__fits_as_named, dVar, dC, dOp, dB, dChain, dAndT, dOrT, dNotT, dAndV, dOrV, dNotV, dIf, dNeg, dNil, dCons, dTup, dLst, dLstM, dCB, g1, gIsi, gLen, gLen1, gRepr, gRepr1, gList1, gTuple1, gAll1, gOrd1, gStr1, gInt1, dMt, dMt0, gAppend, gExtend, gUpper, dNext, dSeq, dDrop, dRet, dRetF, dRetX, dRetN, dIfS, dSet, wSeq, wRng1, wRng2, gN, gP, dFor, dLc, dLcM, dYes, dPar, dAsg2, dCall, gI, gI0, gAdd2, gSub2, gAdd, gMul, gLt, gLe, gEq, gNe, gIsN, gNotN, gIn, gIx, gSl, dSl, dNoPart, dPart, dRev, gRev, gAddLM, gRepS, gLIndex, dKIndex, dFCells, dFInt, dFPut, dFeed, startD, wipeD, List.set_cons_zero, List.set_cons_succ, List.getElem?_cons_zero, List.getElem?_cons_succ, List.map_cons, List.map_nil, List.length_cons, List.length_nil, List.replicate, List.cons_append, List.nil_append, dInK, dIxK, wZip, dAsg3, dAsg5, gInS, dDisp, dDIn, dDGet, dCallF, gUpdate]
  refine ⟨by decide, rfl, by decide, ?_⟩
  have e := in_dec k ["key", "parent"]
  simp only [List.map_cons, List.map_nil] at e
  rw [if_neg Bool.false_ne_true, e]
  unfold pNamedK at q
  by_cases h1 : k ∈ (["key", "parent"] : List Str)
  · rw [if_pos h1] at q; rw [decide_eq_true h1]; exact ⟨d, rfl, ok, q⟩
  rw [if_neg h1] at q; rw [decide_eq_false h1]
  by_cases h2 : k = "after"
  · rw [if_pos h2] at q; rw [decide_eq_true h2]; exact ⟨d, rfl, ok, q⟩
  rw [if_neg h2] at q; rw [decide_eq_false h2]
  by_cases h3 : k = "names"
  · rw [if_pos h3] at q; rw [decide_eq_true h3]; exact ⟨d, rfl, ok, q⟩
  rw [if_neg h3] at q; rw [decide_eq_false h3]
  by_cases h4 : k = "on"
  · rw [if_pos h4] at q; rw [decide_eq_true h4]
    refine ⟨d, rfl, ok, ?_⟩
    cases hn : pNames d with
    | true => rw [hn] at q; exact q
    | false => rw [hn] at q; exact ⟨d, rfl, ok, q⟩
  rw [if_neg h4] at q; rw [decide_eq_false h4]
  refine ⟨d, rfl, ok, ?_⟩
  cases hn : pName d with
  | true => rw [hn] at q; exact q
  | false => rw [hn] at q; exact ⟨d, rfl, ok, q⟩

theorem ar_fitsG {inn : D → Bool} {okk : Str → Prop} : ∀ ds m Q, spFits inn okk ds m Q → ds.length = 2 := fun ds m Q ⟨k, d, e, _⟩ => by rw [e]; rfl
theorem ar_fitG {inn : D → Bool} {okk : Str → Prop} : ∀ ds m Q, spFit inn okk ds m Q → ds.length = 2 := fun ds m Q ⟨k, d, e, _⟩ => by rw [e]; rfl
def fitsR (inn : D → Bool) (k : Str) (d : D) : Bool := if k = "sort" then pSort d
  else if k = "truth" then isB d
  else if k = "inner" then inn d
  else if k ∈ (["word", "level", "signs", "said", "value"] : List Str) then pPlain k d
  else pNamedK k d
theorem in_sorts (z : Str) : inD (.str z) (l_SORTS.map D.str) = l_SORTS.contains z := by
  rw [in_dec]
  by_cases h : z ∈ l_SORTS
  · rw [decide_eq_true h]; exact (List.contains_iff_mem.mpr h).symm
  · rw [decide_eq_false h]; exact (Bool.eq_false_iff.mpr fun z => h (List.contains_iff_mem.mp z)).symm
theorem fits_rest {inn : D → Bool} {k : Str} {d : D} {m : Mu} {sp : DSp} {E : DEnds} (ok : okD d) (hs : ∀ m Q, k = "inner" → Q (.bl (inn d)) m → sp [d] m Q) (q : E.rt (.bl (fitsR inn k d)) m) : dSeq (g__fits_2 sp) (dSeq (g__fits_3 sp) (dSeq (g__fits_4 sp) (dSeq (g__fits_5 sp) (g__fits_6 sp)))) E [some (.str k), some d] m := by
  simp only [g__fits_2, g__fits_3, g__fits_4, g__fits_5, g__fits_6, dVar, dC, dOp, dB, dChain, dAndT, dOrT, dNotT, dAndV, dOrV, dNotV, dIf, dNeg, dNil, dCons, dTup, dLst, dLstM, dCB, g1, gIsi, gLen, gLen1, gRepr, gRepr1, gList1, gTuple1, gAll1, gOrd1, gStr1, gInt1, dMt, dMt0, gAppend, gExtend, gUpper, dNext, dSeq, dDrop, dRet, dRetF, dRetX, dRetN, dIfS, dSet, wSeq, wRng1, wRng2, gN, gP, dFor, dLc, dLcM, dYes, dPar, dAsg2, dCall, gI, gI0, gAdd2, gSub2, gAdd, gMul, gLt, gLe, gEq, gNe, gIsN, gNotN, gIn, gIx, gSl, dSl, dNoPart, dPart, dRev, gRev, gAddLM, gRepS, gLIndex, dKIndex, dFCells, dFInt, dFPut, dFeed, startD, wipeD, List.set_cons_zero, List.set_cons_succ, List.getElem?_cons_zero, List.getElem?_cons_succ, List.map_cons, List.map_nil, List.length_cons, List.length_nil, List.replicate, List.cons_append, List.nil_append, dInK, dIxK, wZip, dAsg3, dAsg5, gInS, dDisp, dDIn, dDGet, dCallF, gUpdate]
  unfold fitsR at q
  by_cases h1 : k = "sort"
  · rw [if_pos h1] at q; rw [decide_eq_true h1]
    refine ⟨ok.isi m (by decide), ?_⟩
    rw [isi_S ok]
    cases d with
    | str z =>
      refine ⟨rfl, rfl, ?_⟩
      have e := in_sorts z
      show E.rt (.bl (if false = true then !inD (.str z) (l_SORTS.map D.str) else inD (.str z) (l_SORTS.map D.str))) m
      rw [e]
      exact q
    | _ => exact q
  rw [if_neg h1] at q; rw [decide_eq_false h1]
  by_cases h2 : k = "truth"
  · rw [if_pos h2] at q; rw [decide_eq_true h2]
    refine ⟨ok.isi m (by decide), ?_⟩
    rw [isi_B ok]
    exact q
  rw [if_neg h2] at q; rw [decide_eq_false h2]
  by_cases h3 : k = "inner"
  · rw [if_pos h3] at q; rw [decide_eq_true h3]
    exact hs m _ h3 q
  rw [if_neg h3] at q; rw [decide_eq_false h3]
  refine ⟨by decide, rfl, by decide, ?_⟩
  have e := in_dec k ["word", "level", "signs", "said", "value"]
  simp only [List.map_cons, List.map_nil] at e
  rw [if_neg Bool.false_ne_true, e]
  by_cases h4 : k ∈ (["word", "level", "signs", "said", "value"] : List Str)
  · rw [if_pos h4] at q; rw [decide_eq_true h4]
    exact ⟨k, d, rfl, ok, q⟩
  rw [if_neg h4] at q; rw [decide_eq_false h4]
  exact ⟨k, d, rfl, ok, q⟩
theorem rd_fitsG {inn : D → Bool} {okk : Str → Prop} (sp : DSp) (hs : ∀ d m Q, okk "inner" → okD d → Q (.bl (inn d)) m → sp [d] m Q) : ∀ ds m Q, spFits inn okk ds m Q → b__fits sp { nx := fun _ m' => Q .non m', rt := Q } (startD 2 ds) m := by
  rintro ds m Q ⟨k, d, rfl, hk, ok, q⟩
  rw [eq__fits]
  have go : ∀ q : Q (.bl (fitsR inn k d)) m, dSeq (g__fits_2 sp) (dSeq (g__fits_3 sp) (dSeq (g__fits_4 sp) (dSeq (g__fits_5 sp) (g__fits_6 sp)))) { nx := fun _ m' => Q .non m', rt := Q } [some (.str k), some d] m := fun q =>
    fits_rest ok (fun m Q e q => hs d m Q (by rw [← e]; exact hk) ok q) q
  refine seq_in ?_
  generalize dSeq (g__fits_2 sp) (dSeq (g__fits_3 sp) (dSeq (g__fits_4 sp) (dSeq (g__fits_5 sp) (g__fits_6 sp)))) = T at go ⊢
  simp only [g__fits_1, dVar, dC, dOp, dB, dChain, dAndT, dOrT, dNotT, dAndV, dOrV, dNotV, dIf, dNeg, dNil, dCons, dTup, dLst, dLstM, dCB, g1, gIsi, gLen, gLen1, gRepr, gRepr1, gList1, gTuple1, gAll1, gOrd1, gStr1, gInt1, dMt, dMt0, gAppend, gExtend, gUpper, dNext, dSeq, dDrop, dRet, dRetF, dRetX, dRetN, dIfS, dSet, wSeq, wRng1, wRng2, gN, gP, dFor, dLc, dLcM, dYes, dPar, dAsg2, dCall, gI, gI0, gAdd2, gSub2, gAdd, gMul, gLt, gLe, gEq, gNe, gIsN, gNotN, gIn, gIx, gSl, dSl, dNoPart, dPart, dRev, gRev, gAddLM, gRepS, gLIndex, dKIndex, dFCells, dFInt, dFPut, dFeed, startD, wipeD, List.set_cons_zero, List.set_cons_succ, List.getElem?_cons_zero, List.getElem?_cons_succ, List.map_cons, List.map_nil, List.length_cons, List.length_nil, List.replicate, List.cons_append, List.nil_append, dInK, dIxK, wZip, dAsg3, dAsg5, gInS, dDisp, dDIn, dDGet, dCallF, gUpdate]
  refine ⟨by decide, rfl, by decide, ?_⟩
  have e := in_dec k ["after", "parent", "at"]
  simp only [List.map_cons, List.map_nil] at e
  rw [if_neg Bool.false_ne_true, e]
  have q : Q (.bl (if k ∈ (["after", "parent", "at"] : List Str) ∧ isNon d = true then true else fitsR inn k d)) m := q
  by_cases h1 : k ∈ (["after", "parent", "at"] : List Str)
  · rw [decide_eq_true h1]
    refine ⟨ok.noth, ?_⟩
    cases hn : isNon d with
    | true => rw [if_pos ⟨h1, hn⟩] at q; exact q
    | false =>
      rw [if_neg (fun z => by rw [hn] at z; exact Bool.noConfusion z.2)] at q
      exact go q
  · rw [decide_eq_false h1]
    rw [if_neg (fun z => h1 z.1)] at q
    exact go q
theorem rd__begins : ∀ ds m Q, sp__begins_with_text ds m Q → b__begins_with_text { nx := fun _ m' => Q .non m', rt := Q } (startD 1 ds) m := by
  rintro ds m Q ⟨d, rfl, ok, q⟩
  simp only [b__begins_with_text, dVar, dC, dOp, dB, dChain, dAndT, dOrT, dNotT, dAndV, dOrV, dNotV, dIf, dNeg, dNil, dCons, dTup, dLst, dLstM, dCB, g1, gIsi, gLen, gLen1, gRepr, gRepr1, gList1, gTuple1, gAll1, gOrd1, gStr1, gInt1, dMt, dMt0, gAppend, gExtend, gUpper, dNext, dSeq, dDrop, dRet, dRetF, dRetX, dRetN, dIfS, dSet, wSeq, wRng1, wRng2, gN, gP, dFor, dLc, dLcM, dYes, dPar, dAsg2, dCall, gI, gI0, gAdd2, gSub2, gAdd, gMul, gLt, gLe, gEq, gNe, gIsN, gNotN, gIn, gIx, gSl, dSl, dNoPart, dPart, dRev, gRev, gAddLM, gRepS, gLIndex, dKIndex, dFCells, dFInt, dFPut, dFeed, startD, wipeD, List.set_cons_zero, List.set_cons_succ, List.getElem?_cons_zero, List.getElem?_cons_succ, List.map_cons, List.map_nil, List.length_cons, List.length_nil, List.replicate, List.cons_append, List.nil_append, dInK, dIxK, wZip, dAsg3, dAsg5, gInS, dDisp, dDIn, dDGet, dCallF, gUpdate]
  refine ⟨ok.isi m (by decide), ?_⟩
  rw [isi_T ok]
  cases d with
  | tup xs =>
    cases xs with
    | nil => exact q
    | cons x r =>
      have hz : decide ((0 : Int) < (((x :: r).length : Nat) : Int)) = true := decide_eq_true (by simp only [List.length_cons]; omega)
      have okx := ok.mem (List.mem_cons_self (a := x) (l := r))
      simp only [isT, sq, hz, at0]
      show isiOk (kindD m x) "str" = true ∧ Q (.bl (isiB (kindD m x) "str")) m
      refine ⟨okx.isi m (by decide), ?_⟩
      rw [isi_S okx]
      cases x <;> exact q
  | _ => exact q

theorem rd_fitG {inn : D → Bool} {okk : Str → Prop} (sp : DSp) (hs : ∀ k d m Q, okk k → okD d → Q (.bl (pFitsG inn k d)) m → sp [.str k, d] m Q) : ∀ ds m Q, spFit inn okk ds m Q → b__fit sp { nx := fun _ m' => Q .non m', rt := Q } (startD 4 ds) m := by
  rintro ds m Q ⟨ks, es, rfl, hk, hl, ok, q⟩
  simp only [b__fit, dVar, dC, dOp, dB, dChain, dAndT, dOrT, dNotT, dAndV, dOrV, dNotV, dIf, dNeg, dNil, dCons, dTup, dLst, dLstM, dCB, g1, gIsi, gLen, gLen1, gRepr, gRepr1, gList1, gTuple1, gAll1, gOrd1, gStr1, gInt1, dMt, dMt0, gAppend, gExtend, gUpper, dNext, dSeq, dDrop, dRet, dRetF, dRetX, dRetN, dIfS, dSet, wSeq, wRng1, wRng2, gN, gP, dFor, dLc, dLcM, dYes, dPar, dAsg2, dCall, gI, gI0, gAdd2, gSub2, gAdd, gMul, gLt, gLe, gEq, gNe, gIsN, gNotN, gIn, gIx, gSl, dSl, dNoPart, dPart, dRev, gRev, gAddLM, gRepS, gLIndex, dKIndex, dFCells, dFInt, dFPut, dFeed, startD, wipeD, List.set_cons_zero, List.set_cons_succ, List.getElem?_cons_zero, List.getElem?_cons_succ, List.map_cons, List.map_nil, List.length_cons, List.length_nil, List.replicate, List.cons_append, List.nil_append, dInK, dIxK, wZip, dAsg3, dAsg5, gInS, dDisp, dDIn, dDGet, dCallF, gUpdate, sq]
  unfold pFitG at q
  by_cases h : es.length = ks.length
  · have h2 : decide (((es.length : Nat) : Int) = ((List.map D.str ks).length : Nat)) = true := decide_eq_true (by rw [List.length_map, h])
    rw [h2]
    rw [decide_eq_true h, Bool.true_and] at q
    intro p hp
    rw [zip_map]
    refine lcD_pairs (fun x y => .bl (match x with
      | .str k => pFitsG inn k y
      | _ => false)) (fun _ => trivial) _ _ (fun x hx acc R r => ?_) (by rw [sizeLine_eq, List.length_nil, List.length_zip, List.length_map]; omega) ?_
    · obtain ⟨x1, x2⟩ := x
      have h3 := List.of_mem_zip hx
      obtain ⟨k, hk1, rfl⟩ := List.mem_map.mp h3.1
      exact hs k x2 _ _ (hk k hk1) (ok.mem h3.2) r
    · have e : ([] ++ List.map (fun x : D × D => (D.bl (match x.1 with
        | .str k => pFitsG inn k x.2
        | _ => false))) ((List.map D.str ks).zip es)) = (List.zipWith (pFitsG inn) ks es).map D.bl := by
        rw [List.nil_append]
        clear q h h2 hl ok hk
        induction ks generalizing es with
        | nil => simp
        | cons k ks ih =>
          cases es with
          | nil => simp
          | cons e es => simp [ih]
      rw [e]
      simp only [lv]
      have e2 : blsD ((List.zipWith (pFitsG inn) ks es).map D.bl) = some (List.zipWith (pFitsG inn) ks es) := by
        have := blsD_map (fun b : Bool => b) (List.zipWith (pFitsG inn) ks es)
        rw [List.map_id'] at this
        exact this
      rw [e2]
      exact q
  · have h2 : decide (((es.length : Nat) : Int) = ((List.map D.str ks).length : Nat)) = false := decide_eq_false (by rw [List.length_map]; omega)
    rw [h2]
    rw [decide_eq_false h, Bool.false_and] at q
    exact q
theorem begins_form {d : D} (h : pBegins d = true) : ∃ z r, d = .tup (.str z :: r) := by
  cases d with
  | tup xs =>
    cases xs with
    | nil => cases h
    | cons x r =>
      cases x with
      | str z => exact ⟨z, r, rfl⟩
      | _ => cases h
  | _ => cases h
theorem tagged_no {T : List (Str × List Str)} {inn : D → Bool} {d : D} (h : pBegins d = false) : pTagged T inn d = false := by
  cases d with
  | tup xs =>
    cases xs with
    | nil => rfl
    | cons x r =>
      cases x with
      | str z => cases h
      | _ => rfl
  | _ => rfl
theorem rd__is_inner (sp : DSp) (hs : ∀ ds m Q, spFit noInn okNoInn ds m Q → sp ds m Q) : ∀ ds m Q, sp__is_inner ds m Q → b__is_inner sp { nx := fun _ m' => Q .non m', rt := Q } (startD 1 ds) m := by
  rintro ds m Q ⟨d, rfl, ok, q⟩
  simp only [b__is_inner, dVar, dC, dOp, dB, dChain, dAndT, dOrT, dNotT, dAndV, dOrV, dNotV, dIf, dNeg, dNil, dCons, dTup, dLst, dLstM, dCB, g1, gIsi, gLen, gLen1, gRepr, gRepr1, gList1, gTuple1, gAll1, gOrd1, gStr1, gInt1, dMt, dMt0, gAppend, gExtend, gUpper, dNext, dSeq, dDrop, dRet, dRetF, dRetX, dRetN, dIfS, dSet, wSeq, wRng1, wRng2, gN, gP, dFor, dLc, dLcM, dYes, dPar, dAsg2, dCall, gI, gI0, gAdd2, gSub2, gAdd, gMul, gLt, gLe, gEq, gNe, gIsN, gNotN, gIn, gIx, gSl, dSl, dNoPart, dPart, dRev, gRev, gAddLM, gRepS, gLIndex, dKIndex, dFCells, dFInt, dFPut, dFeed, startD, wipeD, List.set_cons_zero, List.set_cons_succ, List.getElem?_cons_zero, List.getElem?_cons_succ, List.map_cons, List.map_nil, List.length_cons, List.length_nil, List.replicate, List.cons_append, List.nil_append, dInK, dIxK, wZip, dAsg3, dAsg5, gInS, dDisp, dDIn, dDGet, dCallF, gUpdate]
  refine ⟨d, rfl, ok, ?_⟩
  cases hb : pBegins d with
  | false =>
    have q : Q (.bl (pTagged T_INNERS noInn d)) m := q
    rw [tagged_no hb] at q
    exact q
  | true =>
    obtain ⟨z, r, rfl⟩ := begins_form hb
    simp only [sq, at0, cut1]
    have q : Q (.bl (pTagged T_INNERS noInn (.tup (.str z :: r)))) m := q
    simp only [pTagged] at q
    cases hz : T_INNERS.lookup z with
    | none => rw [hz] at q; exact q
    | some ks =>
      rw [hz] at q
      have hk : (∀ k ∈ ks, okNoInn k) ∧ ks.length ≤ 10 := by
        have all : ∀ p ∈ T_INNERS, (∀ k ∈ p.2, okNoInn k) ∧ p.2.length ≤ 10 := by
          unfold T_INNERS okNoInn
          decide +kernel
        have : (z, ks) ∈ T_INNERS := lookup_mem hz
        exact all _ this
      exact hs _ _ _ ⟨ks, r, rfl, hk.1, hk.2, ok.tail, q⟩
theorem rd_is_what : ∀ ds m Q, sp_is_what ds m Q → b_is_what { nx := fun _ m' => Q .non m', rt := Q } (startD 1 ds) m := by
  rintro ds m Q ⟨d, rfl, ok, q⟩
  simp only [b_is_what, dVar, dC, dOp, dB, dChain, dAndT, dOrT, dNotT, dAndV, dOrV, dNotV, dIf, dNeg, dNil, dCons, dTup, dLst, dLstM, dCB, g1, gIsi, gLen, gLen1, gRepr, gRepr1, gList1, gTuple1, gAll1, gOrd1, gStr1, gInt1, dMt, dMt0, gAppend, gExtend, gUpper, dNext, dSeq, dDrop, dRet, dRetF, dRetX, dRetN, dIfS, dSet, wSeq, wRng1, wRng2, gN, gP, dFor, dLc, dLcM, dYes, dPar, dAsg2, dCall, gI, gI0, gAdd2, gSub2, gAdd, gMul, gLt, gLe, gEq, gNe, gIsN, gNotN, gIn, gIx, gSl, dSl, dNoPart, dPart, dRev, gRev, gAddLM, gRepS, gLIndex, dKIndex, dFCells, dFInt, dFPut, dFeed, startD, wipeD, List.set_cons_zero, List.set_cons_succ, List.getElem?_cons_zero, List.getElem?_cons_succ, List.map_cons, List.map_nil, List.length_cons, List.length_nil, List.replicate, List.cons_append, List.nil_append, dInK, dIxK, wZip, dAsg3, dAsg5, gInS, dDisp, dDIn, dDGet, dCallF, gUpdate]
  refine ⟨d, rfl, ok, ?_⟩
  cases hb : pBegins d with
  | false =>
    have q : Q (.bl (pTagged T_FORMS pInner d)) m := q
    rw [tagged_no hb] at q
    exact q
  | true =>
    obtain ⟨z, r, rfl⟩ := begins_form hb
    simp only [sq, at0, cut1]
    have q : Q (.bl (pTagged T_FORMS pInner (.tup (.str z :: r)))) m := q
    simp only [pTagged] at q
    cases hz : T_FORMS.lookup z with
    | none => rw [hz] at q; exact q
    | some ks =>
      rw [hz] at q
      have hk : ks.length ≤ 10 := by
        have all : ∀ p ∈ T_FORMS, p.2.length ≤ 10 := by
          unfold T_FORMS
          decide +kernel
        exact all _ (lookup_mem hz)
      exact ⟨ks, r, rfl, fun _ _ => trivial, hk, ok.tail, q⟩
theorem rd_is_deed : ∀ ds m Q, sp_is_deed ds m Q → b_is_deed { nx := fun _ m' => Q .non m', rt := Q } (startD 6 ds) m := by
  rintro ds m Q ⟨d, rfl, ok, q⟩
  simp only [b_is_deed, dVar, dC, dOp, dB, dChain, dAndT, dOrT, dNotT, dAndV, dOrV, dNotV, dIf, dNeg, dNil, dCons, dTup, dLst, dLstM, dCB, g1, gIsi, gLen, gLen1, gRepr, gRepr1, gList1, gTuple1, gAll1, gOrd1, gStr1, gInt1, dMt, dMt0, gAppend, gExtend, gUpper, dNext, dSeq, dDrop, dRet, dRetF, dRetX, dRetN, dIfS, dSet, wSeq, wRng1, wRng2, gN, gP, dFor, dLc, dLcM, dYes, dPar, dAsg2, dCall, gI, gI0, gAdd2, gSub2, gAdd, gMul, gLt, gLe, gEq, gNe, gIsN, gNotN, gIn, gIx, gSl, dSl, dNoPart, dPart, dRev, gRev, gAddLM, gRepS, gLIndex, dKIndex, dFCells, dFInt, dFPut, dFeed, startD, wipeD, List.set_cons_zero, List.set_cons_succ, List.getElem?_cons_zero, List.getElem?_cons_succ, List.map_cons, List.map_nil, List.length_cons, List.length_nil, List.replicate, List.cons_append, List.nil_append, dInK, dIxK, wZip, dAsg3, dAsg5, gInS, dDisp, dDIn, dDGet, dCallF, gUpdate]
  refine ⟨ok.isi m (by decide), ?_⟩
  rw [isi_T ok]
  cases d with
  | tup xs =>
    match xs, ok, q with
    | [], ok, q => exact q
    | [_], ok, q => exact q
    | [_, _], ok, q => exact q
    | [_, _, _], ok, q => exact q
    | [_, _, _, _], ok, q => exact q
    | x :: y :: z :: u :: v :: w :: r, ok, q =>
      have h2 : decide ((((x :: y :: z :: u :: v :: w :: r).length : Nat) : Int) = 5) = false := decide_eq_false (by simp only [List.length_cons]; omega)
      simp only [isT, sq, h2]
      exact q
    | [h, n, c, k, w], ok, q =>
      simp only [pDeed] at q
      show sp_is_word [h] m _
      have o1 : okD h := ok.mem (by simp)
      have o2 : okD n := ok.mem (by simp)
      have o3 : okD c := ok.mem (by simp)
      have o4 : okD k := ok.mem (by simp)
      have o5 : okD w := ok.mem (by simp)
      refine ⟨h, rfl, o1, ?_⟩
      cases h1 : pWord h with
      | false => simp only [h1, Bool.false_and] at q; exact q
      | true =>
        refine ⟨n, rfl, o2, ?_⟩
        cases h2 : pNumber n with
        | false => simp only [h1, h2, Bool.false_and, Bool.true_and] at q; exact q
        | true =>
          refine ⟨c, rfl, o3, ?_⟩
          cases h3 : pNumber c with
          | false => simp only [h1, h2, h3, Bool.false_and, Bool.true_and] at q; exact q
          | true =>
            refine ⟨k, rfl, o4, ?_⟩
            cases h4 : pVersion k with
            | false => simp only [h1, h2, h3, h4, Bool.false_and, Bool.true_and] at q; exact q
            | true =>
              simp only [h1, h2, h3, h4, Bool.true_and] at q
              exact ⟨w, rfl, o5, q⟩
  | _ => exact q
theorem ar_key_of : ∀ ds m Q, sp_key_of ds m Q → ds.length = 1 := fun ds m Q ⟨h, n, c, k, w, e, _⟩ => by rw [e]; rfl
theorem ar_what_of : ∀ ds m Q, sp_what_of ds m Q → ds.length = 1 := fun ds m Q ⟨h, n, c, k, w, e, _⟩ => by rw [e]; rfl
theorem ar_doc_named : ∀ ds m Q, sp_doc_named ds m Q → ds.length = 2 := fun ds m Q ⟨h, n, c, e, _⟩ => by rw [e]; rfl
theorem ar_doc_of : ∀ ds m Q, sp_doc_of ds m Q → ds.length = 1 := fun ds m Q ⟨h, n, c, k, w, r, e, _⟩ => by rw [e]; rfl
theorem rd_key_of : ∀ ds m Q, sp_key_of ds m Q → b_key_of { nx := fun _ m' => Q .non m', rt := Q } (startD 1 ds) m := by
  rintro ds m Q ⟨h, n, c, k, w, rfl, q⟩
  simp only [b_key_of, dVar, dC, dOp, dB, dChain, dAndT, dOrT, dNotT, dAndV, dOrV, dNotV, dIf, dNeg, dNil, dCons, dTup, dLst, dLstM, dCB, g1, gIsi, gLen, gLen1, gRepr, gRepr1, gList1, gTuple1, gAll1, gOrd1, gStr1, gInt1, dMt, dMt0, gAppend, gExtend, gUpper, dNext, dSeq, dDrop, dRet, dRetF, dRetX, dRetN, dIfS, dSet, wSeq, wRng1, wRng2, gN, gP, dFor, dLc, dLcM, dYes, dPar, dAsg2, dCall, gI, gI0, gAdd2, gSub2, gAdd, gMul, gLt, gLe, gEq, gNe, gIsN, gNotN, gIn, gIx, gSl, dSl, dNoPart, dPart, dRev, gRev, gAddLM, gRepS, gLIndex, dKIndex, dFCells, dFInt, dFPut, dFeed, startD, wipeD, List.set_cons_zero, List.set_cons_succ, List.getElem?_cons_zero, List.getElem?_cons_succ, List.map_cons, List.map_nil, List.length_cons, List.length_nil, List.replicate, List.cons_append, List.nil_append, dInK, dIxK, wZip, dAsg3, dAsg5, gInS, dDisp, dDIn, dDGet, dCallF, gUpdate, sq, at0, at1]
  exact ⟨by decide, q⟩
theorem rd_what_of : ∀ ds m Q, sp_what_of ds m Q → b_what_of { nx := fun _ m' => Q .non m', rt := Q } (startD 1 ds) m := by
  rintro ds m Q ⟨h, n, c, k, w, rfl, q⟩
  simp only [b_what_of, dVar, dC, dOp, dB, dChain, dAndT, dOrT, dNotT, dAndV, dOrV, dNotV, dIf, dNeg, dNil, dCons, dTup, dLst, dLstM, dCB, g1, gIsi, gLen, gLen1, gRepr, gRepr1, gList1, gTuple1, gAll1, gOrd1, gStr1, gInt1, dMt, dMt0, gAppend, gExtend, gUpper, dNext, dSeq, dDrop, dRet, dRetF, dRetX, dRetN, dIfS, dSet, wSeq, wRng1, wRng2, gN, gP, dFor, dLc, dLcM, dYes, dPar, dAsg2, dCall, gI, gI0, gAdd2, gSub2, gAdd, gMul, gLt, gLe, gEq, gNe, gIsN, gNotN, gIn, gIx, gSl, dSl, dNoPart, dPart, dRev, gRev, gAddLM, gRepS, gLIndex, dKIndex, dFCells, dFInt, dFPut, dFeed, startD, wipeD, List.set_cons_zero, List.set_cons_succ, List.getElem?_cons_zero, List.getElem?_cons_succ, List.map_cons, List.map_nil, List.length_cons, List.length_nil, List.replicate, List.cons_append, List.nil_append, dInK, dIxK, wZip, dAsg3, dAsg5, gInS, dDisp, dDIn, dDGet, dCallF, gUpdate, sq, at4]
  exact q
theorem rd_doc_named : ∀ ds m Q, sp_doc_named ds m Q → b_doc_named { nx := fun _ m' => Q .non m', rt := Q } (startD 2 ds) m := by
  rintro ds m Q ⟨z, r, key, rfl, hr, q⟩
  simp only [b_doc_named, dVar, dC, dOp, dB, dChain, dAndT, dOrT, dNotT, dAndV, dOrV, dNotV, dIf, dNeg, dNil, dCons, dTup, dLst, dLstM, dCB, g1, gIsi, gLen, gLen1, gRepr, gRepr1, gList1, gTuple1, gAll1, gOrd1, gStr1, gInt1, dMt, dMt0, gAppend, gExtend, gUpper, dNext, dSeq, dDrop, dRet, dRetF, dRetX, dRetN, dIfS, dSet, wSeq, wRng1, wRng2, gN, gP, dFor, dLc, dLcM, dYes, dPar, dAsg2, dCall, gI, gI0, gAdd2, gSub2, gAdd, gMul, gLt, gLe, gEq, gNe, gIsN, gNotN, gIn, gIx, gSl, dSl, dNoPart, dPart, dRev, gRev, gAddLM, gRepS, gLIndex, dKIndex, dFCells, dFInt, dFPut, dFeed, startD, wipeD, List.set_cons_zero, List.set_cons_succ, List.getElem?_cons_zero, List.getElem?_cons_succ, List.map_cons, List.map_nil, List.length_cons, List.length_nil, List.replicate, List.cons_append, List.nil_append, dInK, dIxK, wZip, dAsg3, dAsg5, gInS, dDisp, dDIn, dDGet, dCallF, gUpdate, sq, at0]
  simp only [docOf] at q
  by_cases h : z = "open"
  · rw [if_pos h] at q; rw [decide_eq_true h]; exact q
  · rw [if_neg h] at q; rw [decide_eq_false h]
    cases r with
    | nil => exact absurd rfl (hr h)
    | cons x r =>
      simp only [at1]
      exact q
theorem rd_doc_of : ∀ ds m Q, sp_doc_of ds m Q → b_doc_of { nx := fun _ m' => Q .non m', rt := Q } (startD 1 ds) m := by
  rintro ds m Q ⟨h, n, c, k, z, r, rfl, hr, q⟩
  simp only [b_doc_of, dVar, dC, dOp, dB, dChain, dAndT, dOrT, dNotT, dAndV, dOrV, dNotV, dIf, dNeg, dNil, dCons, dTup, dLst, dLstM, dCB, g1, gIsi, gLen, gLen1, gRepr, gRepr1, gList1, gTuple1, gAll1, gOrd1, gStr1, gInt1, dMt, dMt0, gAppend, gExtend, gUpper, dNext, dSeq, dDrop, dRet, dRetF, dRetX, dRetN, dIfS, dSet, wSeq, wRng1, wRng2, gN, gP, dFor, dLc, dLcM, dYes, dPar, dAsg2, dCall, gI, gI0, gAdd2, gSub2, gAdd, gMul, gLt, gLe, gEq, gNe, gIsN, gNotN, gIn, gIx, gSl, dSl, dNoPart, dPart, dRev, gRev, gAddLM, gRepS, gLIndex, dKIndex, dFCells, dFInt, dFPut, dFeed, startD, wipeD, List.set_cons_zero, List.set_cons_succ, List.getElem?_cons_zero, List.getElem?_cons_succ, List.map_cons, List.map_nil, List.length_cons, List.length_nil, List.replicate, List.cons_append, List.nil_append, dInK, dIxK, wZip, dAsg3, dAsg5, gInS, dDisp, dDIn, dDGet, dCallF, gUpdate]
  exact ⟨h, n, c, k, _, rfl, h, n, c, k, _, rfl, z, r, _, rfl, hr, q⟩
end K02

set_option Elab.async false
set_option linter.all false
set_option maxRecDepth 100000
set_option maxHeartbeats 4000000
namespace K02
open PySem PySem.Spec PyProof.Rows L2 DL K01
def kinds : List (Nat × Str) := [(116, "sort"), (107, "key"), (104, "word"), (108, "level"), (110, "after"), (115, "signs"), (78, "names"), (98, "truth"), (118, "value"), (75, "parent"), (111, "on"), (119, "said"), (105, "inner"), (97, "at")]
def T_ROWS : List (Str × Str) := [("open", "t"), ("give", "khl"), ("put", "kns"), ("cut", "kN"), ("look", "kNhb"), ("row", "k"), ("set", "kkhv"), ("drop", "kk"), ("node", "kKh"), ("move", "kkK"), ("say", "kow"), ("close", "kk"), ("suggest", "ki"), ("take", "kk"), ("refuse", "kk"), ("mark", "ka"), ("undo", "kk"), ("redo", "kk")]
def sp__law_inner : DSp := sp1 pInner
def sp__law_part_is : DSp := fun ds m Q => ∃ c k d, ds = [.str ⟨#[c]⟩, d] ∧ (c, k) ∈ kinds ∧ okD d ∧ Q (.bl (pFitsG pInner k d)) m
def sp__law_whatted : DSp := sp1 pWhat
def sp__law_deeded : DSp := sp1 pDeed
/-- a part, as the law itself looks at it -/
def lPart (c : Nat) (d : D) : Bool :=
  if c ∈ ([75, 110, 97] : List Nat) ∧ isNon d = true then true
  else if c ∈ ([107, 75] : List Nat) then pKey d
  else if c ∈ ([111, 97] : List Nat) ∧ pKey d = true then true
  else if c ∈ ([110, 97] : List Nat) then pName d
  else if c ∈ ([78, 111] : List Nat) then pNames d
  else if c ∈ ([115, 119] : List Nat) then pText (if c = 115 then 12 else 40) d
  else if c = 118 then pValue d
  else if c = 98 then isB d
  else if c = 116 then pSort d
  else if c = 104 then pWord d
  else if c = 108 then pLevel d
  else pInner d
theorem lPart_eq {c : Nat} {k : Str} (h : (c, k) ∈ kinds) (d : D) : lPart c d = pFitsG pInner k d := by
  unfold kinds at h
  simp only [List.mem_cons, List.not_mem_nil, or_false, Prod.mk.injEq] at h
  have dd : ∀ a b : Str, decide (a = b) = true → a = b := fun a b h => of_decide_eq_true h
  rcases h with ⟨rfl, rfl⟩ | ⟨rfl, rfl⟩ | ⟨rfl, rfl⟩ | ⟨rfl, rfl⟩ | ⟨rfl, rfl⟩ | ⟨rfl, rfl⟩ | ⟨rfl, rfl⟩ | ⟨rfl, rfl⟩ | ⟨rfl, rfl⟩ | ⟨rfl, rfl⟩ | ⟨rfl, rfl⟩ | ⟨rfl, rfl⟩ | ⟨rfl, rfl⟩ | ⟨rfl, rfl⟩
  all_goals (unfold lPart pFitsG pPlain pNamedK; simp (decide := true) only [List.mem_cons, List.not_mem_nil, or_false, or_true, true_or, false_and, true_and, if_true, if_false, false_or])
  · rfl
  · cases pKey d <;> cases pNames d <;> rfl
  · rfl
  · cases isNon d <;> cases pKey d <;> cases pName d <;> rfl
def b__law_inner : DTS := (dSeq (dIfS (dOrT (dNotT (dB (dCB gIsi (dCons (dVar 0) (dCons (dC (.oth (.ty "tuple"))) dNil))))) (dOrT (dB (dOp gEq (dVar 0) (dTup dNil))) (dNotT (dB (dCB gIsi (dCons (dOp gIx (dVar 0) (dC (.int 0))) (dCons (dC (.oth (.ty "str"))) dNil)))))))
      (dRet (dC (.bl false)))
      dNext)
      (dSeq (dIfS (dB (dOp gEq (dOp gIx (dVar 0) (dC (.int 0))) (dC (.str "cut"))))
      (dRet (dAndV (dOp gEq (dCB gLen (dCons (dVar 0) dNil)) (dC (.int 2))) (dCall sp__law_all_named (dCons (dOp gIx (dVar 0) (dC (.int 1))) dNil))))
      dNext)
      (dSeq (dIfS (dOrT (dB (dOp gNe (dOp gIx (dVar 0) (dC (.int 0))) (dC (.str "put")))) (dB (dOp gNe (dCB gLen (dCons (dVar 0) dNil)) (dC (.int 3)))))
      (dRet (dC (.bl false)))
      dNext)
      (dRet (dAndV (dOrV (dOp gIsN (dOp gIx (dVar 0) (dC (.int 1))) (dC .non)) (dCall sp__law_named (dCons (dOp gIx (dVar 0) (dC (.int 1))) dNil))) (dCall sp__law_texted (dCons (dOp gIx (dVar 0) (dC (.int 2))) (dCons (dC (.int 12)) dNil))))))))
def b__law_part_is : DTS := (dSeq (dIfS (dAndT (dB (dOp (gInS false) (dVar 0) (dC (.str "Kna")))) (dB (dOp gIsN (dVar 1) (dC .non))))
      (dRet (dC (.bl true)))
      dNext)
      (dSeq (dIfS (dB (dOp (gInS false) (dVar 0) (dC (.str "kK"))))
      (dRet (dCall sp__law_keyed (dCons (dVar 1) dNil)))
      dNext)
      (dSeq (dIfS (dAndT (dB (dOp (gInS false) (dVar 0) (dC (.str "oa")))) (dB (dCall sp__law_keyed (dCons (dVar 1) dNil))))
      (dRet (dC (.bl true)))
      dNext)
      (dSeq (dIfS (dB (dOp (gInS false) (dVar 0) (dC (.str "na"))))
      (dRet (dCall sp__law_named (dCons (dVar 1) dNil)))
      dNext)
      (dSeq (dIfS (dB (dOp (gInS false) (dVar 0) (dC (.str "No"))))
      (dRet (dCall sp__law_all_named (dCons (dVar 1) dNil)))
      dNext)
      (dSeq (dIfS (dB (dOp (gInS false) (dVar 0) (dC (.str "sw"))))
      (dRet (dCall sp__law_texted (dCons (dVar 1) (dCons (dIf (dB (dOp gEq (dVar 0) (dC (.str "s")))) (dC (.int 12)) (dC (.int 40))) dNil))))
      dNext)
      (dSeq (dIfS (dB (dOp gEq (dVar 0) (dC (.str "v"))))
      (dRet (dOrV (dCall sp__law_whole (dCons (dVar 1) dNil)) (dCall sp__law_texted (dCons (dVar 1) (dCons (dC (.int 12)) dNil)))))
      dNext)
      (dSeq (dIfS (dB (dOp gEq (dVar 0) (dC (.str "b"))))
      (dRet (dCB gIsi (dCons (dVar 1) (dCons (dC (.oth (.ty "bool"))) dNil))))
      dNext)
      (dSeq (dIfS (dB (dOp gEq (dVar 0) (dC (.str "t"))))
      (dRet (dAndV (dCB gIsi (dCons (dVar 1) (dCons (dC (.oth (.ty "str"))) dNil))) (dOp (gIn false) (dVar 1) (dLst (dCons (dC (.str "text")) (dCons (dC (.str "rows")) (dCons (dC (.str "tree")) dNil)))))))
      dNext)
      (dRet (dCallF [("h", sp__law_worded), ("l", sp__law_leveled), ("i", sp__law_inner)] (dVar 0) (dCons (dVar 1) dNil))))))))))))
def g__law_part_is_1  : DTS := (dIfS (dAndT (dB (dOp (gInS false) (dVar 0) (dC (.str "Kna")))) (dB (dOp gIsN (dVar 1) (dC .non)))) (dRet (dC (.bl true))) dNext)
def g__law_part_is_2  : DTS := (dIfS (dB (dOp (gInS false) (dVar 0) (dC (.str "kK")))) (dRet (dCall sp__law_keyed (dCons (dVar 1) dNil))) dNext)
def g__law_part_is_3  : DTS := (dIfS (dAndT (dB (dOp (gInS false) (dVar 0) (dC (.str "oa")))) (dB (dCall sp__law_keyed (dCons (dVar 1) dNil)))) (dRet (dC (.bl true))) dNext)
def g__law_part_is_4  : DTS := (dIfS (dB (dOp (gInS false) (dVar 0) (dC (.str "na")))) (dRet (dCall sp__law_named (dCons (dVar 1) dNil))) dNext)
def g__law_part_is_5  : DTS := (dIfS (dB (dOp (gInS false) (dVar 0) (dC (.str "No")))) (dRet (dCall sp__law_all_named (dCons (dVar 1) dNil))) dNext)
def g__law_part_is_6  : DTS := (dIfS (dB (dOp (gInS false) (dVar 0) (dC (.str "sw")))) (dRet (dCall sp__law_texted (dCons (dVar 1) (dCons (dIf (dB (dOp gEq (dVar 0) (dC (.str "s")))) (dC (.int 12)) (dC (.int 40))) dNil)))) dNext)
def g__law_part_is_7  : DTS := (dIfS (dB (dOp gEq (dVar 0) (dC (.str "v")))) (dRet (dOrV (dCall sp__law_whole (dCons (dVar 1) dNil)) (dCall sp__law_texted (dCons (dVar 1) (dCons (dC (.int 12)) dNil))))) dNext)
def g__law_part_is_8  : DTS := (dIfS (dB (dOp gEq (dVar 0) (dC (.str "b")))) (dRet (dCB gIsi (dCons (dVar 1) (dCons (dC (.oth (.ty "bool"))) dNil)))) dNext)
def g__law_part_is_9  : DTS := (dIfS (dB (dOp gEq (dVar 0) (dC (.str "t")))) (dRet (dAndV (dCB gIsi (dCons (dVar 1) (dCons (dC (.oth (.ty "str"))) dNil))) (dOp (gIn false) (dVar 1) (dLst (dCons (dC (.str "text")) (dCons (dC (.str "rows")) (dCons (dC (.str "tree")) dNil))))))) dNext)
def g__law_part_is_10  : DTS := (dRet (dCallF [ ("h" , sp__law_worded) , ("l" , sp__law_leveled) , ("i" , sp__law_inner) ] (dVar 0) (dCons (dVar 1) dNil)))
theorem eq__law_part_is  : b__law_part_is  = (dSeq g__law_part_is_1 (dSeq g__law_part_is_2 (dSeq g__law_part_is_3 (dSeq g__law_part_is_4 (dSeq g__law_part_is_5 (dSeq g__law_part_is_6 (dSeq g__law_part_is_7 (dSeq g__law_part_is_8 (dSeq g__law_part_is_9 g__law_part_is_10))))))))) := rfl
def b__law_whatted : DTS := (dSeq (dSet 1 (dDisp [("open", "t"), ("give", "khl"), ("put", "kns"), ("cut", "kN"), ("look", "kNhb"), ("row", "k")]))
      (dSeq (dDrop (dMt okD' gUpdate (dVar 1) (dCons (dDisp [("set", "kkhv"), ("drop", "kk")]) dNil)))
      (dSeq (dDrop (dMt okD' gUpdate (dVar 1) (dCons (dDisp [("node", "kKh"), ("move", "kkK"), ("say", "kow"), ("close", "kk"), ("suggest", "ki"), ("take", "kk")]) dNil)))
      (dSeq (dDrop (dMt okD' gUpdate (dVar 1) (dCons (dDisp [("refuse", "kk"), ("mark", "ka"), ("undo", "kk"), ("redo", "kk")]) dNil)))
      (dSeq (dIfS (dOrT (dNotT (dB (dCB gIsi (dCons (dVar 0) (dCons (dC (.oth (.ty "tuple"))) dNil))))) (dB (dOp gEq (dVar 0) (dTup dNil))))
      (dRetX (dC (.bl false)))
      dNext)
      (dSeq (dIfS (dOrT (dNotT (dB (dCB gIsi (dCons (dOp gIx (dVar 0) (dC (.int 0))) (dCons (dC (.oth (.ty "str"))) dNil))))) (dB (dDIn true (dOp gIx (dVar 0) (dC (.int 0))) (dVar 1))))
      (dRetX (dC (.bl false)))
      dNext)
      (dSeq (dSet 2 (dDGet (dVar 1) (dOp gIx (dVar 0) (dC (.int 0)))))
      (dSeq (dIfS (dB (dOp gNe (dCB gLen (dCons (dVar 0) dNil)) (dOp gAdd2 (dCB gLen (dCons (dVar 2) dNil)) (dC (.int 1)))))
      (dRetX (dC (.bl false)))
      dNext)
      (dRetX (dOp gEq (dLc (wRng1 (dCons (dCB gLen (dCons (dVar 2) dNil)) dNil)) (gN 3) (dNotT (dB (dCall sp__law_part_is (dCons (dOp gIx (dVar 2) (dVar 3)) (dCons (dOp gIx (dVar 0) (dOp gAdd2 (dVar 3) (dC (.int 1)))) dNil))))) (dVar 3) [3]) (dLst dNil)))))))))))
def g__law_whatted_1  : DTS := (dSet 1 (dDisp [ ("open" , "t") , ("give" , "khl") , ("put" , "kns") , ("cut" , "kN") , ("look" , "kNhb") , ("row" , "k") ]))
def g__law_whatted_2  : DTS := (dDrop (dMt okD' gUpdate (dVar 1) (dCons (dDisp [ ("set" , "kkhv") , ("drop" , "kk") ]) dNil)))
def g__law_whatted_3  : DTS := (dDrop (dMt okD' gUpdate (dVar 1) (dCons (dDisp [ ("node" , "kKh") , ("move" , "kkK") , ("say" , "kow") , ("close" , "kk") , ("suggest" , "ki") , ("take" , "kk") ]) dNil)))
def g__law_whatted_4  : DTS := (dDrop (dMt okD' gUpdate (dVar 1) (dCons (dDisp [ ("refuse" , "kk") , ("mark" , "ka") , ("undo" , "kk") , ("redo" , "kk") ]) dNil)))
def g__law_whatted_5  : DTS := (dIfS (dOrT (dNotT (dB (dCB gIsi (dCons (dVar 0) (dCons (dC (.oth (.ty "tuple"))) dNil))))) (dB (dOp gEq (dVar 0) (dTup dNil)))) (dRetX (dC (.bl false))) dNext)
def g__law_whatted_6  : DTS := (dIfS (dOrT (dNotT (dB (dCB gIsi (dCons (dOp gIx (dVar 0) (dC (.int 0))) (dCons (dC (.oth (.ty "str"))) dNil))))) (dB (dDIn true (dOp gIx (dVar 0) (dC (.int 0))) (dVar 1)))) (dRetX (dC (.bl false))) dNext)
def g__law_whatted_7  : DTS := (dSet 2 (dDGet (dVar 1) (dOp gIx (dVar 0) (dC (.int 0)))))
def g__law_whatted_8  : DTS := (dIfS (dB (dOp gNe (dCB gLen (dCons (dVar 0) dNil)) (dOp gAdd2 (dCB gLen (dCons (dVar 2) dNil)) (dC (.int 1))))) (dRetX (dC (.bl false))) dNext)
def g__law_whatted_9  : DTS := (dRetX (dOp gEq (dLc (wRng1 (dCons (dCB gLen (dCons (dVar 2) dNil)) dNil)) (gN 3) (dNotT (dB (dCall sp__law_part_is (dCons (dOp gIx (dVar 2) (dVar 3)) (dCons (dOp gIx (dVar 0) (dOp gAdd2 (dVar 3) (dC (.int 1)))) dNil))))) (dVar 3) [3]) (dLst dNil)))
theorem eq__law_whatted  : b__law_whatted  = (dSeq g__law_whatted_1 (dSeq g__law_whatted_2 (dSeq g__law_whatted_3 (dSeq g__law_whatted_4 (dSeq g__law_whatted_5 (dSeq g__law_whatted_6 (dSeq g__law_whatted_7 (dSeq g__law_whatted_8 g__law_whatted_9)))))))) := rfl
def b__law_deeded : DTS := (dSeq (dIfS (dOrT (dNotT (dB (dCB gIsi (dCons (dVar 0) (dCons (dC (.oth (.ty "tuple"))) dNil))))) (dOrT (dB (dOp gNe (dCB gLen (dCons (dVar 0) dNil)) (dC (.int 5)))) (dNotT (dB (dCall sp__law_worded (dCons (dOp gIx (dVar 0) (dC (.int 0))) dNil))))))
      (dRet (dC (.bl false)))
      dNext)
      (dSeq (dIfS (dOrT (dNotT (dB (dCall sp__law_counted (dCons (dOp gIx (dVar 0) (dC (.int 1))) dNil)))) (dNotT (dB (dCall sp__law_counted (dCons (dOp gIx (dVar 0) (dC (.int 2))) dNil)))))
      (dRet (dC (.bl false)))
      dNext)
      (dRet (dAndV (dCall sp__law_versioned (dCons (dOp gIx (dVar 0) (dC (.int 3))) dNil)) (dCall sp__law_whatted (dCons (dOp gIx (dVar 0) (dC (.int 4))) dNil))))))
theorem chr_eq (c a : Nat) : decide ((⟨#[c]⟩ : Str) = ⟨#[a]⟩) = decide (c = a) := by
  by_cases h : c = a
  · rw [h, decide_eq_true rfl, decide_eq_true rfl]
  · rw [decide_eq_false h, decide_eq_false]
    intro e
    injection e with e
    have := congrArg Array.toList e
    simp at this
    exact h this
theorem ar_part : ∀ ds m Q, sp__law_part_is ds m Q → ds.length = 2 := fun ds m Q ⟨c, k, d, e, _⟩ => by rw [e]; rfl
theorem rd__law_inner : ∀ ds m Q, sp__law_inner ds m Q → b__law_inner { nx := fun _ m' => Q .non m', rt := Q } (startD 1 ds) m := by
  rintro ds m Q ⟨d, rfl, ok, q⟩
  have q : Q (.bl (pTagged T_INNERS noInn d)) m := q
  simp only [b__law_inner, dVar, dC, dOp, dB, dChain, dAndT, dOrT, dNotT, dAndV, dOrV, dNotV, dIf, dNeg, dNil, dCons, dTup, dLst, dLstM, dCB, g1, gIsi, gLen, gLen1, gRepr, gRepr1, gList1, gTuple1, gAll1, gOrd1, gStr1, gInt1, dMt, dMt0, gAppend, gExtend, gUpper, dNext, dSeq, dDrop, dRet, dRetF, dRetX, dRetN, dIfS, dSet, wSeq, wRng1, wRng2, gN, gP, dFor, dLc, dLcM, dYes, dPar, dAsg2, dCall, gI, gI0, gAdd2, gSub2, gAdd, gMul, gLt, gLe, gEq, gNe, gIsN, gNotN, gIn, gIx, gSl, dSl, dNoPart, dPart, dRev, gRev, gAddLM, gRepS, gLIndex, dKIndex, dFCells, dFInt, dFPut, dFeed, startD, wipeD, List.set_cons_zero, List.set_cons_succ, List.getElem?_cons_zero, List.getElem?_cons_succ, List.map_cons, List.map_nil, List.length_cons, List.length_nil, List.replicate, List.cons_append, List.nil_append, dInK, dIxK, wZip, dAsg3, dAsg5, gInS, dDisp, dDIn, dDGet, dCallF, gUpdate]
  refine ⟨ok.isi m (by decide), ?_⟩
  rw [isi_T ok]
  cases d with
  | tup xs =>
    simp only [isT, Bool.not_true]
    refine ⟨by decide, ok.fit, ⟨rfl, by decide⟩, ?_⟩
    cases xs with
    | nil =>
      rw [show PyData.eqv (D.tup []).py (D.tup []).py = true from by decide +kernel]
      exact q
    | cons x r =>
      rw [show PyData.eqv (D.tup (x :: r)).py (D.tup []).py = false from by simp [D.py, pys, PyData.eqv, PyData.eqvAll]]
      have okx := ok.mem (List.mem_cons_self (a := x) (l := r))
      simp only [sq, at0]
      refine ⟨okx.isi m (by decide), ?_⟩
      rw [isi_S okx]
      cases x with
      | str z =>
        simp only [isS, Bool.not_true]
        simp only [pTagged] at q
        by_cases h1 : z = "cut"
        · subst h1
          rw [decide_eq_true rfl]
          rw [show T_INNERS.lookup (Str.ofString "cut") = some (["names"] : List Str) from by decide +kernel] at q
          simp only at q
          match r, ok, q with
          | [], ok, q => exact q
          | [y], ok, q =>
            simp only [at1]
            refine ⟨y, rfl, ok.mem (by simp), ?_⟩
            have e : pFitG noInn ["names"] [y] = pNames y := by
              unfold pFitG pFitsG pNamedK
              simp (decide := true) only [List.zipWith, List.all_cons, List.all_nil, id, Bool.and_true, List.mem_cons, List.not_mem_nil, or_false, or_true, true_or, false_and, true_and, if_true, if_false, false_or, List.length_cons, List.length_nil, decide_true, Bool.true_and]
            rw [e] at q
            exact q
          | y :: w :: r, ok, q =>
            have h2 : decide ((((D.str (Str.ofString "cut") :: y :: w :: r).length : Nat) : Int) = 2) = false := decide_eq_false (by simp only [List.length_cons]; omega)
            rw [h2]
            have e : pFitG noInn ["names"] (y :: w :: r) = false := by
              unfold pFitG
              rw [decide_eq_false (by simp only [List.length_cons, List.length_nil]; omega), Bool.false_and]
            rw [e] at q
            exact q
        · rw [decide_eq_false h1]
          by_cases h2 : z = "put"
          · subst h2
            rw [decide_eq_true rfl]
            rw [show T_INNERS.lookup (Str.ofString "put") = some (["after", "signs"] : List Str) from by decide +kernel] at q
            simp only [Bool.not_true] at q ⊢
            match r, ok, q with
            | [], ok, q => exact q
            | [y], ok, q => exact q
            | y :: w :: u :: r, ok, q =>
              have h2 : decide ((((D.str (Str.ofString "put") :: y :: w :: u :: r).length : Nat) : Int) = 3) = false := decide_eq_false (by simp only [List.length_cons]; omega)
              rw [h2]
              have e : pFitG noInn ["after", "signs"] (y :: w :: u :: r) = false := by
                unfold pFitG
                rw [decide_eq_false (by simp only [List.length_cons, List.length_nil]; omega), Bool.false_and]
              rw [e] at q
              exact q
            | [y, w], ok, q =>
              have oky : okD y := ok.mem (by simp)
              have okw : okD w := ok.mem (by simp)
              have e : pFitG noInn ["after", "signs"] [y, w] = ((isNon y || pName y) && pText 12 w) := by
                unfold pFitG pFitsG pNamedK pPlain
                simp (decide := true) only [List.zipWith, List.all_cons, List.all_nil, id, Bool.and_true, List.mem_cons, List.not_mem_nil, or_false, or_true, true_or, false_and, true_and, if_true, if_false, false_or, List.length_cons, List.length_nil, decide_true, Bool.true_and]
                cases isNon y <;> rfl
              rw [e] at q
              show notOth y ∧ _
              refine ⟨oky.noth, ?_⟩
              cases hn : isNon y with
              | true =>
                rw [hn] at q
                exact ⟨w, 12, rfl, okw, q⟩
              | false =>
                rw [hn] at q
                refine ⟨y, rfl, oky, ?_⟩
                cases hp : pName y with
                | true => rw [hp] at q; exact ⟨w, 12, rfl, okw, q⟩
                | false => rw [hp] at q; exact q
          · rw [decide_eq_false h2]
            have e : T_INNERS.lookup z = none := by
              unfold T_INNERS
              rw [List.lookup_cons, beq_eq_false_iff_ne.mpr h2, List.lookup_cons, beq_eq_false_iff_ne.mpr h1]
              rfl
            rw [e] at q
            exact q
      | _ => exact q
  | _ => exact q

theorem part_rest {c : Nat} {d : D} {m : Mu} {E : DEnds} (ok : okD d) (hc : ∃ k, (c, k) ∈ kinds)
    (q : E.rt (.bl (if c ∈ ([107, 75] : List Nat) then pKey d
  else if c ∈ ([111, 97] : List Nat) ∧ pKey d = true then true
  else if c ∈ ([110, 97] : List Nat) then pName d
  else if c ∈ ([78, 111] : List Nat) then pNames d
  else if c ∈ ([115, 119] : List Nat) then pText (if c = 115 then 12 else 40) d
  else if c = 118 then pValue d
  else if c = 98 then isB d
  else if c = 116 then pSort d
  else if c = 104 then pWord d
  else if c = 108 then pLevel d
  else pInner d)) m) : dSeq g__law_part_is_2 (dSeq g__law_part_is_3 (dSeq g__law_part_is_4 (dSeq g__law_part_is_5 (dSeq g__law_part_is_6 (dSeq g__law_part_is_7 (dSeq g__law_part_is_8 (dSeq g__law_part_is_9 g__law_part_is_10))))))) E [some (.str ⟨#[c]⟩), some d] m := by
  refine seq_in ?_
  simp only [g__law_part_is_2, dVar, dC, dOp, dB, dChain, dAndT, dOrT, dNotT, dAndV, dOrV, dNotV, dIf, dNeg, dNil, dCons, dTup, dLst, dLstM, dCB, g1, gIsi, gLen, gLen1, gRepr, gRepr1, gList1, gTuple1, gAll1, gOrd1, gStr1, gInt1, dMt, dMt0, gAppend, gExtend, gUpper, dNext, dSeq, dDrop, dRet, dRetF, dRetX, dRetN, dIfS, dSet, wSeq, wRng1, wRng2, gN, gP, dFor, dLc, dLcM, dYes, dPar, dAsg2, dCall, gI, gI0, gAdd2, gSub2, gAdd, gMul, gLt, gLe, gEq, gNe, gIsN, gNotN, gIn, gIx, gSl, dSl, dNoPart, dPart, dRev, gRev, gAddLM, gRepS, gLIndex, dKIndex, dFCells, dFInt, dFPut, dFeed, startD, wipeD, List.set_cons_zero, List.set_cons_succ, List.getElem?_cons_zero, List.getElem?_cons_succ, List.map_cons, List.map_nil, List.length_cons, List.length_nil, List.replicate, List.cons_append, List.nil_append, dInK, dIxK, wZip, dAsg3, dAsg5, gInS, dDisp, dDIn, dDGet, dCallF, gUpdate]
  refine ⟨c, rfl, ?_⟩
  rw [if_neg Bool.false_ne_true, show (Str.ofString "kK").cps.toList = [107, 75] from by decide +kernel]
  by_cases h1 : c ∈ ([107, 75] : List Nat)
  · rw [if_pos h1] at q; rw [decide_eq_true h1]; exact ⟨d, rfl, ok, q⟩
  rw [if_neg h1] at q; rw [decide_eq_false h1]
  have go : ∀ q : E.rt (.bl (if c ∈ ([110, 97] : List Nat) then pName d
  else if c ∈ ([78, 111] : List Nat) then pNames d
  else if c ∈ ([115, 119] : List Nat) then pText (if c = 115 then 12 else 40) d
  else if c = 118 then pValue d
  else if c = 98 then isB d
  else if c = 116 then pSort d
  else if c = 104 then pWord d
  else if c = 108 then pLevel d
  else pInner d)) m, (dSeq g__law_part_is_4 (dSeq g__law_part_is_5 (dSeq g__law_part_is_6 (dSeq g__law_part_is_7 (dSeq g__law_part_is_8 (dSeq g__law_part_is_9 g__law_part_is_10)))))) E [some (.str ⟨#[c]⟩), some d] m := fun q => by
    simp only [g__law_part_is_4, g__law_part_is_5, g__law_part_is_6, g__law_part_is_7, g__law_part_is_8, g__law_part_is_9, g__law_part_is_10, dVar, dC, dOp, dB, dChain, dAndT, dOrT, dNotT, dAndV, dOrV, dNotV, dIf, dNeg, dNil, dCons, dTup, dLst, dLstM, dCB, g1, gIsi, gLen, gLen1, gRepr, gRepr1, gList1, gTuple1, gAll1, gOrd1, gStr1, gInt1, dMt, dMt0, gAppend, gExtend, gUpper, dNext, dSeq, dDrop, dRet, dRetF, dRetX, dRetN, dIfS, dSet, wSeq, wRng1, wRng2, gN, gP, dFor, dLc, dLcM, dYes, dPar, dAsg2, dCall, gI, gI0, gAdd2, gSub2, gAdd, gMul, gLt, gLe, gEq, gNe, gIsN, gNotN, gIn, gIx, gSl, dSl, dNoPart, dPart, dRev, gRev, gAddLM, gRepS, gLIndex, dKIndex, dFCells, dFInt, dFPut, dFeed, startD, wipeD, List.set_cons_zero, List.set_cons_succ, List.getElem?_cons_zero, List.getElem?_cons_succ, List.map_cons, List.map_nil, List.length_cons, List.length_nil, List.replicate, List.cons_append, List.nil_append, dInK, dIxK, wZip, dAsg3, dAsg5, gInS, dDisp, dDIn, dDGet, dCallF, gUpdate]
    refine ⟨c, rfl, ?_⟩
    rw [if_neg Bool.false_ne_true, show (Str.ofString "na").cps.toList = [110, 97] from by decide +kernel]
    by_cases h2 : c ∈ ([110, 97] : List Nat)
    · rw [if_pos h2] at q; rw [decide_eq_true h2]; exact ⟨d, rfl, ok, q⟩
    rw [if_neg h2] at q; rw [decide_eq_false h2]
    refine ⟨c, rfl, ?_⟩
    rw [if_neg Bool.false_ne_true, show (Str.ofString "No").cps.toList = [78, 111] from by decide +kernel]
    by_cases h3 : c ∈ ([78, 111] : List Nat)
    · rw [if_pos h3] at q; rw [decide_eq_true h3]; exact ⟨d, rfl, ok, q⟩
    rw [if_neg h3] at q; rw [decide_eq_false h3]
    refine ⟨c, rfl, ?_⟩
    rw [if_neg Bool.false_ne_true, show (Str.ofString "sw").cps.toList = [115, 119] from by decide +kernel]
    by_cases h4 : c ∈ ([115, 119] : List Nat)
    · rw [if_pos h4] at q; rw [decide_eq_true h4]
      show (match decide ((⟨#[c]⟩ : Str) = ⟨#[115]⟩) with | true => _ | false => _)
      rw [chr_eq]
      by_cases h5 : c = 115
      · rw [if_pos h5] at q; rw [decide_eq_true h5]; exact ⟨d, 12, rfl, ok, q⟩
      · rw [if_neg h5] at q; rw [decide_eq_false h5]; exact ⟨d, 40, rfl, ok, q⟩
    rw [if_neg h4] at q; rw [decide_eq_false h4]
    show (match decide ((⟨#[c]⟩ : Str) = ⟨#[118]⟩) with | true => _ | false => _)
    rw [chr_eq]
    by_cases h5 : c = 118
    · rw [if_pos h5] at q; rw [decide_eq_true h5]
      refine ⟨d, rfl, ok, ?_⟩
      unfold pValue at q
      cases hw : pWhole d with
      | true => rw [hw] at q; exact q
      | false => rw [hw] at q; exact ⟨d, 12, rfl, ok, q⟩
    rw [if_neg h5] at q; rw [decide_eq_false h5]
    show (match decide ((⟨#[c]⟩ : Str) = ⟨#[98]⟩) with | true => _ | false => _)
    rw [chr_eq]
    by_cases h6 : c = 98
    · rw [if_pos h6] at q; rw [decide_eq_true h6]
      refine ⟨ok.isi m (by decide), ?_⟩
      rw [isi_B ok]
      exact q
    rw [if_neg h6] at q; rw [decide_eq_false h6]
    show (match decide ((⟨#[c]⟩ : Str) = ⟨#[116]⟩) with | true => _ | false => _)
    rw [chr_eq]
    by_cases h7 : c = 116
    · rw [if_pos h7] at q; rw [decide_eq_true h7]
      refine ⟨ok.isi m (by decide), ?_⟩
      rw [isi_S ok]
      cases d with
      | str z =>
        refine ⟨by decide, rfl, rfl, ?_⟩
        have e := in_sorts z
        show E.rt (.bl (if false = true then !inD (.str z) (l_SORTS.map D.str) else inD (.str z) (l_SORTS.map D.str))) m
        rw [e]
        exact q
      | _ => exact q
    rw [if_neg h7] at q; rw [decide_eq_false h7]
    have hh : c = 104 ∨ c = 108 ∨ c = 105 := by
      obtain ⟨k, hk⟩ := hc
      unfold kinds at hk
      simp only [List.mem_cons, List.not_mem_nil, or_false, Prod.mk.injEq] at hk h1 h2 h3 h4
      omega
    rcases hh with rfl | rfl | rfl
    · rw [show List.lookup (⟨#[104]⟩ : Str) ([("h", sp__law_worded), ("l", sp__law_leveled), ("i", sp__law_inner)] : List (Str × DSp)) = some sp__law_worded from rfl]
      exact ⟨d, rfl, ok, q⟩
    · rw [show List.lookup (⟨#[108]⟩ : Str) ([("h", sp__law_worded), ("l", sp__law_leveled), ("i", sp__law_inner)] : List (Str × DSp)) = some sp__law_leveled from rfl]
      exact ⟨d, rfl, ok, q⟩
    · rw [show List.lookup (⟨#[105]⟩ : Str) ([("h", sp__law_worded), ("l", sp__law_leveled), ("i", sp__law_inner)] : List (Str × DSp)) = some sp__law_inner from rfl]
      exact ⟨d, rfl, ok, q⟩
  refine seq_in ?_
  generalize (dSeq g__law_part_is_4 (dSeq g__law_part_is_5 (dSeq g__law_part_is_6 (dSeq g__law_part_is_7 (dSeq g__law_part_is_8 (dSeq g__law_part_is_9 g__law_part_is_10)))))) = T at go ⊢
  simp only [g__law_part_is_3, dVar, dC, dOp, dB, dChain, dAndT, dOrT, dNotT, dAndV, dOrV, dNotV, dIf, dNeg, dNil, dCons, dTup, dLst, dLstM, dCB, g1, gIsi, gLen, gLen1, gRepr, gRepr1, gList1, gTuple1, gAll1, gOrd1, gStr1, gInt1, dMt, dMt0, gAppend, gExtend, gUpper, dNext, dSeq, dDrop, dRet, dRetF, dRetX, dRetN, dIfS, dSet, wSeq, wRng1, wRng2, gN, gP, dFor, dLc, dLcM, dYes, dPar, dAsg2, dCall, gI, gI0, gAdd2, gSub2, gAdd, gMul, gLt, gLe, gEq, gNe, gIsN, gNotN, gIn, gIx, gSl, dSl, dNoPart, dPart, dRev, gRev, gAddLM, gRepS, gLIndex, dKIndex, dFCells, dFInt, dFPut, dFeed, startD, wipeD, List.set_cons_zero, List.set_cons_succ, List.getElem?_cons_zero, List.getElem?_cons_succ, List.map_cons, List.map_nil, List.length_cons, List.length_nil, List.replicate, List.cons_append, List.nil_append, dInK, dIxK, wZip, dAsg3, dAsg5, gInS, dDisp, dDIn, dDGet, dCallF, gUpdate]
  refine ⟨c, rfl, ?_⟩
  rw [if_neg Bool.false_ne_true, show (Str.ofString "oa").cps.toList = [111, 97] from by decide +kernel]
  by_cases h2 : c ∈ ([111, 97] : List Nat)
  · rw [decide_eq_true h2]
    refine ⟨d, rfl, ok, ?_⟩
    cases hk : pKey d with
    | true => rw [if_pos ⟨h2, hk⟩] at q; exact q
    | false =>
      rw [if_neg (fun z => by rw [hk] at z; exact Bool.noConfusion z.2)] at q
      exact go q
  · rw [decide_eq_false h2]
    rw [if_neg (fun z => h2 z.1)] at q
    exact go q
theorem rd__law_part_is : ∀ ds m Q, sp__law_part_is ds m Q → b__law_part_is { nx := fun _ m' => Q .non m', rt := Q } (startD 2 ds) m := by
  rintro ds m Q ⟨c, k, d, rfl, hk, ok, q⟩
  rw [← lPart_eq hk] at q
  unfold lPart at q
  rw [eq__law_part_is]
  have go := fun q => part_rest (c := c) (d := d) (m := m) (E := { nx := fun _ m' => Q .non m', rt := Q }) ok ⟨k, hk⟩ q
  refine seq_in ?_
  generalize (dSeq g__law_part_is_2 (dSeq g__law_part_is_3 (dSeq g__law_part_is_4 (dSeq g__law_part_is_5 (dSeq g__law_part_is_6 (dSeq g__law_part_is_7 (dSeq g__law_part_is_8 (dSeq g__law_part_is_9 g__law_part_is_10)))))))) = T at go ⊢
  simp only [g__law_part_is_1, dVar, dC, dOp, dB, dChain, dAndT, dOrT, dNotT, dAndV, dOrV, dNotV, dIf, dNeg, dNil, dCons, dTup, dLst, dLstM, dCB, g1, gIsi, gLen, gLen1, gRepr, gRepr1, gList1, gTuple1, gAll1, gOrd1, gStr1, gInt1, dMt, dMt0, gAppend, gExtend, gUpper, dNext, dSeq, dDrop, dRet, dRetF, dRetX, dRetN, dIfS, dSet, wSeq, wRng1, wRng2, gN, gP, dFor, dLc, dLcM, dYes, dPar, dAsg2, dCall, gI, gI0, gAdd2, gSub2, gAdd, gMul, gLt, gLe, gEq, gNe, gIsN, gNotN, gIn, gIx, gSl, dSl, dNoPart, dPart, dRev, gRev, gAddLM, gRepS, gLIndex, dKIndex, dFCells, dFInt, dFPut, dFeed, startD, wipeD, List.set_cons_zero, List.set_cons_succ, List.getElem?_cons_zero, List.getElem?_cons_succ, List.map_cons, List.map_nil, List.length_cons, List.length_nil, List.replicate, List.cons_append, List.nil_append, dInK, dIxK, wZip, dAsg3, dAsg5, gInS, dDisp, dDIn, dDGet, dCallF, gUpdate]
  refine ⟨c, rfl, ?_⟩
  rw [if_neg Bool.false_ne_true, show (Str.ofString "Kna").cps.toList = [75, 110, 97] from by decide +kernel]
  by_cases h1 : c ∈ ([75, 110, 97] : List Nat)
  · rw [decide_eq_true h1]
    refine ⟨ok.noth, ?_⟩
    cases hn : isNon d with
    | true => rw [if_pos ⟨h1, hn⟩] at q; exact q
    | false =>
      rw [if_neg (fun z => by rw [hn] at z; exact Bool.noConfusion z.2)] at q
      exact go q
  · rw [decide_eq_false h1]
    rw [if_neg (fun z => h1 z.1)] at q
    exact go q

theorem rd__law_deeded : ∀ ds m Q, sp__law_deeded ds m Q → b__law_deeded { nx := fun _ m' => Q .non m', rt := Q } (startD 1 ds) m := by
  rintro ds m Q ⟨d, rfl, ok, q⟩
  simp only [b__law_deeded, dVar, dC, dOp, dB, dChain, dAndT, dOrT, dNotT, dAndV, dOrV, dNotV, dIf, dNeg, dNil, dCons, dTup, dLst, dLstM, dCB, g1, gIsi, gLen, gLen1, gRepr, gRepr1, gList1, gTuple1, gAll1, gOrd1, gStr1, gInt1, dMt, dMt0, gAppend, gExtend, gUpper, dNext, dSeq, dDrop, dRet, dRetF, dRetX, dRetN, dIfS, dSet, wSeq, wRng1, wRng2, gN, gP, dFor, dLc, dLcM, dYes, dPar, dAsg2, dCall, gI, gI0, gAdd2, gSub2, gAdd, gMul, gLt, gLe, gEq, gNe, gIsN, gNotN, gIn, gIx, gSl, dSl, dNoPart, dPart, dRev, gRev, gAddLM, gRepS, gLIndex, dKIndex, dFCells, dFInt, dFPut, dFeed, startD, wipeD, List.set_cons_zero, List.set_cons_succ, List.getElem?_cons_zero, List.getElem?_cons_succ, List.map_cons, List.map_nil, List.length_cons, List.length_nil, List.replicate, List.cons_append, List.nil_append, dInK, dIxK, wZip, dAsg3, dAsg5, gInS, dDisp, dDIn, dDGet, dCallF, gUpdate]
  refine ⟨ok.isi m (by decide), ?_⟩
  rw [isi_T ok]
  cases d with
  | tup xs =>
    match xs, ok, q with
    | [], ok, q => exact q
    | [_], ok, q => exact q
    | [_, _], ok, q => exact q
    | [_, _, _], ok, q => exact q
    | [_, _, _, _], ok, q => exact q
    | x :: y :: z :: u :: v :: w :: r, ok, q =>
      have h2 : decide ((((x :: y :: z :: u :: v :: w :: r).length : Nat) : Int) = 5) = false := decide_eq_false (by simp only [List.length_cons]; omega)
      simp only [isT, sq, h2]
      exact q
    | [h, n, c, k, w], ok, q =>
      simp only [pDeed] at q
      have o1 : okD h := ok.mem (by simp)
      have o2 : okD n := ok.mem (by simp)
      have o3 : okD c := ok.mem (by simp)
      have o4 : okD k := ok.mem (by simp)
      have o5 : okD w := ok.mem (by simp)
      have a0 : atI [h, n, c, k, w] 0 = some h := atI_nat (j := 0) rfl
      have a1 : atI [h, n, c, k, w] 1 = some n := atI_nat (j := 1) rfl
      have a2 : atI [h, n, c, k, w] 2 = some c := atI_nat (j := 2) rfl
      have a3 : atI [h, n, c, k, w] 3 = some k := atI_nat (j := 3) rfl
      have a4 : atI [h, n, c, k, w] 4 = some w := atI_nat (j := 4) rfl
      have hl : decide ((([h, n, c, k, w].length : Nat) : Int) = 5) = true := decide_eq_true rfl
      simp only [isT, sq, hl, a0, a1, a2, a3, a4, Bool.not_true, Bool.not_false]
      refine ⟨h, rfl, o1, ?_⟩
      cases h1 : pWord h with
      | false => simp only [h1, Bool.false_and] at q; exact q
      | true =>
        refine ⟨n, rfl, o2, ?_⟩
        cases h2 : pNumber n with
        | false => simp only [h1, h2, Bool.false_and, Bool.true_and] at q; exact q
        | true =>
          refine ⟨c, rfl, o3, ?_⟩
          cases h3 : pNumber c with
          | false => simp only [h1, h2, h3, Bool.false_and, Bool.true_and] at q; exact q
          | true =>
            refine ⟨k, rfl, o4, ?_⟩
            cases h4 : pVersion k with
            | false => simp only [h1, h2, h3, h4, Bool.false_and, Bool.true_and] at q; exact q
            | true =>
              simp only [h1, h2, h3, h4, Bool.true_and] at q
              exact ⟨w, rfl, o5, q⟩
  | _ => exact q
/-! ### a WHAT, as the law itself looks at it -/
def kindC (c : Nat) : Option Str := kinds.lookup c
theorem kindC_mem {c : Nat} {k : Str} (h : kindC c = some k) : (c, k) ∈ kinds := by
  unfold kindC at h
  generalize kinds = l at h ⊢
  induction l with
  | nil => cases h
  | cons p l ih =>
    rw [List.lookup_cons] at h
    cases hk : c == p.1 with
    | true => rw [hk] at h; cases h; rw [eq_of_beq hk]; exact List.mem_cons_self
    | false => rw [hk] at h; exact List.mem_cons_of_mem _ (ih h)
theorem rows_forms : T_ROWS.all (fun p => match T_FORMS.lookup p.1 with
    | some ks => decide (p.2.cps.toList.map kindC = ks.map some) && decide (p.2.length ≤ 10)
    | none => false) = true := by decide +kernel
theorem rows_keys : T_ROWS.map (·.1) = T_FORMS.map (·.1) := by decide +kernel
theorem lookup_none {β γ : Type} {z : Str} : ∀ {l : List (Str × β)} {l' : List (Str × γ)}, l.map (·.1) = l'.map (·.1) → l.lookup z = none → l'.lookup z = none
  | [], [], _, _ => rfl
  | [], _ :: _, h, _ => by cases h
  | _ :: _, [], h, _ => by cases h
  | p :: l, p' :: l', h, e => by
    rw [List.map_cons, List.map_cons] at h
    injection h with h1 h2
    rw [List.lookup_cons] at e ⊢
    rw [← h1]
    cases hk : z == p.1 with
    | true => rw [hk] at e; cases e
    | false => rw [hk] at e; exact lookup_none h2 e
theorem rows_at {z s : Str} (h : T_ROWS.lookup z = some s) : ∃ ks, T_FORMS.lookup z = some ks ∧ s.cps.toList.map kindC = ks.map some ∧ s.length ≤ 10 := by
  have := List.all_eq_true.mp rows_forms _ (lookup_mem h)
  simp only at this
  cases hf : T_FORMS.lookup z with
  | none => rw [hf] at this; cases this
  | some ks =>
    rw [hf] at this
    have t2 := Bool.and_eq_true_iff.mp this
    exact ⟨ks, rfl, of_decide_eq_true t2.1, of_decide_eq_true t2.2⟩
theorem rng_none {n : Nat} (b : Nat → Bool) : (((rngD 0 n).filter fun d => match d with
    | .int i => !b i.toNat
    | _ => true).map id) = (((List.range n).filter fun k => !b k).map fun k => (0 : Int) + (k : Nat)).map D.int := by
  unfold rngD
  rw [List.map_id, List.filter_map, List.map_map]
  have e : ((fun d => match d with
    | .int i => !b i.toNat
    | _ => true) ∘ fun k : Nat => D.int (0 + (k : Int))) = fun k : Nat => !b k := by
    funext k
    show (!b ((0 : Int) + (k : Int)).toNat) = _
    rw [show ((0 : Int) + (k : Int)).toNat = k by omega]
  rw [e]
  rfl
theorem range_all (n : Nat) (b : Nat → Bool) : ((((List.range n).filter fun k => !b k).map fun k => (0 : Int) + (k : Nat)).map D.int).isEmpty = (List.range n).all b := by
  rw [List.map_map]
  have := filter_none b (D.int ∘ fun k : Nat => (0 : Int) + (k : Nat)) (List.range n)
  exact this
theorem zip_all {α β : Type} (f : α → β → Bool) (a : List α) (b : List β) (h : b.length = a.length) (g : Nat → Bool) (hg : ∀ k x y, a[k]? = some x → b[k]? = some y → g k = f x y) : (List.range a.length).all g = (List.zipWith f a b).all id := by
  rw [Bool.eq_iff_iff, List.all_eq_true, List.all_eq_true]
  constructor
  · intro h1 x hx
    obtain ⟨k, hk⟩ := List.getElem?_of_mem hx
    rw [List.getElem?_zipWith] at hk
    cases ha : a[k]? with
    | none => rw [ha] at hk; cases hk
    | some u =>
      cases hb : b[k]? with
      | none => rw [ha, hb] at hk; cases hk
      | some v =>
        rw [ha, hb] at hk
        cases hk
        have hk2 := (List.getElem?_eq_some_iff.mp ha).1
        have := h1 k (List.mem_range.mpr hk2)
        rw [hg k u v ha hb] at this
        exact this
  · intro h1 k hk
    have hk := List.mem_range.mp hk
    have ha : a[k]? = some a[k] := List.getElem?_eq_getElem hk
    have hb : b[k]? = some (b[k]'(by omega)) := List.getElem?_eq_getElem (by omega)
    rw [hg k _ _ ha hb]
    refine h1 _ (List.mem_of_getElem? (i := k) ?_)
    rw [List.getElem?_zipWith, ha, hb]
theorem eqv_tn (xs : List D) : PyData.eqv (D.tup xs).py (D.tup []).py = xs.isEmpty := by
  cases xs with
  | nil => decide +kernel
  | cons x r => simp [D.py, pys, PyData.eqv, PyData.eqvAll]
/-- the last four statements, the table known -/
theorem whatted_rest {d : D} {m m' : Mu} {E : DEnds} {p : Addr} (ok : okD d) (hp : m' p = some (.dK (kvS T_ROWS))) (le : Less m' m) (q : E.rt (.bl (pWhat d)) m) :
    dSeq g__law_whatted_5 (dSeq g__law_whatted_6 (dSeq g__law_whatted_7 (dSeq g__law_whatted_8 g__law_whatted_9))) E [some d, some (.ref p), none, none] m' := by
  simp only [g__law_whatted_5, g__law_whatted_6, g__law_whatted_7, g__law_whatted_8, g__law_whatted_9, dVar, dC, dOp, dB, dChain, dAndT, dOrT, dNotT, dAndV, dOrV, dNotV, dIf, dNeg, dNil, dCons, dTup, dLst, dLstM, dCB, g1, gIsi, gLen, gLen1, gRepr, gRepr1, gList1, gTuple1, gAll1, gOrd1, gStr1, gInt1, dMt, dMt0, gAppend, gExtend, gUpper, dNext, dSeq, dDrop, dRet, dRetF, dRetX, dRetN, dIfS, dSet, wSeq, wRng1, wRng2, gN, gP, dFor, dLc, dLcM, dYes, dPar, dAsg2, dCall, gI, gI0, gAdd2, gSub2, gAdd, gMul, gLt, gLe, gEq, gNe, gIsN, gNotN, gIn, gIx, gSl, dSl, dNoPart, dPart, dRev, gRev, gAddLM, gRepS, gLIndex, dKIndex, dFCells, dFInt, dFPut, dFeed, startD, wipeD, List.set_cons_zero, List.set_cons_succ, List.getElem?_cons_zero, List.getElem?_cons_succ, List.map_cons, List.map_nil, List.length_cons, List.length_nil, List.replicate, List.cons_append, List.nil_append, dInK, dIxK, wZip, dAsg3, dAsg5, gInS, dDisp, dDIn, dDGet, dCallF, gUpdate]
  refine ⟨ok.isi m' (by decide), ?_⟩
  rw [isi_T ok]
  have q : E.rt (.bl (pTagged T_FORMS pInner d)) m := q
  cases d with
  | tup xs =>
    simp only [isT, Bool.not_true]
    refine ⟨by decide, ok.fit, ⟨rfl, by decide⟩, ?_⟩
    rw [eqv_tn]
    cases xs with
    | nil => exact ⟨m, le, q⟩
    | cons x r =>
      have okx := ok.mem (List.mem_cons_self (a := x) (l := r))
      simp only [List.isEmpty_cons, sq, at0]
      refine ⟨okx.isi m' (by decide), ?_⟩
      rw [isi_S okx]
      cases x with
      | str z =>
        simp only [isS, Bool.not_true]
        refine ⟨T_ROWS, hp, ?_⟩
        rw [if_pos trivial]
        simp only [pTagged] at q
        cases hz : T_ROWS.lookup z with
        | none =>
          rw [lookup_none rows_keys hz] at q
          exact ⟨m, le, q⟩
        | some s =>
          obtain ⟨ks, hf, hk, h10⟩ := rows_at hz
          rw [hf] at q
          simp only [Option.isSome_some, Bool.not_true]
          refine ⟨T_ROWS, s, hp, hz, ?_⟩
          have hsl : s.length = ks.length := by
            have := congrArg List.length hk
            rw [List.length_map, List.length_map] at this
            simpa [Str.length] using this
          have hs : s.length ≤ sizeLine := by rw [sizeLine_eq]; omega
          refine ⟨hs, ?_⟩
          unfold pFitG at q
          have q : E.rt (.bl (decide (r.length = ks.length) && (List.zipWith (pFitsG pInner) ks r).all id)) m := q
          by_cases hl : r.length = ks.length
          · have h2 : decide ((((D.str z :: r).length : Nat) : Int) = (s.length : Int) + 1) = true := decide_eq_true (by rw [List.length_cons]; omega)
            rw [h2]
            rw [decide_eq_true hl, Bool.true_and] at q
            simp only [Bool.not_true]
            refine ⟨hs, ⟨by omega, by omega⟩, fun p2 hp2 => ?_⟩
            let g : Nat → Bool := fun k => match ks[k]?, r[k]? with
              | some k', some d' => pFitsG pInner k' d'
              | _, _ => true
            have hn : ((s.length : Nat) : Int).toNat = s.length := by omega
            rw [hn]
            refine lcD_filter (fun d => match d with
              | .int i => !g i.toNat
              | _ => true) id (fun _ => trivial) _ _ (fun y hy acc R rr => ?_) (fun y hy hb acc R rr => rr) (by simp only [List.length_nil, rngD, List.length_map, List.length_range]; rw [sizeLine_eq]; omega) ?_
            · obtain ⟨k, hk2, rfl⟩ := List.mem_map.mp hy
              have hk2 := List.mem_range.mp hk2
              have hka : k < ks.length := by omega
              have e1 : ((0 : Int) + (k : Int)).toNat = k := by omega
              simp only [e1] at rr
              have hs1 : k < s.cps.toList.length := by rw [Array.length_toList]; exact hk2
              have c1 : s.cps.toList[k]? = some s.cps.toList[k] := List.getElem?_eq_getElem hs1
              have k1 : ks[k]? = some ks[k] := List.getElem?_eq_getElem hka
              have r1 : r[k]? = some (r[k]'(by omega)) := List.getElem?_eq_getElem (by omega)
              have hc : kindC s.cps.toList[k] = some ks[k] := by
                have := congrArg (fun l => l[k]?) hk
                simp only [List.getElem?_map, c1, k1, Option.map_some] at this
                exact Option.some.inj this
              simp only [dVar, dC, dOp, dB, dChain, dAndT, dOrT, dNotT, dAndV, dOrV, dNotV, dIf, dNeg, dNil, dCons, dTup, dLst, dLstM, dCB, g1, gIsi, gLen, gLen1, gRepr, gRepr1, gList1, gTuple1, gAll1, gOrd1, gStr1, gInt1, dMt, dMt0, gAppend, gExtend, gUpper, dNext, dSeq, dDrop, dRet, dRetF, dRetX, dRetN, dIfS, dSet, wSeq, wRng1, wRng2, gN, gP, dFor, dLc, dLcM, dYes, dPar, dAsg2, dCall, gI, gI0, gAdd2, gSub2, gAdd, gMul, gLt, gLe, gEq, gNe, gIsN, gNotN, gIn, gIx, gSl, dSl, dNoPart, dPart, dRev, gRev, gAddLM, gRepS, gLIndex, dKIndex, dFCells, dFInt, dFPut, dFeed, startD, wipeD, List.set_cons_zero, List.set_cons_succ, List.getElem?_cons_zero, List.getElem?_cons_succ, List.map_cons, List.map_nil, List.length_cons, List.length_nil, List.replicate, List.cons_append, List.nil_append, dInK, dIxK, wZip, dAsg3, dAsg5, gInS, dDisp, dDIn, dDGet, dCallF, gUpdate, sq]
              refine ⟨hs, ?_⟩
              have a1 : atI s.cps.toList (0 + (k : Int)) = some s.cps.toList[k] := by
                rw [show (0 : Int) + (k : Int) = ((k : Nat) : Int) by omega]
                exact atI_nat c1
              have a2 : atI (D.str z :: r) (0 + (k : Int) + 1) = some (r[k]'(by omega)) := by
                rw [show (0 : Int) + (k : Int) + 1 = ((k + 1 : Nat) : Int) by omega]
                exact atI_nat (by rw [List.getElem?_cons_succ]; exact r1)
              simp only [a1, a2]
              refine ⟨_, ks[k], _, rfl, kindC_mem hc, ok.mem (List.mem_cons_of_mem _ (List.getElem_mem _)), ?_⟩
              have e2 : g k = pFitsG pInner ks[k] (r[k]'(by omega)) := by
                show (match ks[k]?, r[k]? with
                  | some k', some d' => pFitsG pInner k' d'
                  | _, _ => true) = _
                rw [k1, r1]
              rw [e2] at rr
              exact rr
            · rw [List.nil_append, rng_none]
              refine ⟨by decide, fit_ints _, fit_nil, m, le, ?_⟩
              rw [eqv_nil, range_all, hsl, zip_all (pFitsG pInner) ks r hl g (fun k x y hx hy => by
                show (match ks[k]?, r[k]? with
                  | some k', some d' => pFitsG pInner k' d'
                  | _, _ => true) = _
                rw [hx, hy])]
              exact q
          · have h2 : decide ((((D.str z :: r).length : Nat) : Int) = (s.length : Int) + 1) = false := decide_eq_false (by rw [List.length_cons]; omega)
            rw [h2]
            rw [decide_eq_false hl, Bool.false_and] at q
            exact ⟨m, le, q⟩
      | _ => exact ⟨m, le, q⟩
  | _ => exact ⟨m, le, q⟩

theorem upd_piece {A B : List (Str × Str)} {D : DEnds} {m m' : Mu} {p : Addr} {d : DL.D} {x y : Option DL.D} (hp0 : m p = none) (hp : m' p = some (.dK (kvS A))) (le : Less m' m) (nd : ((A ++ B).map (·.1)).Nodup) (hl : A.length + B.length ≤ 100)
    (nx : ∀ m'', m'' p = some (.dK (kvS (A ++ B))) → Less m'' m → D.nx [some d, some (.ref p), x, y] m'') : (dDrop (dMt okD' gUpdate (dVar 1) (dCons (dDisp B) dNil))) D [some d, some (.ref p), x, y] m' := by
  simp only [dVar, dC, dOp, dB, dChain, dAndT, dOrT, dNotT, dAndV, dOrV, dNotV, dIf, dNeg, dNil, dCons, dTup, dLst, dLstM, dCB, g1, gIsi, gLen, gLen1, gRepr, gRepr1, gList1, gTuple1, gAll1, gOrd1, gStr1, gInt1, dMt, dMt0, gAppend, gExtend, gUpper, dNext, dSeq, dDrop, dRet, dRetF, dRetX, dRetN, dIfS, dSet, wSeq, wRng1, wRng2, gN, gP, dFor, dLc, dLcM, dYes, dPar, dAsg2, dCall, gI, gI0, gAdd2, gSub2, gAdd, gMul, gLt, gLe, gEq, gNe, gIsN, gNotN, gIn, gIx, gSl, dSl, dNoPart, dPart, dRev, gRev, gAddLM, gRepS, gLIndex, dKIndex, dFCells, dFInt, dFPut, dFeed, startD, wipeD, List.set_cons_zero, List.set_cons_succ, List.getElem?_cons_zero, List.getElem?_cons_succ, List.map_cons, List.map_nil, List.length_cons, List.length_nil, List.replicate, List.cons_append, List.nil_append, dInK, dIxK, wZip, dAsg3, dAsg5, gInS, dDisp, dDIn, dDGet, dCallF, gUpdate]
  refine ⟨⟨p, A, rfl, hp⟩, fun p2 hp2 => ?_⟩
  have hne : p ≠ p2 := fun e => by rw [e, hp2] at hp; cases hp
  refine ⟨hne, A, B, by rw [mset_ne hne]; exact hp, mset_same, nd, by rw [sizeLine_eq]; omega, ?_⟩
  refine nx _ mset_same fun a => ?_
  by_cases h1 : a = p
  · exact .inr (by rw [h1]; exact hp0)
  · rw [mset_ne h1]
    by_cases h2 : a = p2
    · rw [h2]
      rcases le p2 with e | e
      · exact .inr (by rw [e]; exact hp2)
      · exact .inr e
    · rw [mset_ne h2]
      exact le a
theorem rd__law_whatted : ∀ ds m Q, sp__law_whatted ds m Q → b__law_whatted { nx := fun _ m' => Q .non m', rt := Q } (startD 4 ds) m := by
  rintro ds m Q ⟨d, rfl, ok, q⟩
  rw [eq__law_whatted]
  have go := fun p m' hp le => whatted_rest (d := d) (m := m) (m' := m') (p := p) (E := { nx := fun _ m' => Q .non m', rt := Q }) ok hp le q
  refine seq_in ?_
  intro p hp0
  refine seq_in ?_
  refine upd_piece hp0 mset_same (Less.mset hp0) (by decide +kernel) (by decide) fun m2 h2 l2 => ?_
  refine seq_in ?_
  refine upd_piece hp0 h2 l2 (by decide +kernel) (by decide) fun m3 h3 l3 => ?_
  refine seq_in ?_
  refine upd_piece hp0 h3 l3 (by decide +kernel) (by decide) fun m4 h4 l4 => ?_
  exact go p m4 h4 l4
end K02

set_option Elab.async false
set_option linter.all false
set_option maxRecDepth 100000
set_option maxHeartbeats 4000000
namespace K02
open PySem PySem.Spec PyProof.Rows L2 DL K01
theorem lcD_any {P : D → Prop} {still : Mu → Prop} {i : Nat} {tt : DTT} {te : DTE} {e : Ev} {m : Mu} {p : Addr} {Q : List D → Prop} {ds0 : List D} {L : Nat}
    (hs : ∀ acc, still (mset m p (.lst acc)))
    (ht : ∀ d ∈ ds0, ∀ acc (R : Bool → Mu → Prop), (∀ b, R b (mset m p (.lst acc))) → tt (e.set i (some d)) (mset m p (.lst acc)) R)
    (he : ∀ d ∈ ds0, ∀ acc (R : DK), (∀ y, P y → R y (mset m p (.lst acc))) → te (e.set i (some d)) (mset m p (.lst acc)) R)
    (hL : L ≤ sizeLine) (q : ∀ ys, (∀ y ∈ ys, P y) → ys.length ≤ L → Q ys) : ∀ (ds acc : List D), (∀ d ∈ ds, d ∈ ds0) → (∀ y ∈ acc, P y) → acc.length + ds.length ≤ L → lcD still (gN i) tt te e m p Q ds acc
  | [], acc, _, ha, hl => ⟨hs acc, q acc ha (by simpa using hl)⟩
  | d :: r, acc, hd, ha, hl => by
    rw [List.length_cons] at hl
    refine ⟨hs acc, rfl, ht d (hd d List.mem_cons_self) acc _ fun b => ⟨rfl, ?_⟩⟩
    cases b with
    | true =>
      refine he d (hd d List.mem_cons_self) acc _ fun y hy => ⟨rfl, by omega, lcD_any hs ht he hL q r _ (fun x hx => hd x (List.mem_cons_of_mem _ hx)) (fun x hx => ?_) (by rw [List.length_append, List.length_singleton]; omega)⟩
      rcases List.mem_append.mp hx with hx | hx
      · exact ha x hx
      · rw [List.mem_singleton.mp hx]; exact hy
    | false => exact lcD_any hs ht he hL q r _ (fun x hx => hd x (List.mem_cons_of_mem _ hx)) ha (by omega)
theorem szs_le {s : Nat} : ∀ {ds : List D}, (∀ d ∈ ds, sz d ≤ s) → szs ds ≤ ds.length * s
  | [], _ => Nat.zero_le _
  | d :: ds, h => by
    have h1 := h d List.mem_cons_self
    have h2 := szs_le (ds := ds) fun x hx => h x (List.mem_cons_of_mem _ hx)
    simp only [szs, List.length_cons, Nat.add_mul, Nat.one_mul]
    omega
/-- a row of things that are drawn -/
structure Good (c s : Nat) (L : List D) : Prop where
  all : ∀ d ∈ L, okT (huge + 2) 2000 12 d
  few : L.length ≤ c
  sum : szs L ≤ s
theorem Good.app {c s c' s' : Nat} {L L' : List D} (h : Good c s L) (h' : Good c' s' L') : Good (c + c') (s + s') (L ++ L') :=
  ⟨fun d hd => (List.mem_append.mp hd).elim (h.all d) (h'.all d), by rw [List.length_append]; exact Nat.add_le_add h.few h'.few, by rw [szs_app]; exact Nat.add_le_add h.sum h'.sum⟩
theorem Good.mono {c s c' s' : Nat} {L : List D} (h : Good c s L) (hc : c ≤ c') (hs : s ≤ s') : Good c' s' L := ⟨h.all, Nat.le_trans h.few hc, Nat.le_trans h.sum hs⟩
def goodB (c s : Nat) (L : List D) : Bool := L.all (okTb (huge + 2) 2000 12) && decide (L.length ≤ c) && decide (szs L ≤ s)
theorem Good.of {c s : Nat} {L : List D} (h : goodB c s L = true) : Good c s L := by
  unfold goodB at h
  rw [Bool.and_eq_true, Bool.and_eq_true, decide_eq_true_eq, decide_eq_true_eq] at h
  exact ⟨fun d hd => okT_of (List.all_eq_true.mp h.1.1 d hd), h.1.2, h.2⟩
theorem rng_mem {n : Nat} {d : D} (h : d ∈ rngD 0 n) : ∃ i : Int, 0 ≤ i ∧ i < n ∧ d = .int i := by
  unfold rngD at h
  obtain ⟨k, hk, rfl⟩ := List.mem_map.mp h
  have := List.mem_range.mp hk
  exact ⟨_, by omega, by omega, rfl⟩
theorem huge_big : 1000 ≤ huge := by decide +kernel
theorem forD_by {still : Mu → Prop} {g : DTG} {tb : DTS} {E : DEnds} {ds0 : List D} (I : Nat → Ev → Mu → Prop) (hs : ∀ i e m, I i e m → still m)
    (step : ∀ i d e m (K : Ev → Mu → Prop), d ∈ ds0 → i < ds0.length → I i e m → (∀ e m, I (i + 1) e m → K e m) → g d e m fun e' m' => tb { E with nx := K, ct := K, bk := E.nx } e' m')
    (fin : ∀ e m, I ds0.length e m → E.nx e m) : ∀ (ds : List D) (i : Nat) (e : Ev) (m : Mu), i + ds.length = ds0.length → (∀ d ∈ ds, d ∈ ds0) → I i e m → forD still g tb E ds e m
  | [], i, e, m, hi, _, h => ⟨hs i e m h, fin e m (by rw [← hi]; exact h)⟩
  | d :: r, i, e, m, hi, hd, h => by
    refine ⟨hs i e m h, step i d e m _ (hd d List.mem_cons_self) (by rw [List.length_cons] at hi; omega) h fun e' m' h' => ?_⟩
    exact forD_by I hs step fin r (i + 1) e' m' (by rw [List.length_cons] at hi; omega) (fun x hx => hd x (List.mem_cons_of_mem _ hx)) h'
theorem ok_num {n k : Nat} {i : Int} (h : i.natAbs ≤ 1000) (hn : 1 ≤ n) : okT huge n k (.int i) := ⟨by simp only [asc, decide_eq_true_eq]; have := huge_big; omega, by simp only [sz]; omega, Nat.zero_le _⟩
theorem ok_pair {n n' k : Nat} {a b : D} (ha : okT huge n k a) (hb : okT huge n' k b) : okT huge (n + n' + 1) (k + 1) (.tup [a, b]) := by
  refine okT_tup (fun d hd => ?_) (by have h1 := ha.s; have h2 := hb.s; simp only [szs]; omega) (fun d hd => ?_)
  · rcases List.mem_cons.mp hd with rfl | hd
    · exact ha.a
    · rw [List.mem_singleton.mp hd]; exact hb.a
  · rcases List.mem_cons.mp hd with rfl | hd
    · exact ha.k
    · rw [List.mem_singleton.mp hd]; exact hb.k
theorem ok_row {n k c : Nat} {ds : List D} (h : ∀ d ∈ ds, okT huge n k d) (hl : ds.length ≤ c) : okT huge (c * n + 1) (k + 1) (.tup ds) := by
  refine okT_tup (fun d hd => (h d hd).a) ?_ (fun d hd => (h d hd).k)
  have := szs_le fun d hd => (h d hd).s
  have := Nat.mul_le_mul_right n hl
  omega
mutual
theorem asc_show {b : Nat} (hb : b ≤ huge + 1000) : ∀ d : D, asc b d = true → d.py.showable = true ∧ d.py.hasDict = false ∧ d.py.leavesShort 62 = true ∧ d.py.bulk + 1 ≤ 2 * sz d
  | .non, _ => by simp only [D.py, PyData.showable, PyData.hasDict, PyData.leavesShort, PyData.bulk, sz]; exact ⟨trivial, trivial, trivial, by decide⟩
  | .bl _, _ => by simp only [D.py, PyData.showable, PyData.hasDict, PyData.leavesShort, PyData.bulk, sz]; exact ⟨trivial, trivial, trivial, by decide⟩
  | .int i, h => by
    simp only [asc, decide_eq_true_eq] at h
    simp only [D.py, PyData.showable, PyData.hasDict, PyData.leavesShort, PyData.bulk, sz, PyData.shown, decide_eq_true_eq]
    exact ⟨log_small (by omega), trivial, decide_eq_true (text_small (i := i) (by omega)), by decide⟩
  | .str z, h => by
    have az := asc_str.mp h
    simp only [D.py, PyData.showable, PyData.hasDict, PyData.leavesShort, PyData.bulk, sz, List.all_eq_true, decide_eq_true_eq]
    exact ⟨trivial, trivial, fun c hc => Nat.lt_trans (az c hc) (by decide), (by show z.length + 1 ≤ _; omega)⟩
  | .tup ds, h => by
    obtain ⟨h1, h2, h3, h4⟩ := ascs_show hb ds h
    simp only [D.py, PyData.showable, PyData.hasDict, PyData.leavesShort, PyData.bulk, sz]
    exact ⟨h1, h2, h3, by omega⟩
  | .lst ds, h => by
    obtain ⟨h1, h2, h3, h4⟩ := ascs_show hb ds h
    simp only [D.py, PyData.showable, PyData.hasDict, PyData.leavesShort, PyData.bulk, sz]
    exact ⟨h1, h2, h3, by omega⟩
  | .ref _, h => by simp [asc] at h
  | .oth _, h => by simp [asc] at h
  | .scr _, h => by simp [asc] at h
theorem ascs_show {b : Nat} (hb : b ≤ huge + 1000) : ∀ ds : List D, ascs b ds = true → PyData.showableAll (pys ds) = true ∧ PyData.hasDictAll (pys ds) = false ∧ PyData.leavesShortAll 62 (pys ds) = true ∧ PyData.bulkAll (pys ds) ≤ 2 * szs ds
  | [], _ => by simp only [pys, PyData.showableAll, PyData.hasDictAll, PyData.leavesShortAll, PyData.bulkAll]; exact ⟨trivial, trivial, trivial, Nat.zero_le _⟩
  | d :: ds, h => by
    simp only [ascs, Bool.and_eq_true] at h
    obtain ⟨a1, a2, a3, a4⟩ := asc_show hb d h.1
    obtain ⟨b1, b2, b3, b4⟩ := ascs_show hb ds h.2
    have := sz_pos d
    simp only [pys, PyData.showableAll, PyData.hasDictAll, PyData.leavesShortAll, PyData.bulkAll, szs, a1, a2, a3, b1, b2, b3, Bool.and_self, Bool.or_self]
    exact ⟨trivial, trivial, trivial, by omega⟩
end
theorem _root_.K01.okT.show {b n k : Nat} {d : D} (h : okT b n k d) (hb : b ≤ huge + 1000) (hn : n ≤ 100000) (hk : k ≤ 60) : showP d.py := by
  obtain ⟨h1, h2, h3, h4⟩ := asc_show hb d h.a
  have h5 := PyData.shown_le_bulk 62 (by decide) d.py h3
  have h6 := h.s
  refine ⟨h1, h2, by rw [dp_py]; have := h.k; omega, ?_⟩
  have : (62 + 2) * d.py.bulk ≤ 64 * 200000 := Nat.mul_le_mul_left 64 (by omega)
  rw [sizeLine_eq]
  omega
def shL (L : List D) : Str := (PyData.list (pys L)).shown
theorem Good.show {c s : Nat} {L : List D} (g : Good c s L) (hs : s ≤ 90000) : pus L = true ∧ showP (.list (pys L)) := by
  have o : okT (huge + 2) 90001 13 (.lst L) := okT_lst (fun d hd => (g.all d hd).a) (by have := g.sum; omega) (fun d hd => (g.all d hd).k)
  exact ⟨ascs_pu L o.a, o.show (by omega) (by omega) (by omega)⟩
theorem repr_ref {m : Mu} {p : Addr} {L : List D} {Q : DK} {c s : Nat} (hp : m p = some (.lst L)) (g : Good c s L) (hs : s ≤ 90000) (q : Q (.str (shL L)) m) : gRepr1 (.ref p) m Q := by
  simp only [gRepr1, pyv, hp, (g.show hs).1, if_true]
  exact ⟨(g.show hs).2, q⟩
theorem repr_ok {m : Mu} {d : D} {Q : DK} {b n k : Nat} (h : okT b n k d) (hb : b ≤ huge + 1000) (hn : n ≤ 100000) (hk : k ≤ 60) (q : Q (.str d.py.shown) m) : gRepr1 d m Q := by
  unfold gRepr1
  have hp := asc_pu d h.a
  have e : pyv m d = some d.py := by
    cases d with
    | ref a => simp [D.pu] at hp
    | _ => simp only [pyv, hp, if_true]
  rw [e]
  exact ⟨h.show hb hn hk, q⟩

/-- what stands in the law's own rows -/
structure Base (c s : Nat) (L : List D) : Prop where
  all : ∀ d ∈ L, okT huge 70 5 d
  few : L.length ≤ c
  sum : szs L ≤ s
theorem Base.app {c s c' s' : Nat} {L L' : List D} (h : Base c s L) (h' : Base c' s' L') : Base (c + c') (s + s') (L ++ L') :=
  ⟨fun d hd => (List.mem_append.mp hd).elim (h.all d) (h'.all d), by rw [List.length_append]; exact Nat.add_le_add h.few h'.few, by rw [szs_app]; exact Nat.add_le_add h.sum h'.sum⟩
theorem Base.mono {c s c' s' : Nat} {L : List D} (h : Base c s L) (hc : c ≤ c') (hs : s ≤ s') : Base c' s' L := ⟨h.all, Nat.le_trans h.few hc, Nat.le_trans h.sum hs⟩
def baseB (c s : Nat) (L : List D) : Bool := L.all (okTb huge 70 5) && decide (L.length ≤ c) && decide (szs L ≤ s)
theorem Base.of {c s : Nat} {L : List D} (h : baseB c s L = true) : Base c s L := by
  unfold baseB at h
  rw [Bool.and_eq_true, Bool.and_eq_true, decide_eq_true_eq, decide_eq_true_eq] at h
  exact ⟨fun d hd => okT_of (List.all_eq_true.mp h.1.1 d hd), h.1.2, h.2⟩
theorem Base.good {c s : Nat} {L : List D} (h : Base c s L) : Good c s L := ⟨fun d hd => (h.all d hd).mono (by omega) (by decide) (by decide), h.few, h.sum⟩
def bT : D → Bool
  | .tup (_ :: _) => true
  | _ => false
def sp_madeT : DSp := fun ds m Q => ds = [] ∧ ∀ p L m', (∀ a o, m a = some o → m' a = some o) → m p = none → m' p = some (.lst L) → Base 110 3300 L → L.any bT = true → Q (.ref p) m'
theorem ar_madeT : ∀ ds m Q, sp_madeT ds m Q → ds.length = 0 := fun ds m Q ⟨e, _⟩ => by rw [e]; rfl
def sp_made : DSp := fun ds m Q => ds = [] ∧ ∀ p L m', (∀ a o, m a = some o → m' a = some o) → m p = none → m' p = some (.lst L) → Base 110 3300 L → Q (.ref p) m'
theorem ar_made : ∀ ds m Q, sp_made ds m Q → ds.length = 0 := fun ds m Q ⟨e, _⟩ => by rw [e]; rfl
theorem more {D : DEnds} {e : Ev} {m : Mu} {p : Addr} {L : List DL.D} {T : DTA} {c s c' s' : Nat} (i : Nat) (he : e[i]? = some (some (.ref p))) (hm : m p = some (.lst L)) (g : Base c s L) (hc : c + c' ≤ 5000) (hT : ∀ R, (∀ es, Base c' s' es → R es m) → T e m R)
    (nx : ∀ L', Base (c + c') (s + s') L' → (L.any bT = true → L'.any bT = true) → D.nx e (mset m p (.lst L'))) : dDrop (dMt okM gExtend (dVar i) (dCons (dLst T) dNil)) D e m := by
  simp only [dDrop, dMt, dVar, he, dCons, dLst, dNil, gExtend, mlv, hm, lv]
  refine ⟨by simp [okM, mlv, hm], hT _ fun es ge => ⟨by have := ge.few; rw [sizeLine_eq]; omega, ?_⟩⟩
  simp only [mlv, hm]
  have g1 := g.few
  have g2 := ge.few
  exact ⟨by rw [sizeLine_eq]; omega, nx _ (g.app ge) fun h => by rw [List.any_append, h, Bool.true_or]⟩
end K02

set_option Elab.async false
set_option linter.all false
set_option maxRecDepth 100000
set_option maxHeartbeats 4000000
namespace K02
open PySem PySem.Spec PyProof.Rows L2 DL K01
def sp__law_fixed : DSp := sp_madeT
def sp__law_others : DSp := sp_made
def b__law_fixed : DTS := (dSeq (dAsg3 0 1 2 (dTup (dCons (dTup (dCons (dC (.str "ann")) (dCons (dC (.int 0)) dNil))) (dCons (dTup (dCons (dC (.str "bo")) (dCons (dC (.int 3)) dNil))) (dCons (dTup (dCons (dTup (dCons (dC (.str "ann")) (dCons (dC (.int 1)) dNil))) (dCons (dC (.int 0)) dNil))) dNil)))))
      (dSeq (dSet 3 (dLstM (dCons (dTup (dCons (dC (.str "open")) (dCons (dC (.str "text")) dNil))) (dCons (dTup (dCons (dC (.str "open")) (dCons (dC (.str "rows")) dNil))) (dCons (dTup (dCons (dC (.str "open")) (dCons (dC (.str "tree")) dNil))) dNil)))))
      (dSeq (dDrop (dMt okM gExtend (dVar 3) (dCons (dLst (dCons (dTup (dCons (dC (.str "open")) (dCons (dC (.str "Text")) dNil))) (dCons (dTup (dCons (dC (.str "open")) dNil)) (dCons (dTup (dCons (dC (.str "open")) (dCons (dLst (dCons (dC (.str "text")) dNil)) dNil))) dNil)))) dNil)))
      (dSeq (dDrop (dMt okM gExtend (dVar 3) (dCons (dLst (dCons (dTup (dCons (dC (.str "give")) (dCons (dVar 0) (dCons (dC (.str "bo")) (dCons (dC (.str "see")) dNil))))) (dCons (dTup (dCons (dC (.str "give")) (dCons (dVar 0) (dCons (dC (.str "bo")) (dCons (dC (.str "read")) dNil))))) dNil))) dNil)))
      (dSeq (dDrop (dMt okM gExtend (dVar 3) (dCons (dLst (dCons (dTup (dCons (dC (.str "give")) (dCons (dVar 0) (dCons (dC (.str "Bo")) (dCons (dC (.str "see")) dNil))))) (dCons (dTup (dCons (dC (.str "give")) (dCons (dC .non) (dCons (dC (.str "bo")) (dCons (dC (.str "see")) dNil))))) dNil))) dNil)))
      (dSeq (dDrop (dMt okM gExtend (dVar 3) (dCons (dLst (dCons (dTup (dCons (dC (.str "put")) (dCons (dVar 0) (dCons (dC .non) (dCons (dC (.str "a")) dNil))))) (dCons (dTup (dCons (dC (.str "put")) (dCons (dVar 0) (dCons (dVar 2) (dCons (dOp gRepS (dC (.str "x")) (dC (.int 12))) dNil))))) dNil))) dNil)))
      (dSeq (dDrop (dMt okM gExtend (dVar 3) (dCons (dLst (dCons (dTup (dCons (dC (.str "put")) (dCons (dVar 0) (dCons (dVar 2) (dCons (dOp gRepS (dC (.str "x")) (dC (.int 13))) dNil))))) (dCons (dTup (dCons (dC (.str "put")) (dCons (dVar 0) (dCons (dVar 1) (dCons (dC (.str "a")) dNil))))) dNil))) dNil)))
      (dSeq (dDrop (dMt okM gExtend (dVar 3) (dCons (dLst (dCons (dTup (dCons (dC (.str "put")) (dCons (dVar 0) (dCons (dC .non) (dCons (dC (.str "")) dNil))))) (dCons (dTup (dCons (dC (.str "put")) (dCons (dVar 0) (dCons (dC .non) (dCons (dC (.int 7)) dNil))))) (dCons (dTup (dCons (dC (.str "cut")) (dCons (dVar 0) (dCons (dTup (dCons (dVar 2) dNil)) dNil)))) dNil)))) dNil)))
      (dSeq (dDrop (dMt okM gExtend (dVar 3) (dCons (dLst (dCons (dTup (dCons (dC (.str "cut")) (dCons (dVar 0) (dCons (dTup dNil) dNil)))) (dCons (dTup (dCons (dC (.str "cut")) (dCons (dVar 0) (dCons (dVar 2) dNil)))) dNil))) dNil)))
      (dSeq (dDrop (dMt okM gExtend (dVar 3) (dCons (dLst (dCons (dTup (dCons (dC (.str "cut")) (dCons (dVar 0) (dCons (dLst (dCons (dVar 2) dNil)) dNil)))) (dCons (dTup (dCons (dC (.str "cut")) (dCons (dVar 0) (dCons (dTup (dCons (dVar 2) (dCons (dVar 2) dNil))) dNil)))) (dCons (dTup (dCons (dC (.str "look")) (dCons (dVar 0) (dCons (dTup (dCons (dVar 2) dNil)) (dCons (dC (.str "bold")) (dCons (dC (.bl true)) dNil)))))) dNil)))) dNil)))
      (dSeq (dDrop (dMt okM gExtend (dVar 3) (dCons (dLst (dCons (dTup (dCons (dC (.str "look")) (dCons (dVar 0) (dCons (dTup (dCons (dVar 2) dNil)) (dCons (dC (.str "bold")) (dCons (dC (.int 1)) dNil)))))) (dCons (dTup (dCons (dC (.str "look")) (dCons (dVar 0) (dCons (dTup (dCons (dVar 2) dNil)) (dCons (dC (.str "Bold")) (dCons (dC (.bl true)) dNil)))))) dNil))) dNil)))
      (dSeq (dDrop (dMt okM gExtend (dVar 3) (dCons (dLst (dCons (dTup (dCons (dC (.str "look")) (dCons (dVar 0) (dCons (dTup (dCons (dVar 2) dNil)) (dCons (dC (.str "bold")) dNil))))) dNil)) dNil)))
      (dRet (dVar 3))))))))))))))
def g__law_fixed_1  : DTS := (dAsg3 0 1 2 (dTup (dCons (dTup (dCons (dC (.str "ann")) (dCons (dC (.int 0)) dNil))) (dCons (dTup (dCons (dC (.str "bo")) (dCons (dC (.int 3)) dNil))) (dCons (dTup (dCons (dTup (dCons (dC (.str "ann")) (dCons (dC (.int 1)) dNil))) (dCons (dC (.int 0)) dNil))) dNil)))))
def g__law_fixed_2  : DTS := (dSet 3 (dLstM (dCons (dTup (dCons (dC (.str "open")) (dCons (dC (.str "text")) dNil))) (dCons (dTup (dCons (dC (.str "open")) (dCons (dC (.str "rows")) dNil))) (dCons (dTup (dCons (dC (.str "open")) (dCons (dC (.str "tree")) dNil))) dNil)))))
def g__law_fixed_3  : DTS := (dDrop (dMt okM gExtend (dVar 3) (dCons (dLst (dCons (dTup (dCons (dC (.str "open")) (dCons (dC (.str "Text")) dNil))) (dCons (dTup (dCons (dC (.str "open")) dNil)) (dCons (dTup (dCons (dC (.str "open")) (dCons (dLst (dCons (dC (.str "text")) dNil)) dNil))) dNil)))) dNil)))
def g__law_fixed_4  : DTS := (dDrop (dMt okM gExtend (dVar 3) (dCons (dLst (dCons (dTup (dCons (dC (.str "give")) (dCons (dVar 0) (dCons (dC (.str "bo")) (dCons (dC (.str "see")) dNil))))) (dCons (dTup (dCons (dC (.str "give")) (dCons (dVar 0) (dCons (dC (.str "bo")) (dCons (dC (.str "read")) dNil))))) dNil))) dNil)))
def g__law_fixed_5  : DTS := (dDrop (dMt okM gExtend (dVar 3) (dCons (dLst (dCons (dTup (dCons (dC (.str "give")) (dCons (dVar 0) (dCons (dC (.str "Bo")) (dCons (dC (.str "see")) dNil))))) (dCons (dTup (dCons (dC (.str "give")) (dCons (dC .non) (dCons (dC (.str "bo")) (dCons (dC (.str "see")) dNil))))) dNil))) dNil)))
def g__law_fixed_6  : DTS := (dDrop (dMt okM gExtend (dVar 3) (dCons (dLst (dCons (dTup (dCons (dC (.str "put")) (dCons (dVar 0) (dCons (dC .non) (dCons (dC (.str "a")) dNil))))) (dCons (dTup (dCons (dC (.str "put")) (dCons (dVar 0) (dCons (dVar 2) (dCons (dOp gRepS (dC (.str "x")) (dC (.int 12))) dNil))))) dNil))) dNil)))
def g__law_fixed_7  : DTS := (dDrop (dMt okM gExtend (dVar 3) (dCons (dLst (dCons (dTup (dCons (dC (.str "put")) (dCons (dVar 0) (dCons (dVar 2) (dCons (dOp gRepS (dC (.str "x")) (dC (.int 13))) dNil))))) (dCons (dTup (dCons (dC (.str "put")) (dCons (dVar 0) (dCons (dVar 1) (dCons (dC (.str "a")) dNil))))) dNil))) dNil)))
def g__law_fixed_8  : DTS := (dDrop (dMt okM gExtend (dVar 3) (dCons (dLst (dCons (dTup (dCons (dC (.str "put")) (dCons (dVar 0) (dCons (dC .non) (dCons (dC (.str "")) dNil))))) (dCons (dTup (dCons (dC (.str "put")) (dCons (dVar 0) (dCons (dC .non) (dCons (dC (.int 7)) dNil))))) (dCons (dTup (dCons (dC (.str "cut")) (dCons (dVar 0) (dCons (dTup (dCons (dVar 2) dNil)) dNil)))) dNil)))) dNil)))
def g__law_fixed_9  : DTS := (dDrop (dMt okM gExtend (dVar 3) (dCons (dLst (dCons (dTup (dCons (dC (.str "cut")) (dCons (dVar 0) (dCons (dTup dNil) dNil)))) (dCons (dTup (dCons (dC (.str "cut")) (dCons (dVar 0) (dCons (dVar 2) dNil)))) dNil))) dNil)))
def g__law_fixed_10  : DTS := (dDrop (dMt okM gExtend (dVar 3) (dCons (dLst (dCons (dTup (dCons (dC (.str "cut")) (dCons (dVar 0) (dCons (dLst (dCons (dVar 2) dNil)) dNil)))) (dCons (dTup (dCons (dC (.str "cut")) (dCons (dVar 0) (dCons (dTup (dCons (dVar 2) (dCons (dVar 2) dNil))) dNil)))) (dCons (dTup (dCons (dC (.str "look")) (dCons (dVar 0) (dCons (dTup (dCons (dVar 2) dNil)) (dCons (dC (.str "bold")) (dCons (dC (.bl true)) dNil)))))) dNil)))) dNil)))
def g__law_fixed_11  : DTS := (dDrop (dMt okM gExtend (dVar 3) (dCons (dLst (dCons (dTup (dCons (dC (.str "look")) (dCons (dVar 0) (dCons (dTup (dCons (dVar 2) dNil)) (dCons (dC (.str "bold")) (dCons (dC (.int 1)) dNil)))))) (dCons (dTup (dCons (dC (.str "look")) (dCons (dVar 0) (dCons (dTup (dCons (dVar 2) dNil)) (dCons (dC (.str "Bold")) (dCons (dC (.bl true)) dNil)))))) dNil))) dNil)))
def g__law_fixed_12  : DTS := (dDrop (dMt okM gExtend (dVar 3) (dCons (dLst (dCons (dTup (dCons (dC (.str "look")) (dCons (dVar 0) (dCons (dTup (dCons (dVar 2) dNil)) (dCons (dC (.str "bold")) dNil))))) dNil)) dNil)))
def g__law_fixed_13  : DTS := (dRet (dVar 3))
theorem eq__law_fixed  : b__law_fixed  = (dSeq g__law_fixed_1 (dSeq g__law_fixed_2 (dSeq g__law_fixed_3 (dSeq g__law_fixed_4 (dSeq g__law_fixed_5 (dSeq g__law_fixed_6 (dSeq g__law_fixed_7 (dSeq g__law_fixed_8 (dSeq g__law_fixed_9 (dSeq g__law_fixed_10 (dSeq g__law_fixed_11 (dSeq g__law_fixed_12 g__law_fixed_13)))))))))))) := rfl
def b__law_others : DTS := (dSeq (dAsg3 0 1 2 (dTup (dCons (dTup (dCons (dC (.str "ann")) (dCons (dC (.int 0)) dNil))) (dCons (dTup (dCons (dC (.str "bo")) (dCons (dC (.int 3)) dNil))) (dCons (dTup (dCons (dTup (dCons (dC (.str "ann")) (dCons (dC (.int 1)) dNil))) (dCons (dC (.int 0)) dNil))) dNil)))))
      (dSeq (dSet 3 (dLstM dNil))
      (dSeq (dDrop (dMt okM gExtend (dVar 3) (dCons (dLst (dCons (dTup (dCons (dC (.str "row")) (dCons (dVar 0) dNil))) (dCons (dTup (dCons (dC (.str "row")) (dCons (dVar 0) (dCons (dC .non) dNil)))) (dCons (dTup (dCons (dC (.str "row")) (dCons (dVar 2) dNil))) dNil)))) dNil)))
      (dSeq (dDrop (dMt okM gExtend (dVar 3) (dCons (dLst (dCons (dTup (dCons (dC (.str "set")) (dCons (dVar 0) (dCons (dVar 1) (dCons (dC (.str "sum")) (dCons (dNeg (dC (.int 7))) dNil)))))) (dCons (dTup (dCons (dC (.str "set")) (dCons (dVar 0) (dCons (dVar 1) (dCons (dC (.str "sum")) (dCons (dC (.str "a b")) dNil)))))) dNil))) dNil)))
      (dSeq (dDrop (dMt okM gExtend (dVar 3) (dCons (dLst (dCons (dTup (dCons (dC (.str "set")) (dCons (dVar 0) (dCons (dVar 1) (dCons (dC (.str "sum")) (dCons (dC (.bl true)) dNil)))))) (dCons (dTup (dCons (dC (.str "set")) (dCons (dVar 0) (dCons (dVar 1) (dCons (dC (.str "sum")) (dCons (dC .non) dNil)))))) dNil))) dNil)))
      (dSeq (dDrop (dMt okM gExtend (dVar 3) (dCons (dLst (dCons (dTup (dCons (dC (.str "set")) (dCons (dVar 0) (dCons (dC .non) (dCons (dC (.str "sum")) (dCons (dC (.int 1)) dNil)))))) dNil)) dNil)))
      (dSeq (dDrop (dMt okM gExtend (dVar 3) (dCons (dLst (dCons (dTup (dCons (dC (.str "set")) (dCons (dVar 0) (dCons (dVar 1) (dCons (dC (.str "Sum")) (dCons (dC (.int 1)) dNil)))))) (dCons (dTup (dCons (dC (.str "drop")) (dCons (dVar 0) (dCons (dVar 1) dNil)))) dNil))) dNil)))
      (dSeq (dDrop (dMt okM gExtend (dVar 3) (dCons (dLst (dCons (dTup (dCons (dC (.str "drop")) (dCons (dVar 0) (dCons (dVar 2) dNil)))) (dCons (dTup (dCons (dC (.str "node")) (dCons (dVar 0) (dCons (dC .non) (dCons (dC (.str "a")) dNil))))) dNil))) dNil)))
      (dSeq (dDrop (dMt okM gExtend (dVar 3) (dCons (dLst (dCons (dTup (dCons (dC (.str "node")) (dCons (dVar 0) (dCons (dVar 1) (dCons (dC (.str "a")) dNil))))) (dCons (dTup (dCons (dC (.str "node")) (dCons (dVar 0) (dCons (dVar 2) (dCons (dC (.str "a")) dNil))))) dNil))) dNil)))
      (dSeq (dDrop (dMt okM gExtend (dVar 3) (dCons (dLst (dCons (dTup (dCons (dC (.str "node")) (dCons (dVar 0) (dCons (dC .non) (dCons (dC (.str "")) dNil))))) (dCons (dTup (dCons (dC (.str "move")) (dCons (dVar 0) (dCons (dVar 1) (dCons (dC .non) dNil))))) dNil))) dNil)))
      (dSeq (dDrop (dMt okM gExtend (dVar 3) (dCons (dLst (dCons (dTup (dCons (dC (.str "move")) (dCons (dVar 0) (dCons (dVar 1) (dCons (dVar 1) dNil))))) (dCons (dTup (dCons (dC (.str "move")) (dCons (dVar 0) (dCons (dC .non) (dCons (dVar 1) dNil))))) dNil))) dNil)))
      (dSeq (dDrop (dMt okM gExtend (dVar 3) (dCons (dLst (dCons (dTup (dCons (dC (.str "say")) (dCons (dVar 0) (dCons (dTup (dCons (dVar 2) dNil)) (dCons (dC (.str "why so")) dNil))))) (dCons (dTup (dCons (dC (.str "say")) (dCons (dVar 0) (dCons (dVar 1) (dCons (dOp gRepS (dC (.str "x")) (dC (.int 40))) dNil))))) dNil))) dNil)))
      (dSeq (dDrop (dMt okM gExtend (dVar 3) (dCons (dLst (dCons (dTup (dCons (dC (.str "say")) (dCons (dVar 0) (dCons (dVar 1) (dCons (dOp gRepS (dC (.str "x")) (dC (.int 41))) dNil))))) (dCons (dTup (dCons (dC (.str "say")) (dCons (dVar 0) (dCons (dVar 1) (dCons (dC (.str "")) dNil))))) dNil))) dNil)))
      (dSeq (dDrop (dMt okM gExtend (dVar 3) (dCons (dLst (dCons (dTup (dCons (dC (.str "say")) (dCons (dVar 0) (dCons (dC .non) (dCons (dC (.str "ok")) dNil))))) (dCons (dTup (dCons (dC (.str "say")) (dCons (dVar 0) (dCons (dVar 2) (dCons (dC (.str "ok")) dNil))))) dNil))) dNil)))
      (dSeq (dDrop (dMt okM gExtend (dVar 3) (dCons (dLst (dCons (dTup (dCons (dC (.str "close")) (dCons (dVar 0) (dCons (dVar 1) dNil)))) (dCons (dTup (dCons (dC (.str "close")) (dCons (dVar 0) (dCons (dC .non) dNil)))) dNil))) dNil)))
      (dSeq (dDrop (dMt okM gExtend (dVar 3) (dCons (dLst (dCons (dTup (dCons (dC (.str "suggest")) (dCons (dVar 0) (dCons (dTup (dCons (dC (.str "put")) (dCons (dC .non) (dCons (dC (.str "a")) dNil)))) dNil)))) (dCons (dTup (dCons (dC (.str "suggest")) (dCons (dVar 0) (dCons (dTup (dCons (dC (.str "cut")) (dCons (dTup (dCons (dVar 2) dNil)) dNil))) dNil)))) dNil))) dNil)))
      (dSeq (dDrop (dMt okM gExtend (dVar 3) (dCons (dLst (dCons (dTup (dCons (dC (.str "suggest")) (dCons (dVar 0) (dCons (dTup (dCons (dC (.str "put")) (dCons (dVar 0) (dCons (dC .non) (dCons (dC (.str "a")) dNil))))) dNil)))) (dCons (dTup (dCons (dC (.str "suggest")) (dCons (dVar 0) (dCons (dTup (dCons (dC (.str "look")) (dCons (dTup (dCons (dVar 2) dNil)) dNil))) dNil)))) dNil))) dNil)))
      (dSeq (dDrop (dMt okM gExtend (dVar 3) (dCons (dLst (dCons (dTup (dCons (dC (.str "suggest")) (dCons (dVar 0) (dCons (dC .non) dNil)))) dNil)) dNil)))
      (dSeq (dDrop (dMt okM gExtend (dVar 3) (dCons (dLst (dCons (dTup (dCons (dC (.str "suggest")) (dCons (dVar 0) (dCons (dTup (dCons (dC (.str "cut")) (dCons (dTup dNil) dNil))) dNil)))) (dCons (dTup (dCons (dC (.str "suggest")) (dCons (dVar 0) (dCons (dTup (dCons (dC (.str "put")) (dCons (dVar 2) (dCons (dOp gRepS (dC (.str "x")) (dC (.int 13))) dNil)))) dNil)))) dNil))) dNil)))
      (dSeq (dDrop (dMt okM gExtend (dVar 3) (dCons (dLst (dCons (dTup (dCons (dC (.str "take")) (dCons (dVar 0) (dCons (dVar 1) dNil)))) (dCons (dTup (dCons (dC (.str "refuse")) (dCons (dVar 0) (dCons (dVar 1) dNil)))) dNil))) dNil)))
      (dSeq (dDrop (dMt okM gExtend (dVar 3) (dCons (dLst (dCons (dTup (dCons (dC (.str "take")) (dCons (dVar 0) (dCons (dVar 2) dNil)))) (dCons (dTup (dCons (dC (.str "mark")) (dCons (dVar 0) (dCons (dC .non) dNil)))) (dCons (dTup (dCons (dC (.str "mark")) (dCons (dVar 0) (dCons (dVar 1) dNil)))) dNil)))) dNil)))
      (dSeq (dDrop (dMt okM gExtend (dVar 3) (dCons (dLst (dCons (dTup (dCons (dC (.str "mark")) (dCons (dVar 0) (dCons (dVar 2) dNil)))) (dCons (dTup (dCons (dC (.str "mark")) (dCons (dVar 0) (dCons (dTup (dCons (dVar 2) dNil)) dNil)))) dNil))) dNil)))
      (dSeq (dDrop (dMt okM gExtend (dVar 3) (dCons (dLst (dCons (dTup (dCons (dC (.str "undo")) (dCons (dVar 0) (dCons (dVar 1) dNil)))) (dCons (dTup (dCons (dC (.str "redo")) (dCons (dVar 0) (dCons (dVar 1) dNil)))) (dCons (dTup (dCons (dC (.str "undo")) (dCons (dVar 0) (dCons (dC .non) dNil)))) dNil)))) dNil)))
      (dSeq (dDrop (dMt okM gExtend (dVar 3) (dCons (dLst (dCons (dTup (dCons (dC (.str "undo")) (dCons (dVar 0) dNil))) (dCons (dTup (dCons (dC (.str "Undo")) (dCons (dVar 0) (dCons (dVar 1) dNil)))) (dCons (dTup (dCons (dC (.str "do")) (dCons (dVar 0) (dCons (dVar 1) dNil)))) dNil)))) dNil)))
      (dSeq (dSet 4 (dTup (dCons (dC (.str "row")) (dCons (dVar 0) dNil))))
      (dSeq (dDrop (dMt okM gExtend (dVar 3) (dCons (dLst (dCons (dTup (dCons (dC (.str "ann")) (dCons (dC (.int 0)) (dCons (dC (.int 0)) (dCons (dTup dNil) (dCons (dVar 4) dNil)))))) (dCons (dTup (dCons (dC (.str "ann")) (dCons (dC (.int 1)) (dCons (dC (.int 0)) (dCons (dTup (dCons (dTup (dCons (dC (.str "ann")) (dCons (dC (.int 1)) dNil))) dNil)) (dCons (dVar 4) dNil)))))) dNil))) dNil)))
      (dSeq (dDrop (dMt okM gExtend (dVar 3) (dCons (dLst (dCons (dTup (dCons (dC (.str "ann")) (dCons (dC (.int 0)) (dCons (dC (.int 0)) (dCons (dTup (dCons (dTup (dCons (dC (.str "ann")) (dCons (dC (.int 0)) dNil))) dNil)) (dCons (dVar 4) dNil)))))) (dCons (dTup (dCons (dC (.str "Ann")) (dCons (dC (.int 0)) (dCons (dC (.int 0)) (dCons (dTup dNil) (dCons (dVar 4) dNil)))))) dNil))) dNil)))
      (dSeq (dDrop (dMt okM gExtend (dVar 3) (dCons (dLst (dCons (dTup (dCons (dC (.str "ann")) (dCons (dNeg (dC (.int 1))) (dCons (dC (.int 0)) (dCons (dTup dNil) (dCons (dVar 4) dNil)))))) (dCons (dTup (dCons (dC (.str "ann")) (dCons (dC (.int 0)) (dCons (dC (.bl true)) (dCons (dTup dNil) (dCons (dVar 4) dNil)))))) dNil))) dNil)))
      (dSeq (dDrop (dMt okM gExtend (dVar 3) (dCons (dLst (dCons (dTup (dCons (dC (.str "ann")) (dCons (dC (.int 0)) (dCons (dC (.int 0)) (dCons (dLst dNil) (dCons (dVar 4) dNil)))))) (dCons (dTup (dCons (dC (.str "ann")) (dCons (dC (.int 0)) (dCons (dC (.int 0)) (dCons (dTup dNil) (dCons (dC .non) dNil)))))) dNil))) dNil)))
      (dSeq (dDrop (dMt okM gExtend (dVar 3) (dCons (dLst (dCons (dTup (dCons (dC (.str "ann")) (dCons (dC (.int 0)) (dCons (dC (.int 0)) (dCons (dTup dNil) dNil))))) (dCons (dLst (dCons (dC (.str "ann")) (dCons (dC (.int 0)) (dCons (dC (.int 0)) (dCons (dTup dNil) (dCons (dVar 4) dNil)))))) (dCons (dTup (dCons (dC (.str "ann")) (dCons (dC (.int 0)) (dCons (dC (.int 0)) (dCons (dTup dNil) (dCons (dVar 4) (dCons (dC (.int 0)) dNil))))))) dNil)))) dNil)))
      (dSeq (dDrop (dMt okM gExtend (dVar 3) (dCons (dLst (dCons (dTup (dCons (dVar 0) (dCons (dC (.int 0)) (dCons (dTup dNil) (dCons (dVar 4) dNil))))) (dCons (dTup (dCons (dVar 4) dNil)) dNil))) dNil)))
      (dSeq (dDrop (dMt okM gExtend (dVar 3) (dCons (dLst (dCons (dC .non) (dCons (dTup dNil) (dCons (dC (.int 0)) dNil)))) dNil)))
      (dSeq (dDrop (dMt okM gExtend (dVar 3) (dCons (dLst (dCons (dC (.str "")) (dCons (dLst dNil) dNil))) dNil)))
      (dRet (dOp gAddLM (dVar 3) (dLst (dCons (dC (.str "open")) (dCons (dTup (dCons (dC (.str "ann")) (dCons (dOp (gI CPow fun i j => .int (i ^ j.toNat)) (dC (.int 10)) (dC (.int 60))) (dCons (dOp (gI CPow fun i j => .int (i ^ j.toNat)) (dC (.int 10)) (dC (.int 60))) (dCons (dTup (dCons (dTup (dCons (dC (.str "zed")) (dCons (dOp (gI CPow fun i j => .int (i ^ j.toNat)) (dC (.int 10)) (dC (.int 60))) dNil))) dNil)) (dCons (dTup (dCons (dC (.str "mark")) (dCons (dVar 0) (dCons (dC .non) dNil)))) dNil)))))) dNil))))))))))))))))))))))))))))))))))))))
def g__law_others_1  : DTS := (dAsg3 0 1 2 (dTup (dCons (dTup (dCons (dC (.str "ann")) (dCons (dC (.int 0)) dNil))) (dCons (dTup (dCons (dC (.str "bo")) (dCons (dC (.int 3)) dNil))) (dCons (dTup (dCons (dTup (dCons (dC (.str "ann")) (dCons (dC (.int 1)) dNil))) (dCons (dC (.int 0)) dNil))) dNil)))))
def g__law_others_2  : DTS := (dSet 3 (dLstM dNil))
def g__law_others_3  : DTS := (dDrop (dMt okM gExtend (dVar 3) (dCons (dLst (dCons (dTup (dCons (dC (.str "row")) (dCons (dVar 0) dNil))) (dCons (dTup (dCons (dC (.str "row")) (dCons (dVar 0) (dCons (dC .non) dNil)))) (dCons (dTup (dCons (dC (.str "row")) (dCons (dVar 2) dNil))) dNil)))) dNil)))
def g__law_others_4  : DTS := (dDrop (dMt okM gExtend (dVar 3) (dCons (dLst (dCons (dTup (dCons (dC (.str "set")) (dCons (dVar 0) (dCons (dVar 1) (dCons (dC (.str "sum")) (dCons (dNeg (dC (.int 7))) dNil)))))) (dCons (dTup (dCons (dC (.str "set")) (dCons (dVar 0) (dCons (dVar 1) (dCons (dC (.str "sum")) (dCons (dC (.str "a b")) dNil)))))) dNil))) dNil)))
def g__law_others_5  : DTS := (dDrop (dMt okM gExtend (dVar 3) (dCons (dLst (dCons (dTup (dCons (dC (.str "set")) (dCons (dVar 0) (dCons (dVar 1) (dCons (dC (.str "sum")) (dCons (dC (.bl true)) dNil)))))) (dCons (dTup (dCons (dC (.str "set")) (dCons (dVar 0) (dCons (dVar 1) (dCons (dC (.str "sum")) (dCons (dC .non) dNil)))))) dNil))) dNil)))
def g__law_others_6  : DTS := (dDrop (dMt okM gExtend (dVar 3) (dCons (dLst (dCons (dTup (dCons (dC (.str "set")) (dCons (dVar 0) (dCons (dC .non) (dCons (dC (.str "sum")) (dCons (dC (.int 1)) dNil)))))) dNil)) dNil)))
def g__law_others_7  : DTS := (dDrop (dMt okM gExtend (dVar 3) (dCons (dLst (dCons (dTup (dCons (dC (.str "set")) (dCons (dVar 0) (dCons (dVar 1) (dCons (dC (.str "Sum")) (dCons (dC (.int 1)) dNil)))))) (dCons (dTup (dCons (dC (.str "drop")) (dCons (dVar 0) (dCons (dVar 1) dNil)))) dNil))) dNil)))
def g__law_others_8  : DTS := (dDrop (dMt okM gExtend (dVar 3) (dCons (dLst (dCons (dTup (dCons (dC (.str "drop")) (dCons (dVar 0) (dCons (dVar 2) dNil)))) (dCons (dTup (dCons (dC (.str "node")) (dCons (dVar 0) (dCons (dC .non) (dCons (dC (.str "a")) dNil))))) dNil))) dNil)))
def g__law_others_9  : DTS := (dDrop (dMt okM gExtend (dVar 3) (dCons (dLst (dCons (dTup (dCons (dC (.str "node")) (dCons (dVar 0) (dCons (dVar 1) (dCons (dC (.str "a")) dNil))))) (dCons (dTup (dCons (dC (.str "node")) (dCons (dVar 0) (dCons (dVar 2) (dCons (dC (.str "a")) dNil))))) dNil))) dNil)))
def g__law_others_10  : DTS := (dDrop (dMt okM gExtend (dVar 3) (dCons (dLst (dCons (dTup (dCons (dC (.str "node")) (dCons (dVar 0) (dCons (dC .non) (dCons (dC (.str "")) dNil))))) (dCons (dTup (dCons (dC (.str "move")) (dCons (dVar 0) (dCons (dVar 1) (dCons (dC .non) dNil))))) dNil))) dNil)))
def g__law_others_11  : DTS := (dDrop (dMt okM gExtend (dVar 3) (dCons (dLst (dCons (dTup (dCons (dC (.str "move")) (dCons (dVar 0) (dCons (dVar 1) (dCons (dVar 1) dNil))))) (dCons (dTup (dCons (dC (.str "move")) (dCons (dVar 0) (dCons (dC .non) (dCons (dVar 1) dNil))))) dNil))) dNil)))
def g__law_others_12  : DTS := (dDrop (dMt okM gExtend (dVar 3) (dCons (dLst (dCons (dTup (dCons (dC (.str "say")) (dCons (dVar 0) (dCons (dTup (dCons (dVar 2) dNil)) (dCons (dC (.str "why so")) dNil))))) (dCons (dTup (dCons (dC (.str "say")) (dCons (dVar 0) (dCons (dVar 1) (dCons (dOp gRepS (dC (.str "x")) (dC (.int 40))) dNil))))) dNil))) dNil)))
def g__law_others_13  : DTS := (dDrop (dMt okM gExtend (dVar 3) (dCons (dLst (dCons (dTup (dCons (dC (.str "say")) (dCons (dVar 0) (dCons (dVar 1) (dCons (dOp gRepS (dC (.str "x")) (dC (.int 41))) dNil))))) (dCons (dTup (dCons (dC (.str "say")) (dCons (dVar 0) (dCons (dVar 1) (dCons (dC (.str "")) dNil))))) dNil))) dNil)))
def g__law_others_14  : DTS := (dDrop (dMt okM gExtend (dVar 3) (dCons (dLst (dCons (dTup (dCons (dC (.str "say")) (dCons (dVar 0) (dCons (dC .non) (dCons (dC (.str "ok")) dNil))))) (dCons (dTup (dCons (dC (.str "say")) (dCons (dVar 0) (dCons (dVar 2) (dCons (dC (.str "ok")) dNil))))) dNil))) dNil)))
def g__law_others_15  : DTS := (dDrop (dMt okM gExtend (dVar 3) (dCons (dLst (dCons (dTup (dCons (dC (.str "close")) (dCons (dVar 0) (dCons (dVar 1) dNil)))) (dCons (dTup (dCons (dC (.str "close")) (dCons (dVar 0) (dCons (dC .non) dNil)))) dNil))) dNil)))
def g__law_others_16  : DTS := (dDrop (dMt okM gExtend (dVar 3) (dCons (dLst (dCons (dTup (dCons (dC (.str "suggest")) (dCons (dVar 0) (dCons (dTup (dCons (dC (.str "put")) (dCons (dC .non) (dCons (dC (.str "a")) dNil)))) dNil)))) (dCons (dTup (dCons (dC (.str "suggest")) (dCons (dVar 0) (dCons (dTup (dCons (dC (.str "cut")) (dCons (dTup (dCons (dVar 2) dNil)) dNil))) dNil)))) dNil))) dNil)))
def g__law_others_17  : DTS := (dDrop (dMt okM gExtend (dVar 3) (dCons (dLst (dCons (dTup (dCons (dC (.str "suggest")) (dCons (dVar 0) (dCons (dTup (dCons (dC (.str "put")) (dCons (dVar 0) (dCons (dC .non) (dCons (dC (.str "a")) dNil))))) dNil)))) (dCons (dTup (dCons (dC (.str "suggest")) (dCons (dVar 0) (dCons (dTup (dCons (dC (.str "look")) (dCons (dTup (dCons (dVar 2) dNil)) dNil))) dNil)))) dNil))) dNil)))
def g__law_others_18  : DTS := (dDrop (dMt okM gExtend (dVar 3) (dCons (dLst (dCons (dTup (dCons (dC (.str "suggest")) (dCons (dVar 0) (dCons (dC .non) dNil)))) dNil)) dNil)))
def g__law_others_19  : DTS := (dDrop (dMt okM gExtend (dVar 3) (dCons (dLst (dCons (dTup (dCons (dC (.str "suggest")) (dCons (dVar 0) (dCons (dTup (dCons (dC (.str "cut")) (dCons (dTup dNil) dNil))) dNil)))) (dCons (dTup (dCons (dC (.str "suggest")) (dCons (dVar 0) (dCons (dTup (dCons (dC (.str "put")) (dCons (dVar 2) (dCons (dOp gRepS (dC (.str "x")) (dC (.int 13))) dNil)))) dNil)))) dNil))) dNil)))
def g__law_others_20  : DTS := (dDrop (dMt okM gExtend (dVar 3) (dCons (dLst (dCons (dTup (dCons (dC (.str "take")) (dCons (dVar 0) (dCons (dVar 1) dNil)))) (dCons (dTup (dCons (dC (.str "refuse")) (dCons (dVar 0) (dCons (dVar 1) dNil)))) dNil))) dNil)))
def g__law_others_21  : DTS := (dDrop (dMt okM gExtend (dVar 3) (dCons (dLst (dCons (dTup (dCons (dC (.str "take")) (dCons (dVar 0) (dCons (dVar 2) dNil)))) (dCons (dTup (dCons (dC (.str "mark")) (dCons (dVar 0) (dCons (dC .non) dNil)))) (dCons (dTup (dCons (dC (.str "mark")) (dCons (dVar 0) (dCons (dVar 1) dNil)))) dNil)))) dNil)))
def g__law_others_22  : DTS := (dDrop (dMt okM gExtend (dVar 3) (dCons (dLst (dCons (dTup (dCons (dC (.str "mark")) (dCons (dVar 0) (dCons (dVar 2) dNil)))) (dCons (dTup (dCons (dC (.str "mark")) (dCons (dVar 0) (dCons (dTup (dCons (dVar 2) dNil)) dNil)))) dNil))) dNil)))
def g__law_others_23  : DTS := (dDrop (dMt okM gExtend (dVar 3) (dCons (dLst (dCons (dTup (dCons (dC (.str "undo")) (dCons (dVar 0) (dCons (dVar 1) dNil)))) (dCons (dTup (dCons (dC (.str "redo")) (dCons (dVar 0) (dCons (dVar 1) dNil)))) (dCons (dTup (dCons (dC (.str "undo")) (dCons (dVar 0) (dCons (dC .non) dNil)))) dNil)))) dNil)))
def g__law_others_24  : DTS := (dDrop (dMt okM gExtend (dVar 3) (dCons (dLst (dCons (dTup (dCons (dC (.str "undo")) (dCons (dVar 0) dNil))) (dCons (dTup (dCons (dC (.str "Undo")) (dCons (dVar 0) (dCons (dVar 1) dNil)))) (dCons (dTup (dCons (dC (.str "do")) (dCons (dVar 0) (dCons (dVar 1) dNil)))) dNil)))) dNil)))
def g__law_others_25  : DTS := (dSet 4 (dTup (dCons (dC (.str "row")) (dCons (dVar 0) dNil))))
def g__law_others_26  : DTS := (dDrop (dMt okM gExtend (dVar 3) (dCons (dLst (dCons (dTup (dCons (dC (.str "ann")) (dCons (dC (.int 0)) (dCons (dC (.int 0)) (dCons (dTup dNil) (dCons (dVar 4) dNil)))))) (dCons (dTup (dCons (dC (.str "ann")) (dCons (dC (.int 1)) (dCons (dC (.int 0)) (dCons (dTup (dCons (dTup (dCons (dC (.str "ann")) (dCons (dC (.int 1)) dNil))) dNil)) (dCons (dVar 4) dNil)))))) dNil))) dNil)))
def g__law_others_27  : DTS := (dDrop (dMt okM gExtend (dVar 3) (dCons (dLst (dCons (dTup (dCons (dC (.str "ann")) (dCons (dC (.int 0)) (dCons (dC (.int 0)) (dCons (dTup (dCons (dTup (dCons (dC (.str "ann")) (dCons (dC (.int 0)) dNil))) dNil)) (dCons (dVar 4) dNil)))))) (dCons (dTup (dCons (dC (.str "Ann")) (dCons (dC (.int 0)) (dCons (dC (.int 0)) (dCons (dTup dNil) (dCons (dVar 4) dNil)))))) dNil))) dNil)))
def g__law_others_28  : DTS := (dDrop (dMt okM gExtend (dVar 3) (dCons (dLst (dCons (dTup (dCons (dC (.str "ann")) (dCons (dNeg (dC (.int 1))) (dCons (dC (.int 0)) (dCons (dTup dNil) (dCons (dVar 4) dNil)))))) (dCons (dTup (dCons (dC (.str "ann")) (dCons (dC (.int 0)) (dCons (dC (.bl true)) (dCons (dTup dNil) (dCons (dVar 4) dNil)))))) dNil))) dNil)))
def g__law_others_29  : DTS := (dDrop (dMt okM gExtend (dVar 3) (dCons (dLst (dCons (dTup (dCons (dC (.str "ann")) (dCons (dC (.int 0)) (dCons (dC (.int 0)) (dCons (dLst dNil) (dCons (dVar 4) dNil)))))) (dCons (dTup (dCons (dC (.str "ann")) (dCons (dC (.int 0)) (dCons (dC (.int 0)) (dCons (dTup dNil) (dCons (dC .non) dNil)))))) dNil))) dNil)))
def g__law_others_30  : DTS := (dDrop (dMt okM gExtend (dVar 3) (dCons (dLst (dCons (dTup (dCons (dC (.str "ann")) (dCons (dC (.int 0)) (dCons (dC (.int 0)) (dCons (dTup dNil) dNil))))) (dCons (dLst (dCons (dC (.str "ann")) (dCons (dC (.int 0)) (dCons (dC (.int 0)) (dCons (dTup dNil) (dCons (dVar 4) dNil)))))) (dCons (dTup (dCons (dC (.str "ann")) (dCons (dC (.int 0)) (dCons (dC (.int 0)) (dCons (dTup dNil) (dCons (dVar 4) (dCons (dC (.int 0)) dNil))))))) dNil)))) dNil)))
def g__law_others_31  : DTS := (dDrop (dMt okM gExtend (dVar 3) (dCons (dLst (dCons (dTup (dCons (dVar 0) (dCons (dC (.int 0)) (dCons (dTup dNil) (dCons (dVar 4) dNil))))) (dCons (dTup (dCons (dVar 4) dNil)) dNil))) dNil)))
def g__law_others_32  : DTS := (dDrop (dMt okM gExtend (dVar 3) (dCons (dLst (dCons (dC .non) (dCons (dTup dNil) (dCons (dC (.int 0)) dNil)))) dNil)))
def g__law_others_33  : DTS := (dDrop (dMt okM gExtend (dVar 3) (dCons (dLst (dCons (dC (.str "")) (dCons (dLst dNil) dNil))) dNil)))
def g__law_others_34  : DTS := (dRet (dOp gAddLM (dVar 3) (dLst (dCons (dC (.str "open")) (dCons (dTup (dCons (dC (.str "ann")) (dCons (dOp (gI CPow fun i j => .int (i ^ j.toNat)) (dC (.int 10)) (dC (.int 60))) (dCons (dOp (gI CPow fun i j => .int (i ^ j.toNat)) (dC (.int 10)) (dC (.int 60))) (dCons (dTup (dCons (dTup (dCons (dC (.str "zed")) (dCons (dOp (gI CPow fun i j => .int (i ^ j.toNat)) (dC (.int 10)) (dC (.int 60))) dNil))) dNil)) (dCons (dTup (dCons (dC (.str "mark")) (dCons (dVar 0) (dCons (dC .non) dNil)))) dNil)))))) dNil)))))
theorem eq__law_others  : b__law_others  = (dSeq g__law_others_1 (dSeq g__law_others_2 (dSeq g__law_others_3 (dSeq g__law_others_4 (dSeq g__law_others_5 (dSeq g__law_others_6 (dSeq g__law_others_7 (dSeq g__law_others_8 (dSeq g__law_others_9 (dSeq g__law_others_10 (dSeq g__law_others_11 (dSeq g__law_others_12 (dSeq g__law_others_13 (dSeq g__law_others_14 (dSeq g__law_others_15 (dSeq g__law_others_16 (dSeq g__law_others_17 (dSeq g__law_others_18 (dSeq g__law_others_19 (dSeq g__law_others_20 (dSeq g__law_others_21 (dSeq g__law_others_22 (dSeq g__law_others_23 (dSeq g__law_others_24 (dSeq g__law_others_25 (dSeq g__law_others_26 (dSeq g__law_others_27 (dSeq g__law_others_28 (dSeq g__law_others_29 (dSeq g__law_others_30 (dSeq g__law_others_31 (dSeq g__law_others_32 (dSeq g__law_others_33 g__law_others_34))))))))))))))))))))))))))))))))) := rfl
def doc0 : D := .tup [.str "ann", .int 0]
def key0 : D := .tup [.str "bo", .int 3]
def name0 : D := .tup [.tup [.str "ann", .int 1], .int 0]
theorem rd__law_fixed : ∀ ds m Q, sp__law_fixed ds m Q → b__law_fixed { nx := fun _ m' => Q .non m', rt := Q } (startD 4 ds) m := by
  rintro ds m Q ⟨rfl, q⟩
  rw [eq__law_fixed]
  refine seq_in ?_
  show g__law_fixed_1 _ [none, none, none, none] m
  simp only [g__law_fixed_1, dVar, dC, dOp, dB, dChain, dAndT, dOrT, dNotT, dAndV, dOrV, dNotV, dIf, dNeg, dNil, dCons, dTup, dLst, dLstM, dCB, g1, gIsi, gLen, gLen1, gRepr, gRepr1, gList1, gTuple1, gAll1, gOrd1, gStr1, gInt1, dMt, dMt0, gAppend, gExtend, gUpper, dNext, dSeq, dDrop, dRet, dRetF, dRetX, dRetN, dIfS, dSet, wSeq, wRng1, wRng2, gN, gP, dFor, dLc, dLcM, dYes, dPar, dAsg2, dCall, gI, gI0, gAdd2, gSub2, gAdd, gMul, gLt, gLe, gEq, gNe, gIsN, gNotN, gIn, gIx, gSl, dSl, dNoPart, dPart, dRev, gRev, gAddLM, gRepS, gLIndex, dKIndex, dFCells, dFInt, dFPut, dFeed, startD, wipeD, List.set_cons_zero, List.set_cons_succ, List.getElem?_cons_zero, List.getElem?_cons_succ, List.map_cons, List.map_nil, List.length_cons, List.length_nil, List.replicate, List.cons_append, List.nil_append, dInK, dIxK, wZip, dAsg3, dAsg5, gInS, dDisp, dDIn, dDGet, dCallF, gUpdate]
  refine ⟨by decide, by decide, by decide, by decide, by decide, ?_⟩
  refine seq_in ?_
  simp only [g__law_fixed_2, dVar, dC, dOp, dB, dChain, dAndT, dOrT, dNotT, dAndV, dOrV, dNotV, dIf, dNeg, dNil, dCons, dTup, dLst, dLstM, dCB, g1, gIsi, gLen, gLen1, gRepr, gRepr1, gList1, gTuple1, gAll1, gOrd1, gStr1, gInt1, dMt, dMt0, gAppend, gExtend, gUpper, dNext, dSeq, dDrop, dRet, dRetF, dRetX, dRetN, dIfS, dSet, wSeq, wRng1, wRng2, gN, gP, dFor, dLc, dLcM, dYes, dPar, dAsg2, dCall, gI, gI0, gAdd2, gSub2, gAdd, gMul, gLt, gLe, gEq, gNe, gIsN, gNotN, gIn, gIx, gSl, dSl, dNoPart, dPart, dRev, gRev, gAddLM, gRepS, gLIndex, dKIndex, dFCells, dFInt, dFPut, dFeed, startD, wipeD, List.set_cons_zero, List.set_cons_succ, List.getElem?_cons_zero, List.getElem?_cons_succ, List.map_cons, List.map_nil, List.length_cons, List.length_nil, List.replicate, List.cons_append, List.nil_append, dInK, dIxK, wZip, dAsg3, dAsg5, gInS, dDisp, dDIn, dDGet, dCallF, gUpdate]
  refine ⟨by decide, by decide, by decide, by decide, fun p hp => ?_⟩
  have g2 : Base 3 40 [D.tup [.str "open", .str "text"], .tup [.str "open", .str "rows"], .tup [.str "open", .str "tree"]] := Base.of (by decide +kernel)
  have hm2 : (mset m p (.lst [D.tup [.str "open", .str "text"], .tup [.str "open", .str "rows"], .tup [.str "open", .str "tree"]])) p = some (.lst _) := mset_same
  have kp : ∀ b, b ≠ p → (mset m p (.lst [D.tup [.str "open", .str "text"], .tup [.str "open", .str "rows"], .tup [.str "open", .str "tree"]])) b = m b := fun b hb => mset_ne hb
  generalize (mset m p (.lst [D.tup [.str "open", .str "text"], .tup [.str "open", .str "rows"], .tup [.str "open", .str "tree"]])) = m2 at hm2 kp ⊢
  have a2 : ([D.tup [.str "open", .str "text"], .tup [.str "open", .str "rows"], .tup [.str "open", .str "tree"]] : List D).any bT = true := rfl
  generalize [D.tup [.str "open", .str "text"], .tup [.str "open", .str "rows"], .tup [.str "open", .str "tree"]] = L2 at g2 hm2 a2
  refine seq_in ?_
  refine more (c' := 3) (s' := 100) 3 rfl hm2 g2 (by decide) (fun R r => ?_) fun L3 g3 a3 => ?_
  · simp only [dVar, dC, dOp, dB, dChain, dAndT, dOrT, dNotT, dAndV, dOrV, dNotV, dIf, dNeg, dNil, dCons, dTup, dLst, dLstM, dCB, g1, gIsi, gLen, gLen1, gRepr, gRepr1, gList1, gTuple1, gAll1, gOrd1, gStr1, gInt1, dMt, dMt0, gAppend, gExtend, gUpper, dNext, dSeq, dDrop, dRet, dRetF, dRetX, dRetN, dIfS, dSet, wSeq, wRng1, wRng2, gN, gP, dFor, dLc, dLcM, dYes, dPar, dAsg2, dCall, gI, gI0, gAdd2, gSub2, gAdd, gMul, gLt, gLe, gEq, gNe, gIsN, gNotN, gIn, gIx, gSl, dSl, dNoPart, dPart, dRev, gRev, gAddLM, gRepS, gLIndex, dKIndex, dFCells, dFInt, dFPut, dFeed, startD, wipeD, List.set_cons_zero, List.set_cons_succ, List.getElem?_cons_zero, List.getElem?_cons_succ, List.map_cons, List.map_nil, List.length_cons, List.length_nil, List.replicate, List.cons_append, List.nil_append, dInK, dIxK, wZip, dAsg3, dAsg5, gInS, dDisp, dDIn, dDGet, dCallF, gUpdate, List.set_cons_zero, List.set_cons_succ]; repeat (first | exact r _ (Base.of (by decide +kernel)) | refine ⟨by decide, ?_⟩)
  dsimp only
  have a3 := a3 a2
  have kp3 : ∀ b, b ≠ p → (mset m2 p (.lst L3)) b = m b := fun b hb => (mset_ne hb).trans (kp b hb)
  have hm3 : (mset m2 p (.lst L3)) p = some (.lst L3) := mset_same
  generalize (mset m2 p (.lst L3)) = m3 at hm3 kp3 ⊢
  refine seq_in ?_
  refine more (c' := 3) (s' := 100) 3 rfl hm3 g3 (by decide) (fun R r => ?_) fun L4 g4 a4 => ?_
  · simp only [dVar, dC, dOp, dB, dChain, dAndT, dOrT, dNotT, dAndV, dOrV, dNotV, dIf, dNeg, dNil, dCons, dTup, dLst, dLstM, dCB, g1, gIsi, gLen, gLen1, gRepr, gRepr1, gList1, gTuple1, gAll1, gOrd1, gStr1, gInt1, dMt, dMt0, gAppend, gExtend, gUpper, dNext, dSeq, dDrop, dRet, dRetF, dRetX, dRetN, dIfS, dSet, wSeq, wRng1, wRng2, gN, gP, dFor, dLc, dLcM, dYes, dPar, dAsg2, dCall, gI, gI0, gAdd2, gSub2, gAdd, gMul, gLt, gLe, gEq, gNe, gIsN, gNotN, gIn, gIx, gSl, dSl, dNoPart, dPart, dRev, gRev, gAddLM, gRepS, gLIndex, dKIndex, dFCells, dFInt, dFPut, dFeed, startD, wipeD, List.set_cons_zero, List.set_cons_succ, List.getElem?_cons_zero, List.getElem?_cons_succ, List.map_cons, List.map_nil, List.length_cons, List.length_nil, List.replicate, List.cons_append, List.nil_append, dInK, dIxK, wZip, dAsg3, dAsg5, gInS, dDisp, dDIn, dDGet, dCallF, gUpdate, List.set_cons_zero, List.set_cons_succ]; repeat (first | exact r _ (Base.of (by decide +kernel)) | refine ⟨by decide, ?_⟩)
  dsimp only
  have a4 := a4 a3
  have kp4 : ∀ b, b ≠ p → (mset m3 p (.lst L4)) b = m b := fun b hb => (mset_ne hb).trans (kp3 b hb)
  have hm4 : (mset m3 p (.lst L4)) p = some (.lst L4) := mset_same
  generalize (mset m3 p (.lst L4)) = m4 at hm4 kp4 ⊢
  refine seq_in ?_
  refine more (c' := 3) (s' := 100) 3 rfl hm4 g4 (by decide) (fun R r => ?_) fun L5 g5 a5 => ?_
  · simp only [dVar, dC, dOp, dB, dChain, dAndT, dOrT, dNotT, dAndV, dOrV, dNotV, dIf, dNeg, dNil, dCons, dTup, dLst, dLstM, dCB, g1, gIsi, gLen, gLen1, gRepr, gRepr1, gList1, gTuple1, gAll1, gOrd1, gStr1, gInt1, dMt, dMt0, gAppend, gExtend, gUpper, dNext, dSeq, dDrop, dRet, dRetF, dRetX, dRetN, dIfS, dSet, wSeq, wRng1, wRng2, gN, gP, dFor, dLc, dLcM, dYes, dPar, dAsg2, dCall, gI, gI0, gAdd2, gSub2, gAdd, gMul, gLt, gLe, gEq, gNe, gIsN, gNotN, gIn, gIx, gSl, dSl, dNoPart, dPart, dRev, gRev, gAddLM, gRepS, gLIndex, dKIndex, dFCells, dFInt, dFPut, dFeed, startD, wipeD, List.set_cons_zero, List.set_cons_succ, List.getElem?_cons_zero, List.getElem?_cons_succ, List.map_cons, List.map_nil, List.length_cons, List.length_nil, List.replicate, List.cons_append, List.nil_append, dInK, dIxK, wZip, dAsg3, dAsg5, gInS, dDisp, dDIn, dDGet, dCallF, gUpdate, List.set_cons_zero, List.set_cons_succ]; repeat (first | exact r _ (Base.of (by decide +kernel)) | refine ⟨by decide, ?_⟩)
  dsimp only
  have a5 := a5 a4
  have kp5 : ∀ b, b ≠ p → (mset m4 p (.lst L5)) b = m b := fun b hb => (mset_ne hb).trans (kp4 b hb)
  have hm5 : (mset m4 p (.lst L5)) p = some (.lst L5) := mset_same
  generalize (mset m4 p (.lst L5)) = m5 at hm5 kp5 ⊢
  refine seq_in ?_
  refine more (c' := 3) (s' := 100) 3 rfl hm5 g5 (by decide) (fun R r => ?_) fun L6 g6 a6 => ?_
  · simp only [dVar, dC, dOp, dB, dChain, dAndT, dOrT, dNotT, dAndV, dOrV, dNotV, dIf, dNeg, dNil, dCons, dTup, dLst, dLstM, dCB, g1, gIsi, gLen, gLen1, gRepr, gRepr1, gList1, gTuple1, gAll1, gOrd1, gStr1, gInt1, dMt, dMt0, gAppend, gExtend, gUpper, dNext, dSeq, dDrop, dRet, dRetF, dRetX, dRetN, dIfS, dSet, wSeq, wRng1, wRng2, gN, gP, dFor, dLc, dLcM, dYes, dPar, dAsg2, dCall, gI, gI0, gAdd2, gSub2, gAdd, gMul, gLt, gLe, gEq, gNe, gIsN, gNotN, gIn, gIx, gSl, dSl, dNoPart, dPart, dRev, gRev, gAddLM, gRepS, gLIndex, dKIndex, dFCells, dFInt, dFPut, dFeed, startD, wipeD, List.set_cons_zero, List.set_cons_succ, List.getElem?_cons_zero, List.getElem?_cons_succ, List.map_cons, List.map_nil, List.length_cons, List.length_nil, List.replicate, List.cons_append, List.nil_append, dInK, dIxK, wZip, dAsg3, dAsg5, gInS, dDisp, dDIn, dDGet, dCallF, gUpdate, List.set_cons_zero, List.set_cons_succ]; repeat (first | exact r _ (Base.of (by decide +kernel)) | refine ⟨by decide, ?_⟩)
  dsimp only
  have a6 := a6 a5
  have kp6 : ∀ b, b ≠ p → (mset m5 p (.lst L6)) b = m b := fun b hb => (mset_ne hb).trans (kp5 b hb)
  have hm6 : (mset m5 p (.lst L6)) p = some (.lst L6) := mset_same
  generalize (mset m5 p (.lst L6)) = m6 at hm6 kp6 ⊢
  refine seq_in ?_
  refine more (c' := 3) (s' := 100) 3 rfl hm6 g6 (by decide) (fun R r => ?_) fun L7 g7 a7 => ?_
  · simp only [dVar, dC, dOp, dB, dChain, dAndT, dOrT, dNotT, dAndV, dOrV, dNotV, dIf, dNeg, dNil, dCons, dTup, dLst, dLstM, dCB, g1, gIsi, gLen, gLen1, gRepr, gRepr1, gList1, gTuple1, gAll1, gOrd1, gStr1, gInt1, dMt, dMt0, gAppend, gExtend, gUpper, dNext, dSeq, dDrop, dRet, dRetF, dRetX, dRetN, dIfS, dSet, wSeq, wRng1, wRng2, gN, gP, dFor, dLc, dLcM, dYes, dPar, dAsg2, dCall, gI, gI0, gAdd2, gSub2, gAdd, gMul, gLt, gLe, gEq, gNe, gIsN, gNotN, gIn, gIx, gSl, dSl, dNoPart, dPart, dRev, gRev, gAddLM, gRepS, gLIndex, dKIndex, dFCells, dFInt, dFPut, dFeed, startD, wipeD, List.set_cons_zero, List.set_cons_succ, List.getElem?_cons_zero, List.getElem?_cons_succ, List.map_cons, List.map_nil, List.length_cons, List.length_nil, List.replicate, List.cons_append, List.nil_append, dInK, dIxK, wZip, dAsg3, dAsg5, gInS, dDisp, dDIn, dDGet, dCallF, gUpdate, List.set_cons_zero, List.set_cons_succ]; repeat (first | exact r _ (Base.of (by decide +kernel)) | refine ⟨by decide, ?_⟩)
  dsimp only
  have a7 := a7 a6
  have kp7 : ∀ b, b ≠ p → (mset m6 p (.lst L7)) b = m b := fun b hb => (mset_ne hb).trans (kp6 b hb)
  have hm7 : (mset m6 p (.lst L7)) p = some (.lst L7) := mset_same
  generalize (mset m6 p (.lst L7)) = m7 at hm7 kp7 ⊢
  refine seq_in ?_
  refine more (c' := 3) (s' := 100) 3 rfl hm7 g7 (by decide) (fun R r => ?_) fun L8 g8 a8 => ?_
  · simp only [dVar, dC, dOp, dB, dChain, dAndT, dOrT, dNotT, dAndV, dOrV, dNotV, dIf, dNeg, dNil, dCons, dTup, dLst, dLstM, dCB, g1, gIsi, gLen, gLen1, gRepr, gRepr1, gList1, gTuple1, gAll1, gOrd1, gStr1, gInt1, dMt, dMt0, gAppend, gExtend, gUpper, dNext, dSeq, dDrop, dRet, dRetF, dRetX, dRetN, dIfS, dSet, wSeq, wRng1, wRng2, gN, gP, dFor, dLc, dLcM, dYes, dPar, dAsg2, dCall, gI, gI0, gAdd2, gSub2, gAdd, gMul, gLt, gLe, gEq, gNe, gIsN, gNotN, gIn, gIx, gSl, dSl, dNoPart, dPart, dRev, gRev, gAddLM, gRepS, gLIndex, dKIndex, dFCells, dFInt, dFPut, dFeed, startD, wipeD, List.set_cons_zero, List.set_cons_succ, List.getElem?_cons_zero, List.getElem?_cons_succ, List.map_cons, List.map_nil, List.length_cons, List.length_nil, List.replicate, List.cons_append, List.nil_append, dInK, dIxK, wZip, dAsg3, dAsg5, gInS, dDisp, dDIn, dDGet, dCallF, gUpdate, List.set_cons_zero, List.set_cons_succ]; repeat (first | exact r _ (Base.of (by decide +kernel)) | refine ⟨by decide, ?_⟩)
  dsimp only
  have a8 := a8 a7
  have kp8 : ∀ b, b ≠ p → (mset m7 p (.lst L8)) b = m b := fun b hb => (mset_ne hb).trans (kp7 b hb)
  have hm8 : (mset m7 p (.lst L8)) p = some (.lst L8) := mset_same
  generalize (mset m7 p (.lst L8)) = m8 at hm8 kp8 ⊢
  refine seq_in ?_
  refine more (c' := 3) (s' := 100) 3 rfl hm8 g8 (by decide) (fun R r => ?_) fun L9 g9 a9 => ?_
  · simp only [dVar, dC, dOp, dB, dChain, dAndT, dOrT, dNotT, dAndV, dOrV, dNotV, dIf, dNeg, dNil, dCons, dTup, dLst, dLstM, dCB, g1, gIsi, gLen, gLen1, gRepr, gRepr1, gList1, gTuple1, gAll1, gOrd1, gStr1, gInt1, dMt, dMt0, gAppend, gExtend, gUpper, dNext, dSeq, dDrop, dRet, dRetF, dRetX, dRetN, dIfS, dSet, wSeq, wRng1, wRng2, gN, gP, dFor, dLc, dLcM, dYes, dPar, dAsg2, dCall, gI, gI0, gAdd2, gSub2, gAdd, gMul, gLt, gLe, gEq, gNe, gIsN, gNotN, gIn, gIx, gSl, dSl, dNoPart, dPart, dRev, gRev, gAddLM, gRepS, gLIndex, dKIndex, dFCells, dFInt, dFPut, dFeed, startD, wipeD, List.set_cons_zero, List.set_cons_succ, List.getElem?_cons_zero, List.getElem?_cons_succ, List.map_cons, List.map_nil, List.length_cons, List.length_nil, List.replicate, List.cons_append, List.nil_append, dInK, dIxK, wZip, dAsg3, dAsg5, gInS, dDisp, dDIn, dDGet, dCallF, gUpdate, List.set_cons_zero, List.set_cons_succ]; repeat (first | exact r _ (Base.of (by decide +kernel)) | refine ⟨by decide, ?_⟩)
  dsimp only
  have a9 := a9 a8
  have kp9 : ∀ b, b ≠ p → (mset m8 p (.lst L9)) b = m b := fun b hb => (mset_ne hb).trans (kp8 b hb)
  have hm9 : (mset m8 p (.lst L9)) p = some (.lst L9) := mset_same
  generalize (mset m8 p (.lst L9)) = m9 at hm9 kp9 ⊢
  refine seq_in ?_
  refine more (c' := 3) (s' := 100) 3 rfl hm9 g9 (by decide) (fun R r => ?_) fun L10 g10 a10 => ?_
  · simp only [dVar, dC, dOp, dB, dChain, dAndT, dOrT, dNotT, dAndV, dOrV, dNotV, dIf, dNeg, dNil, dCons, dTup, dLst, dLstM, dCB, g1, gIsi, gLen, gLen1, gRepr, gRepr1, gList1, gTuple1, gAll1, gOrd1, gStr1, gInt1, dMt, dMt0, gAppend, gExtend, gUpper, dNext, dSeq, dDrop, dRet, dRetF, dRetX, dRetN, dIfS, dSet, wSeq, wRng1, wRng2, gN, gP, dFor, dLc, dLcM, dYes, dPar, dAsg2, dCall, gI, gI0, gAdd2, gSub2, gAdd, gMul, gLt, gLe, gEq, gNe, gIsN, gNotN, gIn, gIx, gSl, dSl, dNoPart, dPart, dRev, gRev, gAddLM, gRepS, gLIndex, dKIndex, dFCells, dFInt, dFPut, dFeed, startD, wipeD, List.set_cons_zero, List.set_cons_succ, List.getElem?_cons_zero, List.getElem?_cons_succ, List.map_cons, List.map_nil, List.length_cons, List.length_nil, List.replicate, List.cons_append, List.nil_append, dInK, dIxK, wZip, dAsg3, dAsg5, gInS, dDisp, dDIn, dDGet, dCallF, gUpdate, List.set_cons_zero, List.set_cons_succ]; repeat (first | exact r _ (Base.of (by decide +kernel)) | refine ⟨by decide, ?_⟩)
  dsimp only
  have a10 := a10 a9
  have kp10 : ∀ b, b ≠ p → (mset m9 p (.lst L10)) b = m b := fun b hb => (mset_ne hb).trans (kp9 b hb)
  have hm10 : (mset m9 p (.lst L10)) p = some (.lst L10) := mset_same
  generalize (mset m9 p (.lst L10)) = m10 at hm10 kp10 ⊢
  refine seq_in ?_
  refine more (c' := 3) (s' := 100) 3 rfl hm10 g10 (by decide) (fun R r => ?_) fun L11 g11 a11 => ?_
  · simp only [dVar, dC, dOp, dB, dChain, dAndT, dOrT, dNotT, dAndV, dOrV, dNotV, dIf, dNeg, dNil, dCons, dTup, dLst, dLstM, dCB, g1, gIsi, gLen, gLen1, gRepr, gRepr1, gList1, gTuple1, gAll1, gOrd1, gStr1, gInt1, dMt, dMt0, gAppend, gExtend, gUpper, dNext, dSeq, dDrop, dRet, dRetF, dRetX, dRetN, dIfS, dSet, wSeq, wRng1, wRng2, gN, gP, dFor, dLc, dLcM, dYes, dPar, dAsg2, dCall, gI, gI0, gAdd2, gSub2, gAdd, gMul, gLt, gLe, gEq, gNe, gIsN, gNotN, gIn, gIx, gSl, dSl, dNoPart, dPart, dRev, gRev, gAddLM, gRepS, gLIndex, dKIndex, dFCells, dFInt, dFPut, dFeed, startD, wipeD, List.set_cons_zero, List.set_cons_succ, List.getElem?_cons_zero, List.getElem?_cons_succ, List.map_cons, List.map_nil, List.length_cons, List.length_nil, List.replicate, List.cons_append, List.nil_append, dInK, dIxK, wZip, dAsg3, dAsg5, gInS, dDisp, dDIn, dDGet, dCallF, gUpdate, List.set_cons_zero, List.set_cons_succ]; repeat (first | exact r _ (Base.of (by decide +kernel)) | refine ⟨by decide, ?_⟩)
  dsimp only
  have a11 := a11 a10
  have kp11 : ∀ b, b ≠ p → (mset m10 p (.lst L11)) b = m b := fun b hb => (mset_ne hb).trans (kp10 b hb)
  have hm11 : (mset m10 p (.lst L11)) p = some (.lst L11) := mset_same
  generalize (mset m10 p (.lst L11)) = m11 at hm11 kp11 ⊢
  refine seq_in ?_
  refine more (c' := 3) (s' := 100) 3 rfl hm11 g11 (by decide) (fun R r => ?_) fun L12 g12 a12 => ?_
  · simp only [dVar, dC, dOp, dB, dChain, dAndT, dOrT, dNotT, dAndV, dOrV, dNotV, dIf, dNeg, dNil, dCons, dTup, dLst, dLstM, dCB, g1, gIsi, gLen, gLen1, gRepr, gRepr1, gList1, gTuple1, gAll1, gOrd1, gStr1, gInt1, dMt, dMt0, gAppend, gExtend, gUpper, dNext, dSeq, dDrop, dRet, dRetF, dRetX, dRetN, dIfS, dSet, wSeq, wRng1, wRng2, gN, gP, dFor, dLc, dLcM, dYes, dPar, dAsg2, dCall, gI, gI0, gAdd2, gSub2, gAdd, gMul, gLt, gLe, gEq, gNe, gIsN, gNotN, gIn, gIx, gSl, dSl, dNoPart, dPart, dRev, gRev, gAddLM, gRepS, gLIndex, dKIndex, dFCells, dFInt, dFPut, dFeed, startD, wipeD, List.set_cons_zero, List.set_cons_succ, List.getElem?_cons_zero, List.getElem?_cons_succ, List.map_cons, List.map_nil, List.length_cons, List.length_nil, List.replicate, List.cons_append, List.nil_append, dInK, dIxK, wZip, dAsg3, dAsg5, gInS, dDisp, dDIn, dDGet, dCallF, gUpdate, List.set_cons_zero, List.set_cons_succ]; repeat (first | exact r _ (Base.of (by decide +kernel)) | refine ⟨by decide, ?_⟩)
  dsimp only
  have a12 := a12 a11
  have kp12 : ∀ b, b ≠ p → (mset m11 p (.lst L12)) b = m b := fun b hb => (mset_ne hb).trans (kp11 b hb)
  have hm12 : (mset m11 p (.lst L12)) p = some (.lst L12) := mset_same
  generalize (mset m11 p (.lst L12)) = m12 at hm12 kp12 ⊢
  simp only [g__law_fixed_13, dVar, dC, dOp, dB, dChain, dAndT, dOrT, dNotT, dAndV, dOrV, dNotV, dIf, dNeg, dNil, dCons, dTup, dLst, dLstM, dCB, g1, gIsi, gLen, gLen1, gRepr, gRepr1, gList1, gTuple1, gAll1, gOrd1, gStr1, gInt1, dMt, dMt0, gAppend, gExtend, gUpper, dNext, dSeq, dDrop, dRet, dRetF, dRetX, dRetN, dIfS, dSet, wSeq, wRng1, wRng2, gN, gP, dFor, dLc, dLcM, dYes, dPar, dAsg2, dCall, gI, gI0, gAdd2, gSub2, gAdd, gMul, gLt, gLe, gEq, gNe, gIsN, gNotN, gIn, gIx, gSl, dSl, dNoPart, dPart, dRev, gRev, gAddLM, gRepS, gLIndex, dKIndex, dFCells, dFInt, dFPut, dFeed, startD, wipeD, List.set_cons_zero, List.set_cons_succ, List.getElem?_cons_zero, List.getElem?_cons_succ, List.map_cons, List.map_nil, List.length_cons, List.length_nil, List.replicate, List.cons_append, List.nil_append, dInK, dIxK, wZip, dAsg3, dAsg5, gInS, dDisp, dDIn, dDGet, dCallF, gUpdate]
  exact q p L12 m12 (fun a o e => by rw [kp12 a (fun z => by rw [z, hp] at e; cases e)]; exact e) hp hm12 (g12.mono (by decide) (by decide)) a12
theorem rd__law_others : ∀ ds m Q, sp__law_others ds m Q → b__law_others { nx := fun _ m' => Q .non m', rt := Q } (startD 5 ds) m := by
  rintro ds m Q ⟨rfl, q⟩
  rw [eq__law_others]
  refine seq_in ?_
  show g__law_others_1 _ [none, none, none, none, none] m
  simp only [g__law_others_1, dVar, dC, dOp, dB, dChain, dAndT, dOrT, dNotT, dAndV, dOrV, dNotV, dIf, dNeg, dNil, dCons, dTup, dLst, dLstM, dCB, g1, gIsi, gLen, gLen1, gRepr, gRepr1, gList1, gTuple1, gAll1, gOrd1, gStr1, gInt1, dMt, dMt0, gAppend, gExtend, gUpper, dNext, dSeq, dDrop, dRet, dRetF, dRetX, dRetN, dIfS, dSet, wSeq, wRng1, wRng2, gN, gP, dFor, dLc, dLcM, dYes, dPar, dAsg2, dCall, gI, gI0, gAdd2, gSub2, gAdd, gMul, gLt, gLe, gEq, gNe, gIsN, gNotN, gIn, gIx, gSl, dSl, dNoPart, dPart, dRev, gRev, gAddLM, gRepS, gLIndex, dKIndex, dFCells, dFInt, dFPut, dFeed, startD, wipeD, List.set_cons_zero, List.set_cons_succ, List.getElem?_cons_zero, List.getElem?_cons_succ, List.map_cons, List.map_nil, List.length_cons, List.length_nil, List.replicate, List.cons_append, List.nil_append, dInK, dIxK, wZip, dAsg3, dAsg5, gInS, dDisp, dDIn, dDGet, dCallF, gUpdate]
  refine ⟨by decide, by decide, by decide, by decide, by decide, ?_⟩
  refine seq_in ?_
  simp only [g__law_others_2, dVar, dC, dOp, dB, dChain, dAndT, dOrT, dNotT, dAndV, dOrV, dNotV, dIf, dNeg, dNil, dCons, dTup, dLst, dLstM, dCB, g1, gIsi, gLen, gLen1, gRepr, gRepr1, gList1, gTuple1, gAll1, gOrd1, gStr1, gInt1, dMt, dMt0, gAppend, gExtend, gUpper, dNext, dSeq, dDrop, dRet, dRetF, dRetX, dRetN, dIfS, dSet, wSeq, wRng1, wRng2, gN, gP, dFor, dLc, dLcM, dYes, dPar, dAsg2, dCall, gI, gI0, gAdd2, gSub2, gAdd, gMul, gLt, gLe, gEq, gNe, gIsN, gNotN, gIn, gIx, gSl, dSl, dNoPart, dPart, dRev, gRev, gAddLM, gRepS, gLIndex, dKIndex, dFCells, dFInt, dFPut, dFeed, startD, wipeD, List.set_cons_zero, List.set_cons_succ, List.getElem?_cons_zero, List.getElem?_cons_succ, List.map_cons, List.map_nil, List.length_cons, List.length_nil, List.replicate, List.cons_append, List.nil_append, dInK, dIxK, wZip, dAsg3, dAsg5, gInS, dDisp, dDIn, dDGet, dCallF, gUpdate]
  refine ⟨by decide, fun p hp => ?_⟩
  have g2 : Base 0 0 ([] : List D) := Base.of (by decide +kernel)
  have hm2 : (mset m p (.lst [])) p = some (.lst _) := mset_same
  have kp2 : ∀ b, b ≠ p → (mset m p (.lst [])) b = m b := fun b hb => mset_ne hb
  generalize (mset m p (.lst [])) = m2 at hm2 kp2 ⊢
  refine seq_in ?_
  refine more (c' := 3) (s' := 100) 3 rfl hm2 g2 (by decide) (fun R r => ?_) fun L3 g3 _ => ?_
  · simp only [dVar, dC, dOp, dB, dChain, dAndT, dOrT, dNotT, dAndV, dOrV, dNotV, dIf, dNeg, dNil, dCons, dTup, dLst, dLstM, dCB, g1, gIsi, gLen, gLen1, gRepr, gRepr1, gList1, gTuple1, gAll1, gOrd1, gStr1, gInt1, dMt, dMt0, gAppend, gExtend, gUpper, dNext, dSeq, dDrop, dRet, dRetF, dRetX, dRetN, dIfS, dSet, wSeq, wRng1, wRng2, gN, gP, dFor, dLc, dLcM, dYes, dPar, dAsg2, dCall, gI, gI0, gAdd2, gSub2, gAdd, gMul, gLt, gLe, gEq, gNe, gIsN, gNotN, gIn, gIx, gSl, dSl, dNoPart, dPart, dRev, gRev, gAddLM, gRepS, gLIndex, dKIndex, dFCells, dFInt, dFPut, dFeed, startD, wipeD, List.set_cons_zero, List.set_cons_succ, List.getElem?_cons_zero, List.getElem?_cons_succ, List.map_cons, List.map_nil, List.length_cons, List.length_nil, List.replicate, List.cons_append, List.nil_append, dInK, dIxK, wZip, dAsg3, dAsg5, gInS, dDisp, dDIn, dDGet, dCallF, gUpdate, List.set_cons_zero, List.set_cons_succ]; repeat (first | exact r _ (Base.of (by decide +kernel)) | refine ⟨by decide, ?_⟩)
  dsimp only
  have kp3 : ∀ b, b ≠ p → (mset m2 p (.lst L3)) b = m b := fun b hb => (mset_ne hb).trans (kp2 b hb)
  have hm3 : (mset m2 p (.lst L3)) p = some (.lst L3) := mset_same
  generalize (mset m2 p (.lst L3)) = m3 at hm3 kp3 ⊢
  refine seq_in ?_
  refine more (c' := 3) (s' := 100) 3 rfl hm3 g3 (by decide) (fun R r => ?_) fun L4 g4 _ => ?_
  · simp only [dVar, dC, dOp, dB, dChain, dAndT, dOrT, dNotT, dAndV, dOrV, dNotV, dIf, dNeg, dNil, dCons, dTup, dLst, dLstM, dCB, g1, gIsi, gLen, gLen1, gRepr, gRepr1, gList1, gTuple1, gAll1, gOrd1, gStr1, gInt1, dMt, dMt0, gAppend, gExtend, gUpper, dNext, dSeq, dDrop, dRet, dRetF, dRetX, dRetN, dIfS, dSet, wSeq, wRng1, wRng2, gN, gP, dFor, dLc, dLcM, dYes, dPar, dAsg2, dCall, gI, gI0, gAdd2, gSub2, gAdd, gMul, gLt, gLe, gEq, gNe, gIsN, gNotN, gIn, gIx, gSl, dSl, dNoPart, dPart, dRev, gRev, gAddLM, gRepS, gLIndex, dKIndex, dFCells, dFInt, dFPut, dFeed, startD, wipeD, List.set_cons_zero, List.set_cons_succ, List.getElem?_cons_zero, List.getElem?_cons_succ, List.map_cons, List.map_nil, List.length_cons, List.length_nil, List.replicate, List.cons_append, List.nil_append, dInK, dIxK, wZip, dAsg3, dAsg5, gInS, dDisp, dDIn, dDGet, dCallF, gUpdate, List.set_cons_zero, List.set_cons_succ]; repeat (first | exact r _ (Base.of (by decide +kernel)) | refine ⟨by decide, ?_⟩)
  dsimp only
  have kp4 : ∀ b, b ≠ p → (mset m3 p (.lst L4)) b = m b := fun b hb => (mset_ne hb).trans (kp3 b hb)
  have hm4 : (mset m3 p (.lst L4)) p = some (.lst L4) := mset_same
  generalize (mset m3 p (.lst L4)) = m4 at hm4 kp4 ⊢
  refine seq_in ?_
  refine more (c' := 3) (s' := 100) 3 rfl hm4 g4 (by decide) (fun R r => ?_) fun L5 g5 _ => ?_
  · simp only [dVar, dC, dOp, dB, dChain, dAndT, dOrT, dNotT, dAndV, dOrV, dNotV, dIf, dNeg, dNil, dCons, dTup, dLst, dLstM, dCB, g1, gIsi, gLen, gLen1, gRepr, gRepr1, gList1, gTuple1, gAll1, gOrd1, gStr1, gInt1, dMt, dMt0, gAppend, gExtend, gUpper, dNext, dSeq, dDrop, dRet, dRetF, dRetX, dRetN, dIfS, dSet, wSeq, wRng1, wRng2, gN, gP, dFor, dLc, dLcM, dYes, dPar, dAsg2, dCall, gI, gI0, gAdd2, gSub2, gAdd, gMul, gLt, gLe, gEq, gNe, gIsN, gNotN, gIn, gIx, gSl, dSl, dNoPart, dPart, dRev, gRev, gAddLM, gRepS, gLIndex, dKIndex, dFCells, dFInt, dFPut, dFeed, startD, wipeD, List.set_cons_zero, List.set_cons_succ, List.getElem?_cons_zero, List.getElem?_cons_succ, List.map_cons, List.map_nil, List.length_cons, List.length_nil, List.replicate, List.cons_append, List.nil_append, dInK, dIxK, wZip, dAsg3, dAsg5, gInS, dDisp, dDIn, dDGet, dCallF, gUpdate, List.set_cons_zero, List.set_cons_succ]; repeat (first | exact r _ (Base.of (by decide +kernel)) | refine ⟨by decide, ?_⟩)
  dsimp only
  have kp5 : ∀ b, b ≠ p → (mset m4 p (.lst L5)) b = m b := fun b hb => (mset_ne hb).trans (kp4 b hb)
  have hm5 : (mset m4 p (.lst L5)) p = some (.lst L5) := mset_same
  generalize (mset m4 p (.lst L5)) = m5 at hm5 kp5 ⊢
  refine seq_in ?_
  refine more (c' := 3) (s' := 100) 3 rfl hm5 g5 (by decide) (fun R r => ?_) fun L6 g6 _ => ?_
  · simp only [dVar, dC, dOp, dB, dChain, dAndT, dOrT, dNotT, dAndV, dOrV, dNotV, dIf, dNeg, dNil, dCons, dTup, dLst, dLstM, dCB, g1, gIsi, gLen, gLen1, gRepr, gRepr1, gList1, gTuple1, gAll1, gOrd1, gStr1, gInt1, dMt, dMt0, gAppend, gExtend, gUpper, dNext, dSeq, dDrop, dRet, dRetF, dRetX, dRetN, dIfS, dSet, wSeq, wRng1, wRng2, gN, gP, dFor, dLc, dLcM, dYes, dPar, dAsg2, dCall, gI, gI0, gAdd2, gSub2, gAdd, gMul, gLt, gLe, gEq, gNe, gIsN, gNotN, gIn, gIx, gSl, dSl, dNoPart, dPart, dRev, gRev, gAddLM, gRepS, gLIndex, dKIndex, dFCells, dFInt, dFPut, dFeed, startD, wipeD, List.set_cons_zero, List.set_cons_succ, List.getElem?_cons_zero, List.getElem?_cons_succ, List.map_cons, List.map_nil, List.length_cons, List.length_nil, List.replicate, List.cons_append, List.nil_append, dInK, dIxK, wZip, dAsg3, dAsg5, gInS, dDisp, dDIn, dDGet, dCallF, gUpdate, List.set_cons_zero, List.set_cons_succ]; repeat (first | exact r _ (Base.of (by decide +kernel)) | refine ⟨by decide, ?_⟩)
  dsimp only
  have kp6 : ∀ b, b ≠ p → (mset m5 p (.lst L6)) b = m b := fun b hb => (mset_ne hb).trans (kp5 b hb)
  have hm6 : (mset m5 p (.lst L6)) p = some (.lst L6) := mset_same
  generalize (mset m5 p (.lst L6)) = m6 at hm6 kp6 ⊢
  refine seq_in ?_
  refine more (c' := 3) (s' := 100) 3 rfl hm6 g6 (by decide) (fun R r => ?_) fun L7 g7 _ => ?_
  · simp only [dVar, dC, dOp, dB, dChain, dAndT, dOrT, dNotT, dAndV, dOrV, dNotV, dIf, dNeg, dNil, dCons, dTup, dLst, dLstM, dCB, g1, gIsi, gLen, gLen1, gRepr, gRepr1, gList1, gTuple1, gAll1, gOrd1, gStr1, gInt1, dMt, dMt0, gAppend, gExtend, gUpper, dNext, dSeq, dDrop, dRet, dRetF, dRetX, dRetN, dIfS, dSet, wSeq, wRng1, wRng2, gN, gP, dFor, dLc, dLcM, dYes, dPar, dAsg2, dCall, gI, gI0, gAdd2, gSub2, gAdd, gMul, gLt, gLe, gEq, gNe, gIsN, gNotN, gIn, gIx, gSl, dSl, dNoPart, dPart, dRev, gRev, gAddLM, gRepS, gLIndex, dKIndex, dFCells, dFInt, dFPut, dFeed, startD, wipeD, List.set_cons_zero, List.set_cons_succ, List.getElem?_cons_zero, List.getElem?_cons_succ, List.map_cons, List.map_nil, List.length_cons, List.length_nil, List.replicate, List.cons_append, List.nil_append, dInK, dIxK, wZip, dAsg3, dAsg5, gInS, dDisp, dDIn, dDGet, dCallF, gUpdate, List.set_cons_zero, List.set_cons_succ]; repeat (first | exact r _ (Base.of (by decide +kernel)) | refine ⟨by decide, ?_⟩)
  dsimp only
  have kp7 : ∀ b, b ≠ p → (mset m6 p (.lst L7)) b = m b := fun b hb => (mset_ne hb).trans (kp6 b hb)
  have hm7 : (mset m6 p (.lst L7)) p = some (.lst L7) := mset_same
  generalize (mset m6 p (.lst L7)) = m7 at hm7 kp7 ⊢
  refine seq_in ?_
  refine more (c' := 3) (s' := 100) 3 rfl hm7 g7 (by decide) (fun R r => ?_) fun L8 g8 _ => ?_
  · simp only [dVar, dC, dOp, dB, dChain, dAndT, dOrT, dNotT, dAndV, dOrV, dNotV, dIf, dNeg, dNil, dCons, dTup, dLst, dLstM, dCB, g1, gIsi, gLen, gLen1, gRepr, gRepr1, gList1, gTuple1, gAll1, gOrd1, gStr1, gInt1, dMt, dMt0, gAppend, gExtend, gUpper, dNext, dSeq, dDrop, dRet, dRetF, dRetX, dRetN, dIfS, dSet, wSeq, wRng1, wRng2, gN, gP, dFor, dLc, dLcM, dYes, dPar, dAsg2, dCall, gI, gI0, gAdd2, gSub2, gAdd, gMul, gLt, gLe, gEq, gNe, gIsN, gNotN, gIn, gIx, gSl, dSl, dNoPart, dPart, dRev, gRev, gAddLM, gRepS, gLIndex, dKIndex, dFCells, dFInt, dFPut, dFeed, startD, wipeD, List.set_cons_zero, List.set_cons_succ, List.getElem?_cons_zero, List.getElem?_cons_succ, List.map_cons, List.map_nil, List.length_cons, List.length_nil, List.replicate, List.cons_append, List.nil_append, dInK, dIxK, wZip, dAsg3, dAsg5, gInS, dDisp, dDIn, dDGet, dCallF, gUpdate, List.set_cons_zero, List.set_cons_succ]; repeat (first | exact r _ (Base.of (by decide +kernel)) | refine ⟨by decide, ?_⟩)
  dsimp only
  have kp8 : ∀ b, b ≠ p → (mset m7 p (.lst L8)) b = m b := fun b hb => (mset_ne hb).trans (kp7 b hb)
  have hm8 : (mset m7 p (.lst L8)) p = some (.lst L8) := mset_same
  generalize (mset m7 p (.lst L8)) = m8 at hm8 kp8 ⊢
  refine seq_in ?_
  refine more (c' := 3) (s' := 100) 3 rfl hm8 g8 (by decide) (fun R r => ?_) fun L9 g9 _ => ?_
  · simp only [dVar, dC, dOp, dB, dChain, dAndT, dOrT, dNotT, dAndV, dOrV, dNotV, dIf, dNeg, dNil, dCons, dTup, dLst, dLstM, dCB, g1, gIsi, gLen, gLen1, gRepr, gRepr1, gList1, gTuple1, gAll1, gOrd1, gStr1, gInt1, dMt, dMt0, gAppend, gExtend, gUpper, dNext, dSeq, dDrop, dRet, dRetF, dRetX, dRetN, dIfS, dSet, wSeq, wRng1, wRng2, gN, gP, dFor, dLc, dLcM, dYes, dPar, dAsg2, dCall, gI, gI0, gAdd2, gSub2, gAdd, gMul, gLt, gLe, gEq, gNe, gIsN, gNotN, gIn, gIx, gSl, dSl, dNoPart, dPart, dRev, gRev, gAddLM, gRepS, gLIndex, dKIndex, dFCells, dFInt, dFPut, dFeed, startD, wipeD, List.set_cons_zero, List.set_cons_succ, List.getElem?_cons_zero, List.getElem?_cons_succ, List.map_cons, List.map_nil, List.length_cons, List.length_nil, List.replicate, List.cons_append, List.nil_append, dInK, dIxK, wZip, dAsg3, dAsg5, gInS, dDisp, dDIn, dDGet, dCallF, gUpdate, List.set_cons_zero, List.set_cons_succ]; repeat (first | exact r _ (Base.of (by decide +kernel)) | refine ⟨by decide, ?_⟩)
  dsimp only
  have kp9 : ∀ b, b ≠ p → (mset m8 p (.lst L9)) b = m b := fun b hb => (mset_ne hb).trans (kp8 b hb)
  have hm9 : (mset m8 p (.lst L9)) p = some (.lst L9) := mset_same
  generalize (mset m8 p (.lst L9)) = m9 at hm9 kp9 ⊢
  refine seq_in ?_
  refine more (c' := 3) (s' := 100) 3 rfl hm9 g9 (by decide) (fun R r => ?_) fun L10 g10 _ => ?_
  · simp only [dVar, dC, dOp, dB, dChain, dAndT, dOrT, dNotT, dAndV, dOrV, dNotV, dIf, dNeg, dNil, dCons, dTup, dLst, dLstM, dCB, g1, gIsi, gLen, gLen1, gRepr, gRepr1, gList1, gTuple1, gAll1, gOrd1, gStr1, gInt1, dMt, dMt0, gAppend, gExtend, gUpper, dNext, dSeq, dDrop, dRet, dRetF, dRetX, dRetN, dIfS, dSet, wSeq, wRng1, wRng2, gN, gP, dFor, dLc, dLcM, dYes, dPar, dAsg2, dCall, gI, gI0, gAdd2, gSub2, gAdd, gMul, gLt, gLe, gEq, gNe, gIsN, gNotN, gIn, gIx, gSl, dSl, dNoPart, dPart, dRev, gRev, gAddLM, gRepS, gLIndex, dKIndex, dFCells, dFInt, dFPut, dFeed, startD, wipeD, List.set_cons_zero, List.set_cons_succ, List.getElem?_cons_zero, List.getElem?_cons_succ, List.map_cons, List.map_nil, List.length_cons, List.length_nil, List.replicate, List.cons_append, List.nil_append, dInK, dIxK, wZip, dAsg3, dAsg5, gInS, dDisp, dDIn, dDGet, dCallF, gUpdate, List.set_cons_zero, List.set_cons_succ]; repeat (first | exact r _ (Base.of (by decide +kernel)) | refine ⟨by decide, ?_⟩)
  dsimp only
  have kp10 : ∀ b, b ≠ p → (mset m9 p (.lst L10)) b = m b := fun b hb => (mset_ne hb).trans (kp9 b hb)
  have hm10 : (mset m9 p (.lst L10)) p = some (.lst L10) := mset_same
  generalize (mset m9 p (.lst L10)) = m10 at hm10 kp10 ⊢
  refine seq_in ?_
  refine more (c' := 3) (s' := 100) 3 rfl hm10 g10 (by decide) (fun R r => ?_) fun L11 g11 _ => ?_
  · simp only [dVar, dC, dOp, dB, dChain, dAndT, dOrT, dNotT, dAndV, dOrV, dNotV, dIf, dNeg, dNil, dCons, dTup, dLst, dLstM, dCB, g1, gIsi, gLen, gLen1, gRepr, gRepr1, gList1, gTuple1, gAll1, gOrd1, gStr1, gInt1, dMt, dMt0, gAppend, gExtend, gUpper, dNext, dSeq, dDrop, dRet, dRetF, dRetX, dRetN, dIfS, dSet, wSeq, wRng1, wRng2, gN, gP, dFor, dLc, dLcM, dYes, dPar, dAsg2, dCall, gI, gI0, gAdd2, gSub2, gAdd, gMul, gLt, gLe, gEq, gNe, gIsN, gNotN, gIn, gIx, gSl, dSl, dNoPart, dPart, dRev, gRev, gAddLM, gRepS, gLIndex, dKIndex, dFCells, dFInt, dFPut, dFeed, startD, wipeD, List.set_cons_zero, List.set_cons_succ, List.getElem?_cons_zero, List.getElem?_cons_succ, List.map_cons, List.map_nil, List.length_cons, List.length_nil, List.replicate, List.cons_append, List.nil_append, dInK, dIxK, wZip, dAsg3, dAsg5, gInS, dDisp, dDIn, dDGet, dCallF, gUpdate, List.set_cons_zero, List.set_cons_succ]; repeat (first | exact r _ (Base.of (by decide +kernel)) | refine ⟨by decide, ?_⟩)
  dsimp only
  have kp11 : ∀ b, b ≠ p → (mset m10 p (.lst L11)) b = m b := fun b hb => (mset_ne hb).trans (kp10 b hb)
  have hm11 : (mset m10 p (.lst L11)) p = some (.lst L11) := mset_same
  generalize (mset m10 p (.lst L11)) = m11 at hm11 kp11 ⊢
  refine seq_in ?_
  refine more (c' := 3) (s' := 100) 3 rfl hm11 g11 (by decide) (fun R r => ?_) fun L12 g12 _ => ?_
  · simp only [dVar, dC, dOp, dB, dChain, dAndT, dOrT, dNotT, dAndV, dOrV, dNotV, dIf, dNeg, dNil, dCons, dTup, dLst, dLstM, dCB, g1, gIsi, gLen, gLen1, gRepr, gRepr1, gList1, gTuple1, gAll1, gOrd1, gStr1, gInt1, dMt, dMt0, gAppend, gExtend, gUpper, dNext, dSeq, dDrop, dRet, dRetF, dRetX, dRetN, dIfS, dSet, wSeq, wRng1, wRng2, gN, gP, dFor, dLc, dLcM, dYes, dPar, dAsg2, dCall, gI, gI0, gAdd2, gSub2, gAdd, gMul, gLt, gLe, gEq, gNe, gIsN, gNotN, gIn, gIx, gSl, dSl, dNoPart, dPart, dRev, gRev, gAddLM, gRepS, gLIndex, dKIndex, dFCells, dFInt, dFPut, dFeed, startD, wipeD, List.set_cons_zero, List.set_cons_succ, List.getElem?_cons_zero, List.getElem?_cons_succ, List.map_cons, List.map_nil, List.length_cons, List.length_nil, List.replicate, List.cons_append, List.nil_append, dInK, dIxK, wZip, dAsg3, dAsg5, gInS, dDisp, dDIn, dDGet, dCallF, gUpdate, List.set_cons_zero, List.set_cons_succ]; repeat (first | exact r _ (Base.of (by decide +kernel)) | refine ⟨by decide, ?_⟩)
  dsimp only
  have kp12 : ∀ b, b ≠ p → (mset m11 p (.lst L12)) b = m b := fun b hb => (mset_ne hb).trans (kp11 b hb)
  have hm12 : (mset m11 p (.lst L12)) p = some (.lst L12) := mset_same
  generalize (mset m11 p (.lst L12)) = m12 at hm12 kp12 ⊢
  refine seq_in ?_
  refine more (c' := 3) (s' := 100) 3 rfl hm12 g12 (by decide) (fun R r => ?_) fun L13 g13 _ => ?_
  · simp only [dVar, dC, dOp, dB, dChain, dAndT, dOrT, dNotT, dAndV, dOrV, dNotV, dIf, dNeg, dNil, dCons, dTup, dLst, dLstM, dCB, g1, gIsi, gLen, gLen1, gRepr, gRepr1, gList1, gTuple1, gAll1, gOrd1, gStr1, gInt1, dMt, dMt0, gAppend, gExtend, gUpper, dNext, dSeq, dDrop, dRet, dRetF, dRetX, dRetN, dIfS, dSet, wSeq, wRng1, wRng2, gN, gP, dFor, dLc, dLcM, dYes, dPar, dAsg2, dCall, gI, gI0, gAdd2, gSub2, gAdd, gMul, gLt, gLe, gEq, gNe, gIsN, gNotN, gIn, gIx, gSl, dSl, dNoPart, dPart, dRev, gRev, gAddLM, gRepS, gLIndex, dKIndex, dFCells, dFInt, dFPut, dFeed, startD, wipeD, List.set_cons_zero, List.set_cons_succ, List.getElem?_cons_zero, List.getElem?_cons_succ, List.map_cons, List.map_nil, List.length_cons, List.length_nil, List.replicate, List.cons_append, List.nil_append, dInK, dIxK, wZip, dAsg3, dAsg5, gInS, dDisp, dDIn, dDGet, dCallF, gUpdate, List.set_cons_zero, List.set_cons_succ]; repeat (first | exact r _ (Base.of (by decide +kernel)) | refine ⟨by decide, ?_⟩)
  dsimp only
  have kp13 : ∀ b, b ≠ p → (mset m12 p (.lst L13)) b = m b := fun b hb => (mset_ne hb).trans (kp12 b hb)
  have hm13 : (mset m12 p (.lst L13)) p = some (.lst L13) := mset_same
  generalize (mset m12 p (.lst L13)) = m13 at hm13 kp13 ⊢
  refine seq_in ?_
  refine more (c' := 3) (s' := 100) 3 rfl hm13 g13 (by decide) (fun R r => ?_) fun L14 g14 _ => ?_
  · simp only [dVar, dC, dOp, dB, dChain, dAndT, dOrT, dNotT, dAndV, dOrV, dNotV, dIf, dNeg, dNil, dCons, dTup, dLst, dLstM, dCB, g1, gIsi, gLen, gLen1, gRepr, gRepr1, gList1, gTuple1, gAll1, gOrd1, gStr1, gInt1, dMt, dMt0, gAppend, gExtend, gUpper, dNext, dSeq, dDrop, dRet, dRetF, dRetX, dRetN, dIfS, dSet, wSeq, wRng1, wRng2, gN, gP, dFor, dLc, dLcM, dYes, dPar, dAsg2, dCall, gI, gI0, gAdd2, gSub2, gAdd, gMul, gLt, gLe, gEq, gNe, gIsN, gNotN, gIn, gIx, gSl, dSl, dNoPart, dPart, dRev, gRev, gAddLM, gRepS, gLIndex, dKIndex, dFCells, dFInt, dFPut, dFeed, startD, wipeD, List.set_cons_zero, List.set_cons_succ, List.getElem?_cons_zero, List.getElem?_cons_succ, List.map_cons, List.map_nil, List.length_cons, List.length_nil, List.replicate, List.cons_append, List.nil_append, dInK, dIxK, wZip, dAsg3, dAsg5, gInS, dDisp, dDIn, dDGet, dCallF, gUpdate, List.set_cons_zero, List.set_cons_succ]; repeat (first | exact r _ (Base.of (by decide +kernel)) | refine ⟨by decide, ?_⟩)
  dsimp only
  have kp14 : ∀ b, b ≠ p → (mset m13 p (.lst L14)) b = m b := fun b hb => (mset_ne hb).trans (kp13 b hb)
  have hm14 : (mset m13 p (.lst L14)) p = some (.lst L14) := mset_same
  generalize (mset m13 p (.lst L14)) = m14 at hm14 kp14 ⊢
  refine seq_in ?_
  refine more (c' := 3) (s' := 100) 3 rfl hm14 g14 (by decide) (fun R r => ?_) fun L15 g15 _ => ?_
  · simp only [dVar, dC, dOp, dB, dChain, dAndT, dOrT, dNotT, dAndV, dOrV, dNotV, dIf, dNeg, dNil, dCons, dTup, dLst, dLstM, dCB, g1, gIsi, gLen, gLen1, gRepr, gRepr1, gList1, gTuple1, gAll1, gOrd1, gStr1, gInt1, dMt, dMt0, gAppend, gExtend, gUpper, dNext, dSeq, dDrop, dRet, dRetF, dRetX, dRetN, dIfS, dSet, wSeq, wRng1, wRng2, gN, gP, dFor, dLc, dLcM, dYes, dPar, dAsg2, dCall, gI, gI0, gAdd2, gSub2, gAdd, gMul, gLt, gLe, gEq, gNe, gIsN, gNotN, gIn, gIx, gSl, dSl, dNoPart, dPart, dRev, gRev, gAddLM, gRepS, gLIndex, dKIndex, dFCells, dFInt, dFPut, dFeed, startD, wipeD, List.set_cons_zero, List.set_cons_succ, List.getElem?_cons_zero, List.getElem?_cons_succ, List.map_cons, List.map_nil, List.length_cons, List.length_nil, List.replicate, List.cons_append, List.nil_append, dInK, dIxK, wZip, dAsg3, dAsg5, gInS, dDisp, dDIn, dDGet, dCallF, gUpdate, List.set_cons_zero, List.set_cons_succ]; repeat (first | exact r _ (Base.of (by decide +kernel)) | refine ⟨by decide, ?_⟩)
  dsimp only
  have kp15 : ∀ b, b ≠ p → (mset m14 p (.lst L15)) b = m b := fun b hb => (mset_ne hb).trans (kp14 b hb)
  have hm15 : (mset m14 p (.lst L15)) p = some (.lst L15) := mset_same
  generalize (mset m14 p (.lst L15)) = m15 at hm15 kp15 ⊢
  refine seq_in ?_
  refine more (c' := 3) (s' := 100) 3 rfl hm15 g15 (by decide) (fun R r => ?_) fun L16 g16 _ => ?_
  · simp only [dVar, dC, dOp, dB, dChain, dAndT, dOrT, dNotT, dAndV, dOrV, dNotV, dIf, dNeg, dNil, dCons, dTup, dLst, dLstM, dCB, g1, gIsi, gLen, gLen1, gRepr, gRepr1, gList1, gTuple1, gAll1, gOrd1, gStr1, gInt1, dMt, dMt0, gAppend, gExtend, gUpper, dNext, dSeq, dDrop, dRet, dRetF, dRetX, dRetN, dIfS, dSet, wSeq, wRng1, wRng2, gN, gP, dFor, dLc, dLcM, dYes, dPar, dAsg2, dCall, gI, gI0, gAdd2, gSub2, gAdd, gMul, gLt, gLe, gEq, gNe, gIsN, gNotN, gIn, gIx, gSl, dSl, dNoPart, dPart, dRev, gRev, gAddLM, gRepS, gLIndex, dKIndex, dFCells, dFInt, dFPut, dFeed, startD, wipeD, List.set_cons_zero, List.set_cons_succ, List.getElem?_cons_zero, List.getElem?_cons_succ, List.map_cons, List.map_nil, List.length_cons, List.length_nil, List.replicate, List.cons_append, List.nil_append, dInK, dIxK, wZip, dAsg3, dAsg5, gInS, dDisp, dDIn, dDGet, dCallF, gUpdate, List.set_cons_zero, List.set_cons_succ]; repeat (first | exact r _ (Base.of (by decide +kernel)) | refine ⟨by decide, ?_⟩)
  dsimp only
  have kp16 : ∀ b, b ≠ p → (mset m15 p (.lst L16)) b = m b := fun b hb => (mset_ne hb).trans (kp15 b hb)
  have hm16 : (mset m15 p (.lst L16)) p = some (.lst L16) := mset_same
  generalize (mset m15 p (.lst L16)) = m16 at hm16 kp16 ⊢
  refine seq_in ?_
  refine more (c' := 3) (s' := 100) 3 rfl hm16 g16 (by decide) (fun R r => ?_) fun L17 g17 _ => ?_
  · simp only [dVar, dC, dOp, dB, dChain, dAndT, dOrT, dNotT, dAndV, dOrV, dNotV, dIf, dNeg, dNil, dCons, dTup, dLst, dLstM, dCB, g1, gIsi, gLen, gLen1, gRepr, gRepr1, gList1, gTuple1, gAll1, gOrd1, gStr1, gInt1, dMt, dMt0, gAppend, gExtend, gUpper, dNext, dSeq, dDrop, dRet, dRetF, dRetX, dRetN, dIfS, dSet, wSeq, wRng1, wRng2, gN, gP, dFor, dLc, dLcM, dYes, dPar, dAsg2, dCall, gI, gI0, gAdd2, gSub2, gAdd, gMul, gLt, gLe, gEq, gNe, gIsN, gNotN, gIn, gIx, gSl, dSl, dNoPart, dPart, dRev, gRev, gAddLM, gRepS, gLIndex, dKIndex, dFCells, dFInt, dFPut, dFeed, startD, wipeD, List.set_cons_zero, List.set_cons_succ, List.getElem?_cons_zero, List.getElem?_cons_succ, List.map_cons, List.map_nil, List.length_cons, List.length_nil, List.replicate, List.cons_append, List.nil_append, dInK, dIxK, wZip, dAsg3, dAsg5, gInS, dDisp, dDIn, dDGet, dCallF, gUpdate, List.set_cons_zero, List.set_cons_succ]; repeat (first | exact r _ (Base.of (by decide +kernel)) | refine ⟨by decide, ?_⟩)
  dsimp only
  have kp17 : ∀ b, b ≠ p → (mset m16 p (.lst L17)) b = m b := fun b hb => (mset_ne hb).trans (kp16 b hb)
  have hm17 : (mset m16 p (.lst L17)) p = some (.lst L17) := mset_same
  generalize (mset m16 p (.lst L17)) = m17 at hm17 kp17 ⊢
  refine seq_in ?_
  refine more (c' := 3) (s' := 100) 3 rfl hm17 g17 (by decide) (fun R r => ?_) fun L18 g18 _ => ?_
  · simp only [dVar, dC, dOp, dB, dChain, dAndT, dOrT, dNotT, dAndV, dOrV, dNotV, dIf, dNeg, dNil, dCons, dTup, dLst, dLstM, dCB, g1, gIsi, gLen, gLen1, gRepr, gRepr1, gList1, gTuple1, gAll1, gOrd1, gStr1, gInt1, dMt, dMt0, gAppend, gExtend, gUpper, dNext, dSeq, dDrop, dRet, dRetF, dRetX, dRetN, dIfS, dSet, wSeq, wRng1, wRng2, gN, gP, dFor, dLc, dLcM, dYes, dPar, dAsg2, dCall, gI, gI0, gAdd2, gSub2, gAdd, gMul, gLt, gLe, gEq, gNe, gIsN, gNotN, gIn, gIx, gSl, dSl, dNoPart, dPart, dRev, gRev, gAddLM, gRepS, gLIndex, dKIndex, dFCells, dFInt, dFPut, dFeed, startD, wipeD, List.set_cons_zero, List.set_cons_succ, List.getElem?_cons_zero, List.getElem?_cons_succ, List.map_cons, List.map_nil, List.length_cons, List.length_nil, List.replicate, List.cons_append, List.nil_append, dInK, dIxK, wZip, dAsg3, dAsg5, gInS, dDisp, dDIn, dDGet, dCallF, gUpdate, List.set_cons_zero, List.set_cons_succ]; repeat (first | exact r _ (Base.of (by decide +kernel)) | refine ⟨by decide, ?_⟩)
  dsimp only
  have kp18 : ∀ b, b ≠ p → (mset m17 p (.lst L18)) b = m b := fun b hb => (mset_ne hb).trans (kp17 b hb)
  have hm18 : (mset m17 p (.lst L18)) p = some (.lst L18) := mset_same
  generalize (mset m17 p (.lst L18)) = m18 at hm18 kp18 ⊢
  refine seq_in ?_
  refine more (c' := 3) (s' := 100) 3 rfl hm18 g18 (by decide) (fun R r => ?_) fun L19 g19 _ => ?_
  · simp only [dVar, dC, dOp, dB, dChain, dAndT, dOrT, dNotT, dAndV, dOrV, dNotV, dIf, dNeg, dNil, dCons, dTup, dLst, dLstM, dCB, g1, gIsi, gLen, gLen1, gRepr, gRepr1, gList1, gTuple1, gAll1, gOrd1, gStr1, gInt1, dMt, dMt0, gAppend, gExtend, gUpper, dNext, dSeq, dDrop, dRet, dRetF, dRetX, dRetN, dIfS, dSet, wSeq, wRng1, wRng2, gN, gP, dFor, dLc, dLcM, dYes, dPar, dAsg2, dCall, gI, gI0, gAdd2, gSub2, gAdd, gMul, gLt, gLe, gEq, gNe, gIsN, gNotN, gIn, gIx, gSl, dSl, dNoPart, dPart, dRev, gRev, gAddLM, gRepS, gLIndex, dKIndex, dFCells, dFInt, dFPut, dFeed, startD, wipeD, List.set_cons_zero, List.set_cons_succ, List.getElem?_cons_zero, List.getElem?_cons_succ, List.map_cons, List.map_nil, List.length_cons, List.length_nil, List.replicate, List.cons_append, List.nil_append, dInK, dIxK, wZip, dAsg3, dAsg5, gInS, dDisp, dDIn, dDGet, dCallF, gUpdate, List.set_cons_zero, List.set_cons_succ]; repeat (first | exact r _ (Base.of (by decide +kernel)) | refine ⟨by decide, ?_⟩)
  dsimp only
  have kp19 : ∀ b, b ≠ p → (mset m18 p (.lst L19)) b = m b := fun b hb => (mset_ne hb).trans (kp18 b hb)
  have hm19 : (mset m18 p (.lst L19)) p = some (.lst L19) := mset_same
  generalize (mset m18 p (.lst L19)) = m19 at hm19 kp19 ⊢
  refine seq_in ?_
  refine more (c' := 3) (s' := 100) 3 rfl hm19 g19 (by decide) (fun R r => ?_) fun L20 g20 _ => ?_
  · simp only [dVar, dC, dOp, dB, dChain, dAndT, dOrT, dNotT, dAndV, dOrV, dNotV, dIf, dNeg, dNil, dCons, dTup, dLst, dLstM, dCB, g1, gIsi, gLen, gLen1, gRepr, gRepr1, gList1, gTuple1, gAll1, gOrd1, gStr1, gInt1, dMt, dMt0, gAppend, gExtend, gUpper, dNext, dSeq, dDrop, dRet, dRetF, dRetX, dRetN, dIfS, dSet, wSeq, wRng1, wRng2, gN, gP, dFor, dLc, dLcM, dYes, dPar, dAsg2, dCall, gI, gI0, gAdd2, gSub2, gAdd, gMul, gLt, gLe, gEq, gNe, gIsN, gNotN, gIn, gIx, gSl, dSl, dNoPart, dPart, dRev, gRev, gAddLM, gRepS, gLIndex, dKIndex, dFCells, dFInt, dFPut, dFeed, startD, wipeD, List.set_cons_zero, List.set_cons_succ, List.getElem?_cons_zero, List.getElem?_cons_succ, List.map_cons, List.map_nil, List.length_cons, List.length_nil, List.replicate, List.cons_append, List.nil_append, dInK, dIxK, wZip, dAsg3, dAsg5, gInS, dDisp, dDIn, dDGet, dCallF, gUpdate, List.set_cons_zero, List.set_cons_succ]; repeat (first | exact r _ (Base.of (by decide +kernel)) | refine ⟨by decide, ?_⟩)
  dsimp only
  have kp20 : ∀ b, b ≠ p → (mset m19 p (.lst L20)) b = m b := fun b hb => (mset_ne hb).trans (kp19 b hb)
  have hm20 : (mset m19 p (.lst L20)) p = some (.lst L20) := mset_same
  generalize (mset m19 p (.lst L20)) = m20 at hm20 kp20 ⊢
  refine seq_in ?_
  refine more (c' := 3) (s' := 100) 3 rfl hm20 g20 (by decide) (fun R r => ?_) fun L21 g21 _ => ?_
  · simp only [dVar, dC, dOp, dB, dChain, dAndT, dOrT, dNotT, dAndV, dOrV, dNotV, dIf, dNeg, dNil, dCons, dTup, dLst, dLstM, dCB, g1, gIsi, gLen, gLen1, gRepr, gRepr1, gList1, gTuple1, gAll1, gOrd1, gStr1, gInt1, dMt, dMt0, gAppend, gExtend, gUpper, dNext, dSeq, dDrop, dRet, dRetF, dRetX, dRetN, dIfS, dSet, wSeq, wRng1, wRng2, gN, gP, dFor, dLc, dLcM, dYes, dPar, dAsg2, dCall, gI, gI0, gAdd2, gSub2, gAdd, gMul, gLt, gLe, gEq, gNe, gIsN, gNotN, gIn, gIx, gSl, dSl, dNoPart, dPart, dRev, gRev, gAddLM, gRepS, gLIndex, dKIndex, dFCells, dFInt, dFPut, dFeed, startD, wipeD, List.set_cons_zero, List.set_cons_succ, List.getElem?_cons_zero, List.getElem?_cons_succ, List.map_cons, List.map_nil, List.length_cons, List.length_nil, List.replicate, List.cons_append, List.nil_append, dInK, dIxK, wZip, dAsg3, dAsg5, gInS, dDisp, dDIn, dDGet, dCallF, gUpdate, List.set_cons_zero, List.set_cons_succ]; repeat (first | exact r _ (Base.of (by decide +kernel)) | refine ⟨by decide, ?_⟩)
  dsimp only
  have kp21 : ∀ b, b ≠ p → (mset m20 p (.lst L21)) b = m b := fun b hb => (mset_ne hb).trans (kp20 b hb)
  have hm21 : (mset m20 p (.lst L21)) p = some (.lst L21) := mset_same
  generalize (mset m20 p (.lst L21)) = m21 at hm21 kp21 ⊢
  refine seq_in ?_
  refine more (c' := 3) (s' := 100) 3 rfl hm21 g21 (by decide) (fun R r => ?_) fun L22 g22 _ => ?_
  · simp only [dVar, dC, dOp, dB, dChain, dAndT, dOrT, dNotT, dAndV, dOrV, dNotV, dIf, dNeg, dNil, dCons, dTup, dLst, dLstM, dCB, g1, gIsi, gLen, gLen1, gRepr, gRepr1, gList1, gTuple1, gAll1, gOrd1, gStr1, gInt1, dMt, dMt0, gAppend, gExtend, gUpper, dNext, dSeq, dDrop, dRet, dRetF, dRetX, dRetN, dIfS, dSet, wSeq, wRng1, wRng2, gN, gP, dFor, dLc, dLcM, dYes, dPar, dAsg2, dCall, gI, gI0, gAdd2, gSub2, gAdd, gMul, gLt, gLe, gEq, gNe, gIsN, gNotN, gIn, gIx, gSl, dSl, dNoPart, dPart, dRev, gRev, gAddLM, gRepS, gLIndex, dKIndex, dFCells, dFInt, dFPut, dFeed, startD, wipeD, List.set_cons_zero, List.set_cons_succ, List.getElem?_cons_zero, List.getElem?_cons_succ, List.map_cons, List.map_nil, List.length_cons, List.length_nil, List.replicate, List.cons_append, List.nil_append, dInK, dIxK, wZip, dAsg3, dAsg5, gInS, dDisp, dDIn, dDGet, dCallF, gUpdate, List.set_cons_zero, List.set_cons_succ]; repeat (first | exact r _ (Base.of (by decide +kernel)) | refine ⟨by decide, ?_⟩)
  dsimp only
  have kp22 : ∀ b, b ≠ p → (mset m21 p (.lst L22)) b = m b := fun b hb => (mset_ne hb).trans (kp21 b hb)
  have hm22 : (mset m21 p (.lst L22)) p = some (.lst L22) := mset_same
  generalize (mset m21 p (.lst L22)) = m22 at hm22 kp22 ⊢
  refine seq_in ?_
  refine more (c' := 3) (s' := 100) 3 rfl hm22 g22 (by decide) (fun R r => ?_) fun L23 g23 _ => ?_
  · simp only [dVar, dC, dOp, dB, dChain, dAndT, dOrT, dNotT, dAndV, dOrV, dNotV, dIf, dNeg, dNil, dCons, dTup, dLst, dLstM, dCB, g1, gIsi, gLen, gLen1, gRepr, gRepr1, gList1, gTuple1, gAll1, gOrd1, gStr1, gInt1, dMt, dMt0, gAppend, gExtend, gUpper, dNext, dSeq, dDrop, dRet, dRetF, dRetX, dRetN, dIfS, dSet, wSeq, wRng1, wRng2, gN, gP, dFor, dLc, dLcM, dYes, dPar, dAsg2, dCall, gI, gI0, gAdd2, gSub2, gAdd, gMul, gLt, gLe, gEq, gNe, gIsN, gNotN, gIn, gIx, gSl, dSl, dNoPart, dPart, dRev, gRev, gAddLM, gRepS, gLIndex, dKIndex, dFCells, dFInt, dFPut, dFeed, startD, wipeD, List.set_cons_zero, List.set_cons_succ, List.getElem?_cons_zero, List.getElem?_cons_succ, List.map_cons, List.map_nil, List.length_cons, List.length_nil, List.replicate, List.cons_append, List.nil_append, dInK, dIxK, wZip, dAsg3, dAsg5, gInS, dDisp, dDIn, dDGet, dCallF, gUpdate, List.set_cons_zero, List.set_cons_succ]; repeat (first | exact r _ (Base.of (by decide +kernel)) | refine ⟨by decide, ?_⟩)
  dsimp only
  have kp23 : ∀ b, b ≠ p → (mset m22 p (.lst L23)) b = m b := fun b hb => (mset_ne hb).trans (kp22 b hb)
  have hm23 : (mset m22 p (.lst L23)) p = some (.lst L23) := mset_same
  generalize (mset m22 p (.lst L23)) = m23 at hm23 kp23 ⊢
  refine seq_in ?_
  refine more (c' := 3) (s' := 100) 3 rfl hm23 g23 (by decide) (fun R r => ?_) fun L24 g24 _ => ?_
  · simp only [dVar, dC, dOp, dB, dChain, dAndT, dOrT, dNotT, dAndV, dOrV, dNotV, dIf, dNeg, dNil, dCons, dTup, dLst, dLstM, dCB, g1, gIsi, gLen, gLen1, gRepr, gRepr1, gList1, gTuple1, gAll1, gOrd1, gStr1, gInt1, dMt, dMt0, gAppend, gExtend, gUpper, dNext, dSeq, dDrop, dRet, dRetF, dRetX, dRetN, dIfS, dSet, wSeq, wRng1, wRng2, gN, gP, dFor, dLc, dLcM, dYes, dPar, dAsg2, dCall, gI, gI0, gAdd2, gSub2, gAdd, gMul, gLt, gLe, gEq, gNe, gIsN, gNotN, gIn, gIx, gSl, dSl, dNoPart, dPart, dRev, gRev, gAddLM, gRepS, gLIndex, dKIndex, dFCells, dFInt, dFPut, dFeed, startD, wipeD, List.set_cons_zero, List.set_cons_succ, List.getElem?_cons_zero, List.getElem?_cons_succ, List.map_cons, List.map_nil, List.length_cons, List.length_nil, List.replicate, List.cons_append, List.nil_append, dInK, dIxK, wZip, dAsg3, dAsg5, gInS, dDisp, dDIn, dDGet, dCallF, gUpdate, List.set_cons_zero, List.set_cons_succ]; repeat (first | exact r _ (Base.of (by decide +kernel)) | refine ⟨by decide, ?_⟩)
  dsimp only
  have kp24 : ∀ b, b ≠ p → (mset m23 p (.lst L24)) b = m b := fun b hb => (mset_ne hb).trans (kp23 b hb)
  have hm24 : (mset m23 p (.lst L24)) p = some (.lst L24) := mset_same
  generalize (mset m23 p (.lst L24)) = m24 at hm24 kp24 ⊢
  refine seq_in ?_
  simp only [g__law_others_25, dVar, dC, dOp, dB, dChain, dAndT, dOrT, dNotT, dAndV, dOrV, dNotV, dIf, dNeg, dNil, dCons, dTup, dLst, dLstM, dCB, g1, gIsi, gLen, gLen1, gRepr, gRepr1, gList1, gTuple1, gAll1, gOrd1, gStr1, gInt1, dMt, dMt0, gAppend, gExtend, gUpper, dNext, dSeq, dDrop, dRet, dRetF, dRetX, dRetN, dIfS, dSet, wSeq, wRng1, wRng2, gN, gP, dFor, dLc, dLcM, dYes, dPar, dAsg2, dCall, gI, gI0, gAdd2, gSub2, gAdd, gMul, gLt, gLe, gEq, gNe, gIsN, gNotN, gIn, gIx, gSl, dSl, dNoPart, dPart, dRev, gRev, gAddLM, gRepS, gLIndex, dKIndex, dFCells, dFInt, dFPut, dFeed, startD, wipeD, List.set_cons_zero, List.set_cons_succ, List.getElem?_cons_zero, List.getElem?_cons_succ, List.map_cons, List.map_nil, List.length_cons, List.length_nil, List.replicate, List.cons_append, List.nil_append, dInK, dIxK, wZip, dAsg3, dAsg5, gInS, dDisp, dDIn, dDGet, dCallF, gUpdate]
  refine ⟨by decide, ?_⟩
  refine seq_in ?_
  refine more (c' := 3) (s' := 100) 3 rfl hm24 g24 (by decide) (fun R r => ?_) fun L26 g26 _ => ?_
  · simp only [dVar, dC, dOp, dB, dChain, dAndT, dOrT, dNotT, dAndV, dOrV, dNotV, dIf, dNeg, dNil, dCons, dTup, dLst, dLstM, dCB, g1, gIsi, gLen, gLen1, gRepr, gRepr1, gList1, gTuple1, gAll1, gOrd1, gStr1, gInt1, dMt, dMt0, gAppend, gExtend, gUpper, dNext, dSeq, dDrop, dRet, dRetF, dRetX, dRetN, dIfS, dSet, wSeq, wRng1, wRng2, gN, gP, dFor, dLc, dLcM, dYes, dPar, dAsg2, dCall, gI, gI0, gAdd2, gSub2, gAdd, gMul, gLt, gLe, gEq, gNe, gIsN, gNotN, gIn, gIx, gSl, dSl, dNoPart, dPart, dRev, gRev, gAddLM, gRepS, gLIndex, dKIndex, dFCells, dFInt, dFPut, dFeed, startD, wipeD, List.set_cons_zero, List.set_cons_succ, List.getElem?_cons_zero, List.getElem?_cons_succ, List.map_cons, List.map_nil, List.length_cons, List.length_nil, List.replicate, List.cons_append, List.nil_append, dInK, dIxK, wZip, dAsg3, dAsg5, gInS, dDisp, dDIn, dDGet, dCallF, gUpdate, List.set_cons_zero, List.set_cons_succ]; repeat (first | exact r _ (Base.of (by decide +kernel)) | refine ⟨by decide, ?_⟩)
  dsimp only
  have kp26 : ∀ b, b ≠ p → (mset m24 p (.lst L26)) b = m b := fun b hb => (mset_ne hb).trans (kp24 b hb)
  have hm26 : (mset m24 p (.lst L26)) p = some (.lst L26) := mset_same
  generalize (mset m24 p (.lst L26)) = m26 at hm26 kp26 ⊢
  refine seq_in ?_
  refine more (c' := 3) (s' := 100) 3 rfl hm26 g26 (by decide) (fun R r => ?_) fun L27 g27 _ => ?_
  · simp only [dVar, dC, dOp, dB, dChain, dAndT, dOrT, dNotT, dAndV, dOrV, dNotV, dIf, dNeg, dNil, dCons, dTup, dLst, dLstM, dCB, g1, gIsi, gLen, gLen1, gRepr, gRepr1, gList1, gTuple1, gAll1, gOrd1, gStr1, gInt1, dMt, dMt0, gAppend, gExtend, gUpper, dNext, dSeq, dDrop, dRet, dRetF, dRetX, dRetN, dIfS, dSet, wSeq, wRng1, wRng2, gN, gP, dFor, dLc, dLcM, dYes, dPar, dAsg2, dCall, gI, gI0, gAdd2, gSub2, gAdd, gMul, gLt, gLe, gEq, gNe, gIsN, gNotN, gIn, gIx, gSl, dSl, dNoPart, dPart, dRev, gRev, gAddLM, gRepS, gLIndex, dKIndex, dFCells, dFInt, dFPut, dFeed, startD, wipeD, List.set_cons_zero, List.set_cons_succ, List.getElem?_cons_zero, List.getElem?_cons_succ, List.map_cons, List.map_nil, List.length_cons, List.length_nil, List.replicate, List.cons_append, List.nil_append, dInK, dIxK, wZip, dAsg3, dAsg5, gInS, dDisp, dDIn, dDGet, dCallF, gUpdate, List.set_cons_zero, List.set_cons_succ]; repeat (first | exact r _ (Base.of (by decide +kernel)) | refine ⟨by decide, ?_⟩)
  dsimp only
  have kp27 : ∀ b, b ≠ p → (mset m26 p (.lst L27)) b = m b := fun b hb => (mset_ne hb).trans (kp26 b hb)
  have hm27 : (mset m26 p (.lst L27)) p = some (.lst L27) := mset_same
  generalize (mset m26 p (.lst L27)) = m27 at hm27 kp27 ⊢
  refine seq_in ?_
  refine more (c' := 3) (s' := 100) 3 rfl hm27 g27 (by decide) (fun R r => ?_) fun L28 g28 _ => ?_
  · simp only [dVar, dC, dOp, dB, dChain, dAndT, dOrT, dNotT, dAndV, dOrV, dNotV, dIf, dNeg, dNil, dCons, dTup, dLst, dLstM, dCB, g1, gIsi, gLen, gLen1, gRepr, gRepr1, gList1, gTuple1, gAll1, gOrd1, gStr1, gInt1, dMt, dMt0, gAppend, gExtend, gUpper, dNext, dSeq, dDrop, dRet, dRetF, dRetX, dRetN, dIfS, dSet, wSeq, wRng1, wRng2, gN, gP, dFor, dLc, dLcM, dYes, dPar, dAsg2, dCall, gI, gI0, gAdd2, gSub2, gAdd, gMul, gLt, gLe, gEq, gNe, gIsN, gNotN, gIn, gIx, gSl, dSl, dNoPart, dPart, dRev, gRev, gAddLM, gRepS, gLIndex, dKIndex, dFCells, dFInt, dFPut, dFeed, startD, wipeD, List.set_cons_zero, List.set_cons_succ, List.getElem?_cons_zero, List.getElem?_cons_succ, List.map_cons, List.map_nil, List.length_cons, List.length_nil, List.replicate, List.cons_append, List.nil_append, dInK, dIxK, wZip, dAsg3, dAsg5, gInS, dDisp, dDIn, dDGet, dCallF, gUpdate, List.set_cons_zero, List.set_cons_succ]; repeat (first | exact r _ (Base.of (by decide +kernel)) | refine ⟨by decide, ?_⟩)
  dsimp only
  have kp28 : ∀ b, b ≠ p → (mset m27 p (.lst L28)) b = m b := fun b hb => (mset_ne hb).trans (kp27 b hb)
  have hm28 : (mset m27 p (.lst L28)) p = some (.lst L28) := mset_same
  generalize (mset m27 p (.lst L28)) = m28 at hm28 kp28 ⊢
  refine seq_in ?_
  refine more (c' := 3) (s' := 100) 3 rfl hm28 g28 (by decide) (fun R r => ?_) fun L29 g29 _ => ?_
  · simp only [dVar, dC, dOp, dB, dChain, dAndT, dOrT, dNotT, dAndV, dOrV, dNotV, dIf, dNeg, dNil, dCons, dTup, dLst, dLstM, dCB, g1, gIsi, gLen, gLen1, gRepr, gRepr1, gList1, gTuple1, gAll1, gOrd1, gStr1, gInt1, dMt, dMt0, gAppend, gExtend, gUpper, dNext, dSeq, dDrop, dRet, dRetF, dRetX, dRetN, dIfS, dSet, wSeq, wRng1, wRng2, gN, gP, dFor, dLc, dLcM, dYes, dPar, dAsg2, dCall, gI, gI0, gAdd2, gSub2, gAdd, gMul, gLt, gLe, gEq, gNe, gIsN, gNotN, gIn, gIx, gSl, dSl, dNoPart, dPart, dRev, gRev, gAddLM, gRepS, gLIndex, dKIndex, dFCells, dFInt, dFPut, dFeed, startD, wipeD, List.set_cons_zero, List.set_cons_succ, List.getElem?_cons_zero, List.getElem?_cons_succ, List.map_cons, List.map_nil, List.length_cons, List.length_nil, List.replicate, List.cons_append, List.nil_append, dInK, dIxK, wZip, dAsg3, dAsg5, gInS, dDisp, dDIn, dDGet, dCallF, gUpdate, List.set_cons_zero, List.set_cons_succ]; repeat (first | exact r _ (Base.of (by decide +kernel)) | refine ⟨by decide, ?_⟩)
  dsimp only
  have kp29 : ∀ b, b ≠ p → (mset m28 p (.lst L29)) b = m b := fun b hb => (mset_ne hb).trans (kp28 b hb)
  have hm29 : (mset m28 p (.lst L29)) p = some (.lst L29) := mset_same
  generalize (mset m28 p (.lst L29)) = m29 at hm29 kp29 ⊢
  refine seq_in ?_
  refine more (c' := 3) (s' := 100) 3 rfl hm29 g29 (by decide) (fun R r => ?_) fun L30 g30 _ => ?_
  · simp only [dVar, dC, dOp, dB, dChain, dAndT, dOrT, dNotT, dAndV, dOrV, dNotV, dIf, dNeg, dNil, dCons, dTup, dLst, dLstM, dCB, g1, gIsi, gLen, gLen1, gRepr, gRepr1, gList1, gTuple1, gAll1, gOrd1, gStr1, gInt1, dMt, dMt0, gAppend, gExtend, gUpper, dNext, dSeq, dDrop, dRet, dRetF, dRetX, dRetN, dIfS, dSet, wSeq, wRng1, wRng2, gN, gP, dFor, dLc, dLcM, dYes, dPar, dAsg2, dCall, gI, gI0, gAdd2, gSub2, gAdd, gMul, gLt, gLe, gEq, gNe, gIsN, gNotN, gIn, gIx, gSl, dSl, dNoPart, dPart, dRev, gRev, gAddLM, gRepS, gLIndex, dKIndex, dFCells, dFInt, dFPut, dFeed, startD, wipeD, List.set_cons_zero, List.set_cons_succ, List.getElem?_cons_zero, List.getElem?_cons_succ, List.map_cons, List.map_nil, List.length_cons, List.length_nil, List.replicate, List.cons_append, List.nil_append, dInK, dIxK, wZip, dAsg3, dAsg5, gInS, dDisp, dDIn, dDGet, dCallF, gUpdate, List.set_cons_zero, List.set_cons_succ]; repeat (first | exact r _ (Base.of (by decide +kernel)) | refine ⟨by decide, ?_⟩)
  dsimp only
  have kp30 : ∀ b, b ≠ p → (mset m29 p (.lst L30)) b = m b := fun b hb => (mset_ne hb).trans (kp29 b hb)
  have hm30 : (mset m29 p (.lst L30)) p = some (.lst L30) := mset_same
  generalize (mset m29 p (.lst L30)) = m30 at hm30 kp30 ⊢
  refine seq_in ?_
  refine more (c' := 3) (s' := 100) 3 rfl hm30 g30 (by decide) (fun R r => ?_) fun L31 g31 _ => ?_
  · simp only [dVar, dC, dOp, dB, dChain, dAndT, dOrT, dNotT, dAndV, dOrV, dNotV, dIf, dNeg, dNil, dCons, dTup, dLst, dLstM, dCB, g1, gIsi, gLen, gLen1, gRepr, gRepr1, gList1, gTuple1, gAll1, gOrd1, gStr1, gInt1, dMt, dMt0, gAppend, gExtend, gUpper, dNext, dSeq, dDrop, dRet, dRetF, dRetX, dRetN, dIfS, dSet, wSeq, wRng1, wRng2, gN, gP, dFor, dLc, dLcM, dYes, dPar, dAsg2, dCall, gI, gI0, gAdd2, gSub2, gAdd, gMul, gLt, gLe, gEq, gNe, gIsN, gNotN, gIn, gIx, gSl, dSl, dNoPart, dPart, dRev, gRev, gAddLM, gRepS, gLIndex, dKIndex, dFCells, dFInt, dFPut, dFeed, startD, wipeD, List.set_cons_zero, List.set_cons_succ, List.getElem?_cons_zero, List.getElem?_cons_succ, List.map_cons, List.map_nil, List.length_cons, List.length_nil, List.replicate, List.cons_append, List.nil_append, dInK, dIxK, wZip, dAsg3, dAsg5, gInS, dDisp, dDIn, dDGet, dCallF, gUpdate, List.set_cons_zero, List.set_cons_succ]; repeat (first | exact r _ (Base.of (by decide +kernel)) | refine ⟨by decide, ?_⟩)
  dsimp only
  have kp31 : ∀ b, b ≠ p → (mset m30 p (.lst L31)) b = m b := fun b hb => (mset_ne hb).trans (kp30 b hb)
  have hm31 : (mset m30 p (.lst L31)) p = some (.lst L31) := mset_same
  generalize (mset m30 p (.lst L31)) = m31 at hm31 kp31 ⊢
  refine seq_in ?_
  refine more (c' := 3) (s' := 100) 3 rfl hm31 g31 (by decide) (fun R r => ?_) fun L32 g32 _ => ?_
  · simp only [dVar, dC, dOp, dB, dChain, dAndT, dOrT, dNotT, dAndV, dOrV, dNotV, dIf, dNeg, dNil, dCons, dTup, dLst, dLstM, dCB, g1, gIsi, gLen, gLen1, gRepr, gRepr1, gList1, gTuple1, gAll1, gOrd1, gStr1, gInt1, dMt, dMt0, gAppend, gExtend, gUpper, dNext, dSeq, dDrop, dRet, dRetF, dRetX, dRetN, dIfS, dSet, wSeq, wRng1, wRng2, gN, gP, dFor, dLc, dLcM, dYes, dPar, dAsg2, dCall, gI, gI0, gAdd2, gSub2, gAdd, gMul, gLt, gLe, gEq, gNe, gIsN, gNotN, gIn, gIx, gSl, dSl, dNoPart, dPart, dRev, gRev, gAddLM, gRepS, gLIndex, dKIndex, dFCells, dFInt, dFPut, dFeed, startD, wipeD, List.set_cons_zero, List.set_cons_succ, List.getElem?_cons_zero, List.getElem?_cons_succ, List.map_cons, List.map_nil, List.length_cons, List.length_nil, List.replicate, List.cons_append, List.nil_append, dInK, dIxK, wZip, dAsg3, dAsg5, gInS, dDisp, dDIn, dDGet, dCallF, gUpdate, List.set_cons_zero, List.set_cons_succ]; repeat (first | exact r _ (Base.of (by decide +kernel)) | refine ⟨by decide, ?_⟩)
  dsimp only
  have kp32 : ∀ b, b ≠ p → (mset m31 p (.lst L32)) b = m b := fun b hb => (mset_ne hb).trans (kp31 b hb)
  have hm32 : (mset m31 p (.lst L32)) p = some (.lst L32) := mset_same
  generalize (mset m31 p (.lst L32)) = m32 at hm32 kp32 ⊢
  refine seq_in ?_
  refine more (c' := 3) (s' := 100) 3 rfl hm32 g32 (by decide) (fun R r => ?_) fun L33 g33 _ => ?_
  · simp only [dVar, dC, dOp, dB, dChain, dAndT, dOrT, dNotT, dAndV, dOrV, dNotV, dIf, dNeg, dNil, dCons, dTup, dLst, dLstM, dCB, g1, gIsi, gLen, gLen1, gRepr, gRepr1, gList1, gTuple1, gAll1, gOrd1, gStr1, gInt1, dMt, dMt0, gAppend, gExtend, gUpper, dNext, dSeq, dDrop, dRet, dRetF, dRetX, dRetN, dIfS, dSet, wSeq, wRng1, wRng2, gN, gP, dFor, dLc, dLcM, dYes, dPar, dAsg2, dCall, gI, gI0, gAdd2, gSub2, gAdd, gMul, gLt, gLe, gEq, gNe, gIsN, gNotN, gIn, gIx, gSl, dSl, dNoPart, dPart, dRev, gRev, gAddLM, gRepS, gLIndex, dKIndex, dFCells, dFInt, dFPut, dFeed, startD, wipeD, List.set_cons_zero, List.set_cons_succ, List.getElem?_cons_zero, List.getElem?_cons_succ, List.map_cons, List.map_nil, List.length_cons, List.length_nil, List.replicate, List.cons_append, List.nil_append, dInK, dIxK, wZip, dAsg3, dAsg5, gInS, dDisp, dDIn, dDGet, dCallF, gUpdate, List.set_cons_zero, List.set_cons_succ]; repeat (first | exact r _ (Base.of (by decide +kernel)) | refine ⟨by decide, ?_⟩)
  dsimp only
  have kp33 : ∀ b, b ≠ p → (mset m32 p (.lst L33)) b = m b := fun b hb => (mset_ne hb).trans (kp32 b hb)
  have hm33 : (mset m32 p (.lst L33)) p = some (.lst L33) := mset_same
  generalize (mset m32 p (.lst L33)) = m33 at hm33 kp33 ⊢
  simp only [g__law_others_34, dVar, dC, dOp, dB, dChain, dAndT, dOrT, dNotT, dAndV, dOrV, dNotV, dIf, dNeg, dNil, dCons, dTup, dLst, dLstM, dCB, g1, gIsi, gLen, gLen1, gRepr, gRepr1, gList1, gTuple1, gAll1, gOrd1, gStr1, gInt1, dMt, dMt0, gAppend, gExtend, gUpper, dNext, dSeq, dDrop, dRet, dRetF, dRetX, dRetN, dIfS, dSet, wSeq, wRng1, wRng2, gN, gP, dFor, dLc, dLcM, dYes, dPar, dAsg2, dCall, gI, gI0, gAdd2, gSub2, gAdd, gMul, gLt, gLe, gEq, gNe, gIsN, gNotN, gIn, gIx, gSl, dSl, dNoPart, dPart, dRev, gRev, gAddLM, gRepS, gLIndex, dKIndex, dFCells, dFInt, dFPut, dFeed, startD, wipeD, List.set_cons_zero, List.set_cons_succ, List.getElem?_cons_zero, List.getElem?_cons_succ, List.map_cons, List.map_nil, List.length_cons, List.length_nil, List.replicate, List.cons_append, List.nil_append, dInK, dIxK, wZip, dAsg3, dAsg5, gInS, dDisp, dDIn, dDGet, dCallF, gUpdate, List.set_cons_zero, List.set_cons_succ, lv, hm33]
  have cp : CPow 10 60 := by first | decide | exact ⟨by decide, by decide, by decide⟩
  have few := g33.few
  refine ⟨cp, cp, cp, by decide, by decide, by decide, by decide, by decide, by rw [sizeLine_eq]; omega, fun p2 hp2 => ?_⟩
  refine q p2 _ _ (fun a o e => ?_) ?_ mset_same ((g33.app (Base.of (c := 2) (s := 100) (by decide +kernel))).mono (by decide) (by decide))
  · have h1 : a ≠ p := fun z => by rw [z, hp] at e; cases e
    have h2 : a ≠ p2 := fun z => by rw [← z, kp33 a h1, e] at hp2; cases hp2
    rw [mset_ne h2, kp33 a h1]
    exact e
  · by_cases h : p2 = p
    · rw [h]; exact hp
    · rw [← kp33 p2 h]; exact hp2
end K02

set_option Elab.async false
set_option linter.all false
set_option maxRecDepth 100000
set_option maxHeartbeats 4000000
namespace K02
open PySem PySem.Spec PyProof.Rows L2 DL K01
def sp__law_bent : DSp := spBent 8
def sp__law_near : DSp := fun ds m Q => ∃ (f : Addr) (cs : List Int) (x : D) (r : List D), ds = [.ref f, .tup (x :: r)] ∧ m f = some (.fd cs) ∧ cs.length ≤ 63 ∧ okT huge 70 5 (.tup (x :: r)) ∧ ∀ es, Good 7 1200 es → Q (.lst es) m
theorem ar__law_near : ∀ ds m Q, sp__law_near ds m Q → ds.length = 2 := fun ds m Q ⟨f, cs, x, r, e, _⟩ => by rw [e]; rfl
def b__law_near : DTS := (dSeq (dSet 2 (dLstM (dCons (dC (.str "open")) (dCons (dC (.str "give")) (dCons (dC (.str "put")) (dCons (dC (.str "cut")) (dCons (dC (.str "look")) (dCons (dC (.str "row")) (dCons (dC (.str "set")) (dCons (dC (.str "drop")) dNil))))))))))
      (dSeq (dDrop (dMt okM gExtend (dVar 2) (dCons (dLst (dCons (dC (.str "node")) (dCons (dC (.str "move")) (dCons (dC (.str "say")) (dCons (dC (.str "close")) (dCons (dC (.str "take")) (dCons (dC (.str "mark")) (dCons (dC (.str "undo")) dNil)))))))) dNil)))
      (dSeq (dSet 3 (dCall sp__law_bent (dCons (dVar 0) (dCons (dVar 1) dNil))))
      (dSeq (dSet 4 (dLst (dCons (dVar 1) (dCons (dVar 3) (dCons (dCall sp__law_bent (dCons (dVar 0) (dCons (dVar 3) dNil))) (dCons (dOp gAdd2 (dTup (dCons (dOp gIx (dVar 2) (dCall sp__law_draw (dCons (dVar 0) (dCons (dC (.int 15)) dNil)))) dNil)) (dSl (dVar 1) (dPart (dC (.int 1))) dNoPart)) dNil))))))
      (dRetX (dOp gAdd2 (dVar 4) (dLst (dCons (dSl (dVar 1) dNoPart (dPart (dNeg (dC (.int 1))))) (dCons (dOp gAdd2 (dVar 1) (dSl (dVar 1) (dPart (dNeg (dC (.int 1)))) dNoPart)) (dCons (dCB (g1 gList1) (dCons (dVar 1) dNil)) dNil))))))))))
def g__law_near_1  : DTS := (dSet 2 (dLstM (dCons (dC (.str "open")) (dCons (dC (.str "give")) (dCons (dC (.str "put")) (dCons (dC (.str "cut")) (dCons (dC (.str "look")) (dCons (dC (.str "row")) (dCons (dC (.str "set")) (dCons (dC (.str "drop")) dNil))))))))))
def g__law_near_2  : DTS := (dDrop (dMt okM gExtend (dVar 2) (dCons (dLst (dCons (dC (.str "node")) (dCons (dC (.str "move")) (dCons (dC (.str "say")) (dCons (dC (.str "close")) (dCons (dC (.str "take")) (dCons (dC (.str "mark")) (dCons (dC (.str "undo")) dNil)))))))) dNil)))
def g__law_near_3  : DTS := (dSet 3 (dCall sp__law_bent (dCons (dVar 0) (dCons (dVar 1) dNil))))
def g__law_near_4  : DTS := (dSet 4 (dLst (dCons (dVar 1) (dCons (dVar 3) (dCons (dCall sp__law_bent (dCons (dVar 0) (dCons (dVar 3) dNil))) (dCons (dOp gAdd2 (dTup (dCons (dOp gIx (dVar 2) (dCall sp__law_draw (dCons (dVar 0) (dCons (dC (.int 15)) dNil)))) dNil)) (dSl (dVar 1) (dPart (dC (.int 1))) dNoPart)) dNil))))))
def g__law_near_5  : DTS := (dRetX (dOp gAdd2 (dVar 4) (dLst (dCons (dSl (dVar 1) dNoPart (dPart (dNeg (dC (.int 1))))) (dCons (dOp gAdd2 (dVar 1) (dSl (dVar 1) (dPart (dNeg (dC (.int 1)))) dNoPart)) (dCons (dCB (g1 gList1) (dCons (dVar 1) dNil)) dNil))))))
theorem eq__law_near  : b__law_near  = (dSeq g__law_near_1 (dSeq g__law_near_2 (dSeq g__law_near_3 (dSeq g__law_near_4 g__law_near_5)))) := rfl
def words : List Str := ["open", "give", "put", "cut", "look", "row", "set", "drop", "node", "move", "say", "close", "take", "mark", "undo"]
theorem words_ok : ∀ z ∈ words, okT huge 8 0 (.str z) := by
  have h : words.all (fun z => okTb huge 8 0 (.str z)) = true := by decide +kernel
  exact fun z hz => okT_of (List.all_eq_true.mp h z hz)
theorem near_1 {E : DEnds} {m : Mu} {a b : Option D} (h : ∀ p, m p = none → E.nx [a, b, some (.ref p), none, none] (mset m p (.lst [.str "open", .str "give", .str "put", .str "cut", .str "look", .str "row", .str "set", .str "drop"]))) : g__law_near_1 E [a, b, none, none, none] m := by
  simp only [g__law_near_1, dVar, dC, dOp, dB, dChain, dAndT, dOrT, dNotT, dAndV, dOrV, dNotV, dIf, dNeg, dNil, dCons, dTup, dLst, dLstM, dCB, g1, gIsi, gLen, gLen1, gRepr, gRepr1, gList1, gTuple1, gAll1, gOrd1, gStr1, gInt1, dMt, dMt0, gAppend, gExtend, gUpper, dNext, dSeq, dDrop, dRet, dRetF, dRetX, dRetN, dIfS, dSet, wSeq, wRng1, wRng2, gN, gP, dFor, dLc, dLcM, dYes, dPar, dAsg2, dCall, gI, gI0, gAdd2, gSub2, gAdd, gMul, gLt, gLe, gEq, gNe, gIsN, gNotN, gIn, gIx, gSl, dSl, dNoPart, dPart, dRev, gRev, gAddLM, gRepS, gLIndex, dKIndex, dFCells, dFInt, dFPut, dFeed, startD, wipeD, List.set_cons_zero, List.set_cons_succ, List.getElem?_cons_zero, List.getElem?_cons_succ, List.map_cons, List.map_nil, List.length_cons, List.length_nil, List.replicate, List.cons_append, List.nil_append, dInK, dIxK, wZip, dAsg3, dAsg5, gInS, dDisp, dDIn, dDGet, dCallF, gUpdate]
  exact ⟨by decide, fun p hp => h p hp⟩
theorem near_2 {E : DEnds} {m : Mu} {a b : Option D} {p : Addr} (hm : m p = some (.lst [.str "open", .str "give", .str "put", .str "cut", .str "look", .str "row", .str "set", .str "drop"])) (h : E.nx [a, b, some (.ref p), none, none] (mset m p (.lst (words.map D.str)))) : g__law_near_2 E [a, b, some (.ref p), none, none] m := by
  simp only [g__law_near_2, dVar, dC, dOp, dB, dChain, dAndT, dOrT, dNotT, dAndV, dOrV, dNotV, dIf, dNeg, dNil, dCons, dTup, dLst, dLstM, dCB, g1, gIsi, gLen, gLen1, gRepr, gRepr1, gList1, gTuple1, gAll1, gOrd1, gStr1, gInt1, dMt, dMt0, gAppend, gExtend, gUpper, dNext, dSeq, dDrop, dRet, dRetF, dRetX, dRetN, dIfS, dSet, wSeq, wRng1, wRng2, gN, gP, dFor, dLc, dLcM, dYes, dPar, dAsg2, dCall, gI, gI0, gAdd2, gSub2, gAdd, gMul, gLt, gLe, gEq, gNe, gIsN, gNotN, gIn, gIx, gSl, dSl, dNoPart, dPart, dRev, gRev, gAddLM, gRepS, gLIndex, dKIndex, dFCells, dFInt, dFPut, dFeed, startD, wipeD, List.set_cons_zero, List.set_cons_succ, List.getElem?_cons_zero, List.getElem?_cons_succ, List.map_cons, List.map_nil, List.length_cons, List.length_nil, List.replicate, List.cons_append, List.nil_append, dInK, dIxK, wZip, dAsg3, dAsg5, gInS, dDisp, dDIn, dDGet, dCallF, gUpdate, mlv, hm, lv]
  exact ⟨by simp [okM, mlv, hm], by decide, by decide, h⟩
theorem near_3 {E : DEnds} {m : Mu} {f : Addr} {cs : List Int} {d : D} {x : Option D} (hf : m f = some (.fd cs)) (hl : cs.length ≤ 63) (ok : okT huge 70 5 d) (h : ∀ d1, okT (huge + 1) 210 8 d1 → E.nx [some (.ref f), some d, x, some d1, none] m) : g__law_near_3 E [some (.ref f), some d, x, none, none] m := by
  simp only [g__law_near_3, dVar, dC, dOp, dB, dChain, dAndT, dOrT, dNotT, dAndV, dOrV, dNotV, dIf, dNeg, dNil, dCons, dTup, dLst, dLstM, dCB, g1, gIsi, gLen, gLen1, gRepr, gRepr1, gList1, gTuple1, gAll1, gOrd1, gStr1, gInt1, dMt, dMt0, gAppend, gExtend, gUpper, dNext, dSeq, dDrop, dRet, dRetF, dRetX, dRetN, dIfS, dSet, wSeq, wRng1, wRng2, gN, gP, dFor, dLc, dLcM, dYes, dPar, dAsg2, dCall, gI, gI0, gAdd2, gSub2, gAdd, gMul, gLt, gLe, gEq, gNe, gIsN, gNotN, gIn, gIx, gSl, dSl, dNoPart, dPart, dRev, gRev, gAddLM, gRepS, gLIndex, dKIndex, dFCells, dFInt, dFPut, dFeed, startD, wipeD, List.set_cons_zero, List.set_cons_succ, List.getElem?_cons_zero, List.getElem?_cons_succ, List.map_cons, List.map_nil, List.length_cons, List.length_nil, List.replicate, List.cons_append, List.nil_append, dInK, dIxK, wZip, dAsg3, dAsg5, gInS, dDisp, dDIn, dDGet, dCallF, gUpdate]
  exact ⟨f, cs, _, huge, 70, 5, rfl, hf, hl, ok, Nat.le_refl _, by omega, by decide, by decide, by decide, fun d1 o1 => h d1 (o1.mono (by omega) (by decide) (by decide))⟩
theorem near_4 {E : DEnds} {m : Mu} {f p : Addr} {cs : List Int} {x d1 : D} {r : List D} (hf : m f = some (.fd cs)) (hl : cs.length ≤ 63) (hw : m p = some (.lst (words.map D.str))) (ok : okT huge 70 5 (.tup (x :: r))) (o1 : okT (huge + 1) 210 8 d1)
    (h : ∀ d2 z, okT (huge + 2) 490 11 d2 → okT huge 8 0 (.str z) → E.nx [some (.ref f), some (.tup (x :: r)), some (.ref p), some d1, some (.lst [.tup (x :: r), d1, d2, .tup (.str z :: r)])] m) : g__law_near_4 E [some (.ref f), some (.tup (x :: r)), some (.ref p), some d1, none] m := by
  simp only [g__law_near_4, dVar, dC, dOp, dB, dChain, dAndT, dOrT, dNotT, dAndV, dOrV, dNotV, dIf, dNeg, dNil, dCons, dTup, dLst, dLstM, dCB, g1, gIsi, gLen, gLen1, gRepr, gRepr1, gList1, gTuple1, gAll1, gOrd1, gStr1, gInt1, dMt, dMt0, gAppend, gExtend, gUpper, dNext, dSeq, dDrop, dRet, dRetF, dRetX, dRetN, dIfS, dSet, wSeq, wRng1, wRng2, gN, gP, dFor, dLc, dLcM, dYes, dPar, dAsg2, dCall, gI, gI0, gAdd2, gSub2, gAdd, gMul, gLt, gLe, gEq, gNe, gIsN, gNotN, gIn, gIx, gSl, dSl, dNoPart, dPart, dRev, gRev, gAddLM, gRepS, gLIndex, dKIndex, dFCells, dFInt, dFPut, dFeed, startD, wipeD, List.set_cons_zero, List.set_cons_succ, List.getElem?_cons_zero, List.getElem?_cons_succ, List.map_cons, List.map_nil, List.length_cons, List.length_nil, List.replicate, List.cons_append, List.nil_append, dInK, dIxK, wZip, dAsg3, dAsg5, gInS, dDisp, dDIn, dDGet, dCallF, gUpdate]
  refine ⟨f, cs, _, huge + 1, 210, 8, rfl, hf, hl, o1, by omega, by omega, by decide, by decide, by decide, fun d2 o2 => ?_⟩
  refine ⟨f, cs, 15, rfl, hf, hl, by decide, by decide, fun i h0 h15 => ?_⟩
  simp only [sq, lv, hw]
  obtain ⟨d3, hd3, e3⟩ := at_mem (ds := words.map D.str) h0 h15
  obtain ⟨z, hz, rfl⟩ := List.mem_map.mp hd3
  have a1 := ok.s
  have a2 := len_szs (x :: r)
  simp only [sz, List.length_cons] at a1 a2
  simp only [e3, cut1]
  refine ⟨by decide, by rw [sizeLine_eq]; omega, by decide, ?_⟩
  exact h d2 z (o2.mono (by omega) (by decide) (by decide)) (words_ok z hz)
theorem near_5 {E : DEnds} {m m0 : Mu} {f p : Addr} {x d1 d2 : D} {r : List D} {z : Str} (ok : okT huge 70 5 (.tup (x :: r))) (o1 : okT (huge + 1) 210 8 d1) (o2 : okT (huge + 2) 490 11 d2) (oz : okT huge 8 0 (.str z)) (le : Less m m0)
    (h : ∀ es, Good 7 1200 es → E.rt (.lst es) m0) : g__law_near_5 E [some (.ref f), some (.tup (x :: r)), some (.ref p), some d1, some (.lst [.tup (x :: r), d1, d2, .tup (.str z :: r)])] m := by
  simp only [g__law_near_5, dVar, dC, dOp, dB, dChain, dAndT, dOrT, dNotT, dAndV, dOrV, dNotV, dIf, dNeg, dNil, dCons, dTup, dLst, dLstM, dCB, g1, gIsi, gLen, gLen1, gRepr, gRepr1, gList1, gTuple1, gAll1, gOrd1, gStr1, gInt1, dMt, dMt0, gAppend, gExtend, gUpper, dNext, dSeq, dDrop, dRet, dRetF, dRetX, dRetN, dIfS, dSet, wSeq, wRng1, wRng2, gN, gP, dFor, dLc, dLcM, dYes, dPar, dAsg2, dCall, gI, gI0, gAdd2, gSub2, gAdd, gMul, gLt, gLe, gEq, gNe, gIsN, gNotN, gIn, gIx, gSl, dSl, dNoPart, dPart, dRev, gRev, gAddLM, gRepS, gLIndex, dKIndex, dFCells, dFInt, dFPut, dFeed, startD, wipeD, List.set_cons_zero, List.set_cons_succ, List.getElem?_cons_zero, List.getElem?_cons_succ, List.map_cons, List.map_nil, List.length_cons, List.length_nil, List.replicate, List.cons_append, List.nil_append, dInK, dIxK, wZip, dAsg3, dAsg5, gInS, dDisp, dDIn, dDGet, dCallF, gUpdate, sq, lv]
  have a1 := ok.s
  have a2 := len_szs (x :: r)
  have kk := ok.k
  have az := oz.s
  simp only [sz, szs, List.length_cons] at a1 a2 az
  simp only [dp] at kk
  have kd := dps_le.mp (Nat.le_refl (dps (x :: r)))
  have as := ascs_iff.mp ok.a
  have ll := cut_len (x :: r) (some (-1)) none
  simp only [List.length_cons] at ll
  refine ⟨by rw [sizeLine_eq]; omega, by decide, by decide, m0, le, h _ ?_⟩
  have base : ∀ d ∈ (x :: r), okT (huge + 2) 70 4 d := fun d hd => ⟨asc_mono (by omega) d (as d hd), by have := sz_mem hd; simp only [szs] at this; omega, by have := kd d hd; omega⟩
  have row : ∀ ds : List D, (∀ d ∈ ds, okT (huge + 2) 70 4 d) → szs ds ≤ 200 → okT (huge + 2) 201 5 (.tup ds) ∧ okT (huge + 2) 201 5 (.lst ds) := fun ds h1 h2 =>
    ⟨okT_tup (fun d hd => (h1 d hd).a) (by omega) (fun d hd => (h1 d hd).k), okT_lst (fun d hd => (h1 d hd).a) (by omega) (fun d hd => (h1 d hd).k)⟩
  have cm := fun lo hi => cut_mem (x :: r) lo hi
  have s1 := (cm none (some (-1))).2
  have s2 := (cm (some (-1)) none).2
  simp only [szs] at s1 s2
  have t0 := row (x :: r) base (by simp only [szs]; omega)
  have t1 := row (.str z :: r) (fun d hd => (List.mem_cons.mp hd).elim (fun e => by rw [e]; exact oz.mono (by omega) (by decide) (by decide)) fun hd => base d (List.mem_cons_of_mem _ hd)) (by simp only [szs, sz]; omega)
  have t2 := row (cutG (x :: r) none (some (-1))) (fun d hd => base d ((cm _ _).1 d hd)) (by omega)
  have t3 := row ((x :: r) ++ cutG (x :: r) (some (-1)) none) (fun d hd => (List.mem_append.mp hd).elim (base d) fun hd => base d ((cm _ _).1 d hd)) (by rw [szs_app]; simp only [szs]; omega)
  have sd := o1.s
  have sd2 := o2.s
  refine ⟨?_, Nat.le_refl 7, ?_⟩
  · simp only [List.cons_append, List.nil_append, List.forall_mem_cons]
    exact ⟨t0.1.mono (by omega) (by decide) (by decide), o1.mono (by omega) (by decide) (by decide), o2.mono (by omega) (by decide) (by decide), t1.1.mono (by omega) (by decide) (by decide), t2.1.mono (by omega) (by decide) (by decide), t3.1.mono (by omega) (by decide) (by decide), t0.2.mono (by omega) (by decide) (by decide), fun d hd => by cases hd⟩
  · simp only [List.cons_append, List.nil_append, szs, sz]
    have e3 := szs_app (x :: r) (cutG (x :: r) (some (-1)) none)
    simp only [List.cons_append, szs] at e3
    omega
theorem rd__law_near : ∀ ds m Q, sp__law_near ds m Q → b__law_near { nx := fun _ m' => Q .non m', rt := Q } (startD 5 ds) m := by
  rintro ds m Q ⟨f, cs, x, r, rfl, hf, hl, ok, q⟩
  rw [eq__law_near]
  have h5 : startD 5 [D.ref f, .tup (x :: r)] = [some (.ref f), some (.tup (x :: r)), none, none, none] := rfl
  rw [h5]
  refine seq_in (near_1 fun p hp => ?_)
  have hfp : f ≠ p := fun e => by rw [e, hp] at hf; cases hf
  dsimp only
  refine seq_in (near_2 mset_same ?_)
  dsimp only
  rw [mset_mset]
  have hw : (mset m p (.lst (words.map D.str))) p = some (.lst (words.map D.str)) := mset_same
  have hf2 : (mset m p (.lst (words.map D.str))) f = some (.fd cs) := by rw [mset_ne hfp]; exact hf
  have le : Less (mset m p (.lst (words.map D.str))) m := Less.mset hp
  generalize (mset m p (.lst (words.map D.str))) = m2 at hw hf2 le ⊢
  refine seq_in (near_3 hf2 hl ok fun d1 o1 => ?_)
  dsimp only
  refine seq_in (near_4 hf2 hl hw ok o1 fun d2 z o2 oz => ?_)
  dsimp only
  exact near_5 ok o1 o2 oz le q
end K02

set_option Elab.async false
set_option linter.all false
set_option maxRecDepth 100000
set_option maxHeartbeats 4000000
namespace K02
open PySem PySem.Spec PyProof.Rows L2 DL K01
def b_law : DTS := (dSeq (dSet 1 (dCall sp__law_feed (dCons (dVar 0) dNil)))
      (dSeq (dSet 2 (dOp gAddLM (dCall sp__law_fixed dNil) (dCall sp__law_others dNil)))
      (dSeq (dSet 4 (dLc (wSeq (dVar 2)) (gN 3) (dAndT (dB (dCB gIsi (dCons (dVar 3) (dCons (dC (.oth (.ty "tuple"))) dNil)))) (dB (dOp gNe (dVar 3) (dTup dNil)))) (dVar 3) [3]))
      (dSeq (dFor (wRng1 (dCons (dC (.int 40)) dNil)) (gN 5)
      (dDrop (dMt okM gExtend (dVar 2) (dCons (dCall sp__law_near (dCons (dVar 1) (dCons (dOp gIx (dVar 4) (dCall sp__law_draw (dCons (dVar 1) (dCons (dCB gLen (dCons (dVar 4) dNil)) dNil)))) dNil))) dNil))))
      (dSeq (dSet 6 (dCB gRepr (dCons (dVar 2) dNil)))
      (dSeq (dFor (wSeq (dVar 2)) (gN 3)
      (dIfS (dB (dOp gNe (dCB gRepr (dCons (dTup (dCons (dCall sp_is_what (dCons (dVar 3) dNil)) (dCons (dCall sp_is_deed (dCons (dVar 3) dNil)) dNil))) dNil)) (dCB gRepr (dCons (dTup (dCons (dCall sp__law_whatted (dCons (dVar 3) dNil)) (dCons (dCall sp__law_deeded (dCons (dVar 3) dNil)) dNil))) dNil))))
      (dRet (dC (.bl false)))
      dNext))
      (dSeq (dFor (wSeq (dLc (wSeq (dVar 4)) (gN 3) (dB (dCall sp_is_what (dCons (dVar 3) dNil))) (dVar 3) [3])) (gN 7)
      (dSeq (dSet 8 (dTup (dCons (dC (.str "bo")) (dCons (dC (.int 3)) (dCons (dC (.int 7)) (dCons (dTup (dCons (dTup (dCons (dC (.str "bo")) (dCons (dC (.int 3)) dNil))) dNil)) (dCons (dVar 7) dNil)))))))
      (dIfS (dB (dOp gNe (dCB gRepr (dCons (dLst (dCons (dCall sp_key_of (dCons (dVar 8) dNil)) (dCons (dCall sp_doc_of (dCons (dVar 8) dNil)) dNil))) dNil)) (dCB gRepr (dCons (dLst (dCons (dTup (dCons (dC (.str "bo")) (dCons (dC (.int 3)) dNil))) (dCons (dIf (dB (dOp gEq (dOp gIx (dVar 7) (dC (.int 0))) (dC (.str "open")))) (dTup (dCons (dC (.str "bo")) (dCons (dC (.int 3)) dNil))) (dOp gIx (dVar 7) (dC (.int 1)))) dNil))) dNil))))
      (dRet (dC (.bl false)))
      dNext)))
      (dRet (dOp gEq (dCB gRepr (dCons (dVar 2) dNil)) (dVar 6))))))))))
def g_law_1  : DTS := (dSet 1 (dCall sp__law_feed (dCons (dVar 0) dNil)))
def g_law_2  : DTS := (dSet 2 (dOp gAddLM (dCall sp__law_fixed dNil) (dCall sp__law_others dNil)))
def g_law_3  : DTS := (dSet 4 (dLc (wSeq (dVar 2)) (gN 3) (dAndT (dB (dCB gIsi (dCons (dVar 3) (dCons (dC (.oth (.ty "tuple"))) dNil)))) (dB (dOp gNe (dVar 3) (dTup dNil)))) (dVar 3) [3]))
def g_law_4  : DTS := (dFor (wRng1 (dCons (dC (.int 40)) dNil)) (gN 5) (dDrop (dMt okM gExtend (dVar 2) (dCons (dCall sp__law_near (dCons (dVar 1) (dCons (dOp gIx (dVar 4) (dCall sp__law_draw (dCons (dVar 1) (dCons (dCB gLen (dCons (dVar 4) dNil)) dNil)))) dNil))) dNil))))
def g_law_5  : DTS := (dSet 6 (dCB gRepr (dCons (dVar 2) dNil)))
def g_law_6  : DTS := (dFor (wSeq (dVar 2)) (gN 3) (dIfS (dB (dOp gNe (dCB gRepr (dCons (dTup (dCons (dCall sp_is_what (dCons (dVar 3) dNil)) (dCons (dCall sp_is_deed (dCons (dVar 3) dNil)) dNil))) dNil)) (dCB gRepr (dCons (dTup (dCons (dCall sp__law_whatted (dCons (dVar 3) dNil)) (dCons (dCall sp__law_deeded (dCons (dVar 3) dNil)) dNil))) dNil)))) (dRet (dC (.bl false))) dNext))
def g_law_7  : DTS := (dFor (wSeq (dLc (wSeq (dVar 4)) (gN 3) (dB (dCall sp_is_what (dCons (dVar 3) dNil))) (dVar 3) [3])) (gN 7) (dSeq (dSet 8 (dTup (dCons (dC (.str "bo")) (dCons (dC (.int 3)) (dCons (dC (.int 7)) (dCons (dTup (dCons (dTup (dCons (dC (.str "bo")) (dCons (dC (.int 3)) dNil))) dNil)) (dCons (dVar 7) dNil))))))) (dIfS (dB (dOp gNe (dCB gRepr (dCons (dLst (dCons (dCall sp_key_of (dCons (dVar 8) dNil)) (dCons (dCall sp_doc_of (dCons (dVar 8) dNil)) dNil))) dNil)) (dCB gRepr (dCons (dLst (dCons (dTup (dCons (dC (.str "bo")) (dCons (dC (.int 3)) dNil))) (dCons (dIf (dB (dOp gEq (dOp gIx (dVar 7) (dC (.int 0))) (dC (.str "open")))) (dTup (dCons (dC (.str "bo")) (dCons (dC (.int 3)) dNil))) (dOp gIx (dVar 7) (dC (.int 1)))) dNil))) dNil)))) (dRet (dC (.bl false))) dNext)))
def g_law_8  : DTS := (dRet (dOp gEq (dCB gRepr (dCons (dVar 2) dNil)) (dVar 6)))
theorem eq_law  : b_law  = (dSeq g_law_1 (dSeq g_law_2 (dSeq g_law_3 (dSeq g_law_4 (dSeq g_law_5 (dSeq g_law_6 (dSeq g_law_7 g_law_8))))))) := rfl
/-- the law's names: the script, the feed, the things, .., the tuples among them, .. -/
def St (f p : Addr) (cs : List Int) (T : List D) (c s : Nat) (e : Ev) (m : Mu) : Prop := ∃ (a0 : D) (L : List D) (x3 x5 x6 x7 x8 : Option D), e = [some a0, some (.ref f), some (.ref p), x3, some (.lst T), x5, x6, x7, x8] ∧ m f = some (.fd cs) ∧ m p = some (.lst L) ∧ Good c s L
def Tup (d : D) : Prop := ∃ x r, d = .tup (x :: r) ∧ okT huge 70 5 (.tup (x :: r))
theorem bT_form {d : D} (h : bT d = true) : ∃ x r, d = .tup (x :: r) := by
  cases d with
  | tup ds =>
    cases ds with
    | nil => cases h
    | cons x r => exact ⟨x, r, rfl⟩
  | _ => cases h
theorem law_1 {E : DEnds} {m : Mu} {ns : List Int} {x2 x3 x4 x5 x6 x7 x8 : Option D} (hn : ns.length ≤ 63) (h : ∀ f, m f = none → E.nx [some (.scr ns), some (.ref f), x2, x3, x4, x5, x6, x7, x8] (mset m f (.fd ns))) : g_law_1 E [some (.scr ns), none, x2, x3, x4, x5, x6, x7, x8] m := by
  simp only [g_law_1, dVar, dC, dOp, dB, dChain, dAndT, dOrT, dNotT, dAndV, dOrV, dNotV, dIf, dNeg, dNil, dCons, dTup, dLst, dLstM, dCB, g1, gIsi, gLen, gLen1, gRepr, gRepr1, gList1, gTuple1, gAll1, gOrd1, gStr1, gInt1, dMt, dMt0, gAppend, gExtend, gUpper, dNext, dSeq, dDrop, dRet, dRetF, dRetX, dRetN, dIfS, dSet, wSeq, wRng1, wRng2, gN, gP, dFor, dLc, dLcM, dYes, dPar, dAsg2, dCall, gI, gI0, gAdd2, gSub2, gAdd, gMul, gLt, gLe, gEq, gNe, gIsN, gNotN, gIn, gIx, gSl, dSl, dNoPart, dPart, dRev, gRev, gAddLM, gRepS, gLIndex, dKIndex, dFCells, dFInt, dFPut, dFeed, startD, wipeD, List.set_cons_zero, List.set_cons_succ, List.getElem?_cons_zero, List.getElem?_cons_succ, List.map_cons, List.map_nil, List.length_cons, List.length_nil, List.replicate, List.cons_append, List.nil_append, dInK, dIxK, wZip, dAsg3, dAsg5, gInS, dDisp, dDIn, dDGet, dCallF, gUpdate]
  exact ⟨ns, rfl, hn, h⟩
theorem law_2 {E : DEnds} {m : Mu} {f : Addr} {cs : List Int} {a b : Option D} {x3 x4 x5 x6 x7 x8 : Option D} (hf : m f = some (.fd cs)) (h : ∀ p L m', m' f = some (.fd cs) → m' p = some (.lst L) → Base 220 6600 L → L.any bT = true → E.nx [a, b, some (.ref p), x3, x4, x5, x6, x7, x8] m') : g_law_2 E [a, b, none, x3, x4, x5, x6, x7, x8] m := by
  simp only [g_law_2, dVar, dC, dOp, dB, dChain, dAndT, dOrT, dNotT, dAndV, dOrV, dNotV, dIf, dNeg, dNil, dCons, dTup, dLst, dLstM, dCB, g1, gIsi, gLen, gLen1, gRepr, gRepr1, gList1, gTuple1, gAll1, gOrd1, gStr1, gInt1, dMt, dMt0, gAppend, gExtend, gUpper, dNext, dSeq, dDrop, dRet, dRetF, dRetX, dRetN, dIfS, dSet, wSeq, wRng1, wRng2, gN, gP, dFor, dLc, dLcM, dYes, dPar, dAsg2, dCall, gI, gI0, gAdd2, gSub2, gAdd, gMul, gLt, gLe, gEq, gNe, gIsN, gNotN, gIn, gIx, gSl, dSl, dNoPart, dPart, dRev, gRev, gAddLM, gRepS, gLIndex, dKIndex, dFCells, dFInt, dFPut, dFeed, startD, wipeD, List.set_cons_zero, List.set_cons_succ, List.getElem?_cons_zero, List.getElem?_cons_succ, List.map_cons, List.map_nil, List.length_cons, List.length_nil, List.replicate, List.cons_append, List.nil_append, dInK, dIxK, wZip, dAsg3, dAsg5, gInS, dDisp, dDIn, dDGet, dCallF, gUpdate]
  refine ⟨rfl, fun p L m1 h1 hp h2 g at1 => ⟨rfl, fun p' L' m2 h3 hp' h4 g' => ?_⟩⟩
  simp only [lv, h3 p _ h2, h4]
  refine ⟨by have := g.few; have := g'.few; rw [sizeLine_eq]; omega, fun q hq => ?_⟩
  have hfq : f ≠ q := fun e => by rw [← e, h3 f _ (h1 f _ hf)] at hq; cases hq
  exact h q (L ++ L') _ (by rw [mset_ne hfq]; exact h3 f _ (h1 f _ hf)) mset_same (g.app g') (by rw [List.any_append, at1, Bool.true_or])
theorem test_T {d : D} {m : Mu} {e : Ev} {R : Bool → Mu → Prop} (ok : okD d) (he : e[3]? = some (some d)) (r : R (bT d) m) : (dAndT (dB (dCB gIsi (dCons (dVar 3) (dCons (dC (.oth (.ty "tuple"))) dNil)))) (dB (dOp gNe (dVar 3) (dTup dNil)))) e m R := by
  simp only [dVar, dC, dOp, dB, dChain, dAndT, dOrT, dNotT, dAndV, dOrV, dNotV, dIf, dNeg, dNil, dCons, dTup, dLst, dLstM, dCB, g1, gIsi, gLen, gLen1, gRepr, gRepr1, gList1, gTuple1, gAll1, gOrd1, gStr1, gInt1, dMt, dMt0, gAppend, gExtend, gUpper, dNext, dSeq, dDrop, dRet, dRetF, dRetX, dRetN, dIfS, dSet, wSeq, wRng1, wRng2, gN, gP, dFor, dLc, dLcM, dYes, dPar, dAsg2, dCall, gI, gI0, gAdd2, gSub2, gAdd, gMul, gLt, gLe, gEq, gNe, gIsN, gNotN, gIn, gIx, gSl, dSl, dNoPart, dPart, dRev, gRev, gAddLM, gRepS, gLIndex, dKIndex, dFCells, dFInt, dFPut, dFeed, startD, wipeD, List.set_cons_zero, List.set_cons_succ, List.getElem?_cons_zero, List.getElem?_cons_succ, List.map_cons, List.map_nil, List.length_cons, List.length_nil, List.replicate, List.cons_append, List.nil_append, dInK, dIxK, wZip, dAsg3, dAsg5, gInS, dDisp, dDIn, dDGet, dCallF, gUpdate, he]
  refine ⟨ok.isi m (by decide), ?_⟩
  rw [isi_T ok]
  cases d with
  | tup xs =>
    refine ⟨by decide, ok.fit, fit_tnil, ?_⟩
    rw [eqv_tn]
    cases xs <;> exact r
  | _ => exact r
theorem law_3 {E : DEnds} {m : Mu} {p : Addr} {a b : Option D} {x5 x6 x7 x8 : Option D} {L : List D} (hp : m p = some (.lst L)) (g : Base 220 6600 L) (ha : L.any bT = true) (h : ∀ T, (∀ t ∈ T, Tup t) → T ≠ [] → T.length ≤ 220 → E.nx [a, b, some (.ref p), none, some (.lst T), x5, x6, x7, x8] m) : g_law_3 E [a, b, some (.ref p), none, none, x5, x6, x7, x8] m := by
  simp only [g_law_3, dSet, dLc, wSeq, dVar, wipeD, List.getElem?_cons_zero, List.getElem?_cons_succ, hp, List.set_cons_zero, List.set_cons_succ]
  intro q hq
  have hne : p ≠ q := fun e => by rw [e, hq] at hp; cases hp
  refine lcD_filter bT id (fun acc => by rw [mset_ne hne]; exact hp) _ _ (fun y hy acc R r => test_T ((g.all y hy).okD (by decide) (by decide)) rfl r) (fun y hy _ acc R r => r) (by have := g.few; rw [sizeLine_eq, List.length_nil]; omega) ?_
  rw [List.nil_append, List.map_id]
  refine h _ (fun t ht => ?_) (fun e => ?_) (Nat.le_trans (List.length_filter_le _ _) g.few)
  · obtain ⟨h1, h2⟩ := List.mem_filter.mp ht
    obtain ⟨x, r, rfl⟩ := bT_form h2
    exact ⟨x, r, rfl, g.all _ h1⟩
  · obtain ⟨t, h1, h2⟩ := List.any_eq_true.mp ha
    have : t ∈ L.filter bT := List.mem_filter.mpr ⟨h1, h2⟩
    rw [e] at this
    cases this

theorem law_4 {E : DEnds} {m : Mu} {e : Ev} {f p : Addr} {cs : List Int} {T : List D} (hl : cs.length ≤ 63) (hT : ∀ t ∈ T, Tup t) (hT0 : T ≠ []) (hT2 : T.length ≤ 220) (st : St f p cs T 220 6600 e m) (h : ∀ e m, St f p cs T 500 54600 e m → E.nx e m) : g_law_4 E e m := by
  have loop := forD_by (still := yes) (g := gN 5) (tb := (dDrop (dMt okM gExtend (dVar 2) (dCons (dCall sp__law_near (dCons (dVar 1) (dCons (dOp gIx (dVar 4) (dCall sp__law_draw (dCons (dVar 1) (dCons (dCB gLen (dCons (dVar 4) dNil)) dNil)))) dNil))) dNil)))) (E := E) (ds0 := rngD 0 (Int.toNat 40)) (fun k e m => St f p cs T (220 + 7 * k) (6600 + 1200 * k) e m) (fun _ _ _ _ => trivial)
    (fun k d e m K hd hk st hK => by
      have hk : k < 40 := hk
      obtain ⟨a0, L, x3, x5, x6, x7, x8, rfl, hf, hp, g⟩ := st
      have hT1 : 0 < T.length := List.length_pos_iff.mpr hT0
      simp only [dVar, dC, dOp, dB, dChain, dAndT, dOrT, dNotT, dAndV, dOrV, dNotV, dIf, dNeg, dNil, dCons, dTup, dLst, dLstM, dCB, g1, gIsi, gLen, gLen1, gRepr, gRepr1, gList1, gTuple1, gAll1, gOrd1, gStr1, gInt1, dMt, dMt0, gAppend, gExtend, gUpper, dNext, dSeq, dDrop, dRet, dRetF, dRetX, dRetN, dIfS, dSet, wSeq, wRng1, wRng2, gN, gP, dFor, dLc, dLcM, dYes, dPar, dAsg2, dCall, gI, gI0, gAdd2, gSub2, gAdd, gMul, gLt, gLe, gEq, gNe, gIsN, gNotN, gIn, gIx, gSl, dSl, dNoPart, dPart, dRev, gRev, gAddLM, gRepS, gLIndex, dKIndex, dFCells, dFInt, dFPut, dFeed, startD, wipeD, List.set_cons_zero, List.set_cons_succ, List.getElem?_cons_zero, List.getElem?_cons_succ, List.map_cons, List.map_nil, List.length_cons, List.length_nil, List.replicate, List.cons_append, List.nil_append, dInK, dIxK, wZip, dAsg3, dAsg5, gInS, dDisp, dDIn, dDGet, dCallF, gUpdate, sq, lv]
      refine ⟨by simp [okM, mlv, hp], f, cs, _, rfl, hf, hl, by omega, by omega, fun i h0 h1 => ?_⟩
      obtain ⟨t, ht, et⟩ := at_mem h0 h1
      obtain ⟨x, r, rfl, ok⟩ := hT t ht
      simp only [et]
      refine ⟨f, cs, x, r, rfl, hf, hl, ok, fun es ge => ?_⟩
      have g1 := g.few
      have g2 := ge.few
      simp only [mlv, hp, lv]
      refine ⟨by rw [sizeLine_eq]; omega, ?_⟩
      have hfp : f ≠ p := fun e => by rw [e, hp] at hf; cases hf
      exact hK _ _ ⟨a0, L ++ es, x3, some d, x6, x7, x8, rfl, by rw [mset_ne hfp]; exact hf, mset_same, (g.app ge).mono (by omega) (by omega)⟩) (fun e m st => h e m (by
        obtain ⟨a0, L, x3, x5, x6, x7, x8, rfl, hf, hp, g⟩ := st
        have hn : (rngD 0 (Int.toNat 40)).length = 40 := rfl
        rw [hn] at g
        exact ⟨a0, L, x3, x5, x6, x7, x8, rfl, hf, hp, g.mono (by decide) (by decide)⟩))
  obtain ⟨a0, L, x3, x5, x6, x7, x8, rfl, hf, hp, g⟩ := st
  simp only [g_law_4, dFor, wRng1, dC, dCons, dNil]
  exact ⟨⟨by decide, by decide⟩, loop _ 0 _ _ (Nat.zero_add _) (fun d hd => hd) ⟨a0, L, x3, x5, x6, x7, x8, rfl, hf, hp, g⟩⟩
/-- behind the kept text -/
def St2 (p : Addr) (T L : List D) (e : Ev) (m : Mu) : Prop := ∃ (a0 f : Option D) (x3 x5 x7 x8 : Option D), e = [a0, f, some (.ref p), x3, some (.lst T), x5, some (.str (shL L)), x7, x8] ∧ m p = some (.lst L)
theorem law_5 {E : DEnds} {m : Mu} {e : Ev} {f p : Addr} {cs : List Int} {T : List D} (st : St f p cs T 500 54600 e m) (h : ∀ L e m, Good 500 54600 L → St2 p T L e m → E.nx e m) : g_law_5 E e m := by
  obtain ⟨a0, L, x3, x5, x6, x7, x8, rfl, hf, hp, g⟩ := st
  simp only [g_law_5, dVar, dC, dOp, dB, dChain, dAndT, dOrT, dNotT, dAndV, dOrV, dNotV, dIf, dNeg, dNil, dCons, dTup, dLst, dLstM, dCB, g1, gIsi, gLen, gLen1, gRepr, gList1, gTuple1, gAll1, gOrd1, gStr1, gInt1, dMt, dMt0, gAppend, gExtend, gUpper, dNext, dSeq, dDrop, dRet, dRetF, dRetX, dRetN, dIfS, dSet, wSeq, wRng1, wRng2, gN, gP, dFor, dLc, dLcM, dYes, dPar, dAsg2, dCall, gI, gI0, gAdd2, gSub2, gAdd, gMul, gLt, gLe, gEq, gNe, gIsN, gNotN, gIn, gIx, gSl, dSl, dNoPart, dPart, dRev, gRev, gAddLM, gRepS, gLIndex, dKIndex, dFCells, dFInt, dFPut, dFeed, startD, wipeD, List.set_cons_zero, List.set_cons_succ, List.getElem?_cons_zero, List.getElem?_cons_succ, List.map_cons, List.map_nil, List.length_cons, List.length_nil, List.replicate, List.cons_append, List.nil_append, dInK, dIxK, wZip, dAsg3, dAsg5, gInS, dDisp, dDIn, dDGet, dCallF, gUpdate]
  exact repr_ref hp g (by decide) (h L _ _ g ⟨some a0, some (.ref f), x3, x5, x7, x8, rfl, hp⟩)
theorem two_ok (a b : Bool) : okT huge 10 1 (.tup [.bl a, .bl b]) := ⟨by simp only [asc, ascs, Bool.and_self], by simp only [sz, szs]; omega, by simp only [dp, dps]; omega⟩
theorem law_6 {E : DEnds} {m : Mu} {e : Ev} {p : Addr} {T L : List D} (g : Good 500 54600 L) (st : St2 p T L e m) (h : ∀ e m, St2 p T L e m → E.nx e m) : g_law_6 E e m := by
  have loop := forD_by (still := fun m => m p = some (.lst L)) (g := gN 3) (tb := (dIfS (dB (dOp gNe (dCB gRepr (dCons (dTup (dCons (dCall sp_is_what (dCons (dVar 3) dNil)) (dCons (dCall sp_is_deed (dCons (dVar 3) dNil)) dNil))) dNil)) (dCB gRepr (dCons (dTup (dCons (dCall sp__law_whatted (dCons (dVar 3) dNil)) (dCons (dCall sp__law_deeded (dCons (dVar 3) dNil)) dNil))) dNil)))) (dRet (dC (.bl false))) dNext)) (E := E) (ds0 := L) (fun k e m => St2 p T L e m) (fun _ e m st => by obtain ⟨_, _, _, _, _, _, _, hp⟩ := st; exact hp)
    (fun k d e m K hd hk st hK => by
      obtain ⟨a0, f, x3, x5, x7, x8, rfl, hp⟩ := st
      have od : okD d := (g.all d hd).okD (by omega) (by omega)
      simp only [dVar, dC, dOp, dB, dChain, dAndT, dOrT, dNotT, dAndV, dOrV, dNotV, dIf, dNeg, dNil, dCons, dTup, dLst, dLstM, dCB, g1, gIsi, gLen, gLen1, gRepr, gList1, gTuple1, gAll1, gOrd1, gStr1, gInt1, dMt, dMt0, gAppend, gExtend, gUpper, dNext, dSeq, dDrop, dRet, dRetF, dRetX, dRetN, dIfS, dSet, wSeq, wRng1, wRng2, gN, gP, dFor, dLc, dLcM, dYes, dPar, dAsg2, dCall, gI, gI0, gAdd2, gSub2, gAdd, gMul, gLt, gLe, gEq, gNe, gIsN, gNotN, gIn, gIx, gSl, dSl, dNoPart, dPart, dRev, gRev, gAddLM, gRepS, gLIndex, dKIndex, dFCells, dFInt, dFPut, dFeed, startD, wipeD, List.set_cons_zero, List.set_cons_succ, List.getElem?_cons_zero, List.getElem?_cons_succ, List.map_cons, List.map_nil, List.length_cons, List.length_nil, List.replicate, List.cons_append, List.nil_append, dInK, dIxK, wZip, dAsg3, dAsg5, gInS, dDisp, dDIn, dDGet, dCallF, gUpdate]
      refine ⟨d, rfl, od, d, rfl, od, by decide, ?_⟩
      have ok := two_ok (pWhat d) (pDeed d)
      have fin : K [a0, f, some (.ref p), some d, some (.lst T), x5, some (.str (shL L)), x7, x8] m := hK _ _ ⟨a0, f, some d, x5, x7, x8, rfl, hp⟩
      refine repr_ok ok (by omega) (by omega) (by omega) ?_
      refine ⟨d, rfl, od, d, rfl, od, by decide, ?_⟩
      refine repr_ok ok (by omega) (by omega) (by omega) ?_
      simp only [decide_true, Bool.not_true]
      exact fin) (fun e m st => h e m st)
  obtain ⟨a0, f, x3, x5, x7, x8, rfl, hp⟩ := st
  simp only [g_law_6, dFor, wSeq, dVar, List.getElem?_cons_zero, List.getElem?_cons_succ, hp]
  exact loop L 0 _ _ (Nat.zero_add _) (fun d hd => hd) ⟨a0, f, x3, x5, x7, x8, rfl, hp⟩
theorem what_form {d : D} (h : pWhat d = true) : ∃ z r, d = .tup (.str z :: r) ∧ (z ≠ "open" → r ≠ []) := by
  unfold pWhat at h
  cases hb : pBegins d with
  | false => rw [tagged_no hb] at h; cases h
  | true =>
    obtain ⟨z, r, rfl⟩ := begins_form hb
    refine ⟨z, r, rfl, fun _ e => ?_⟩
    subst e
    simp only [pTagged] at h
    cases hz : T_FORMS.lookup z with
    | none => rw [hz] at h; cases h
    | some ks =>
      rw [hz] at h
      have all : ∀ p ∈ T_FORMS, p.2 ≠ [] := by
        unfold T_FORMS
        decide +kernel
      have hk := all _ (lookup_mem hz)
      cases ks with
      | nil => exact absurd rfl hk
      | cons k ks =>
        unfold pFitG at h
        have h : (decide (([] : List D).length = (k :: ks).length) && (List.zipWith (pFitsG pInner) (k :: ks) []).all id) = true := h
        rw [decide_eq_false (by simp), Bool.false_and] at h
        cases h

def deedOf (w : D) : D := .tup [.str "bo", .int 3, .int 7, .tup [.tup [.str "bo", .int 3]], w]
theorem law_7 {E : DEnds} {m : Mu} {e : Ev} {p : Addr} {T L : List D} (hT : ∀ t ∈ T, Tup t) (hT2 : T.length ≤ 220) (st : St2 p T L e m) (h : ∀ e m, St2 p T L e m → E.nx e m) : g_law_7 E e m := by
  have loop := fun (ds0 : List D) (h0 : ∀ d ∈ ds0, Tup d ∧ pWhat d = true) => forD_by (still := yes) (g := gN 7) (tb := (dSeq (dSet 8 (dTup (dCons (dC (.str "bo")) (dCons (dC (.int 3)) (dCons (dC (.int 7)) (dCons (dTup (dCons (dTup (dCons (dC (.str "bo")) (dCons (dC (.int 3)) dNil))) dNil)) (dCons (dVar 7) dNil)))))))
      (dIfS (dB (dOp gNe (dCB gRepr (dCons (dLst (dCons (dCall sp_key_of (dCons (dVar 8) dNil)) (dCons (dCall sp_doc_of (dCons (dVar 8) dNil)) dNil))) dNil)) (dCB gRepr (dCons (dLst (dCons (dTup (dCons (dC (.str "bo")) (dCons (dC (.int 3)) dNil))) (dCons (dIf (dB (dOp gEq (dOp gIx (dVar 7) (dC (.int 0))) (dC (.str "open")))) (dTup (dCons (dC (.str "bo")) (dCons (dC (.int 3)) dNil))) (dOp gIx (dVar 7) (dC (.int 1)))) dNil))) dNil))))
      (dRet (dC (.bl false)))
      dNext))) (E := E) (ds0 := ds0) (fun k e m => St2 p T L e m) (fun _ _ _ _ => trivial)
    (fun k d e m K hd hk st hK => by
      obtain ⟨a0, f, x3, x5, x7, x8, rfl, hp⟩ := st
      obtain ⟨⟨x, r, e1, ok⟩, hw⟩ := h0 d hd
      obtain ⟨z, r', e2, hr⟩ := what_form hw
      rw [e2] at e1
      cases e1
      subst e2
      simp only [dVar, dC, dOp, dB, dChain, dAndT, dOrT, dNotT, dAndV, dOrV, dNotV, dIf, dNeg, dNil, dCons, dTup, dLst, dLstM, dCB, g1, gIsi, gLen, gLen1, gRepr, gList1, gTuple1, gAll1, gOrd1, gStr1, gInt1, dMt, dMt0, gAppend, gExtend, gUpper, dNext, dSeq, dDrop, dRet, dRetF, dRetX, dRetN, dIfS, dSet, wSeq, wRng1, wRng2, gN, gP, dFor, dLc, dLcM, dYes, dPar, dAsg2, dCall, gI, gI0, gAdd2, gSub2, gAdd, gMul, gLt, gLe, gEq, gNe, gIsN, gNotN, gIn, gIx, gSl, dSl, dNoPart, dPart, dRev, gRev, gAddLM, gRepS, gLIndex, dKIndex, dFCells, dFInt, dFPut, dFeed, startD, wipeD, List.set_cons_zero, List.set_cons_succ, List.getElem?_cons_zero, List.getElem?_cons_succ, List.map_cons, List.map_nil, List.length_cons, List.length_nil, List.replicate, List.cons_append, List.nil_append, dInK, dIxK, wZip, dAsg3, dAsg5, gInS, dDisp, dDIn, dDGet, dCallF, gUpdate, sq, at0]
      refine ⟨by decide, by decide, by decide, ?_⟩
      refine ⟨_, _, _, _, _, rfl, _, _, _, _, z, r, rfl, hr, by decide, ?_⟩
      have fin : ∀ y, K [a0, f, some (.ref p), x3, some (.lst T), x5, some (.str (shL L)), some (.tup (.str z :: r)), y] m := fun y => hK _ _ ⟨a0, f, x3, x5, _, _, rfl, hp⟩
      have okk : okT huge 10 1 (.tup [.str "bo", .int 3]) := okT_of (by decide +kernel)
      have ok2 : ∀ w, okT huge 70 4 w → okT huge 90 5 (.lst [.tup [.str "bo", .int 3], w]) := fun w ow => okT_lst (fun d hd => by
        rcases List.mem_cons.mp hd with rfl | hd
        · exact okk.a
        · rw [List.mem_singleton.mp hd]; exact ow.a) (by have h1 := okk.s; have h2 := ow.s; simp only [szs]; omega) (fun d hd => by
        rcases List.mem_cons.mp hd with rfl | hd
        · have := okk.k; omega
        · rw [List.mem_singleton.mp hd]; exact ow.k)
      by_cases hz : z = "open"
      · have ed : docOf (.tup (.str z :: r)) (.tup [.str "bo", .int 3]) = .tup [.str "bo", .int 3] := by simp only [docOf]; rw [if_pos hz]
        rw [ed, decide_eq_true hz]
        refine repr_ok (ok2 _ (okk.mono (Nat.le_refl _) (by decide) (by decide))) (by omega) (by omega) (by omega) ?_
        refine ⟨by decide, by decide, by decide, ?_⟩
        refine repr_ok (ok2 _ (okk.mono (Nat.le_refl _) (by decide) (by decide))) (by omega) (by omega) (by omega) ?_
        simp only [decide_true, Bool.not_true]
        exact fin _
      · obtain ⟨y, r2, rfl⟩ : ∃ y r2, r = y :: r2 := by
          cases r with
          | nil => exact absurd rfl (hr hz)
          | cons y r2 => exact ⟨y, r2, rfl⟩
        have ed : docOf (.tup (.str z :: y :: r2)) (.tup [.str "bo", .int 3]) = y := by simp only [docOf]; rw [if_neg hz]; rfl
        have oy : okT huge 70 4 y := (ok.mem (List.mem_cons_of_mem _ List.mem_cons_self)).mono (Nat.le_refl _) (by have := ok.s; simp only [sz, szs] at this; omega) (Nat.le_refl _)
        rw [ed, decide_eq_false hz]
        refine repr_ok (ok2 _ oy) (by omega) (by omega) (by omega) ?_
        simp only [at1]
        refine ⟨by decide, by decide, ?_⟩
        refine repr_ok (ok2 _ oy) (by omega) (by omega) (by omega) ?_
        simp only [decide_true, Bool.not_true]
        exact fin _) (fun e m st => h e m st)
  obtain ⟨a0, f, x3, x5, x7, x8, rfl, hp⟩ := st
  simp only [g_law_7, dFor, wSeq, dLc, dVar, wipeD, List.getElem?_cons_zero, List.getElem?_cons_succ, List.set_cons_zero, List.set_cons_succ]
  intro q hq
  refine lcD_filter pWhat id (fun acc => trivial) _ _ (fun y hy acc R r => ?_) (fun y hy _ acc R r => r) (by rw [sizeLine_eq, List.length_nil]; omega) ?_
  · obtain ⟨x, r', e1, ok⟩ := hT y hy
    subst e1
    simp only [dVar, dC, dOp, dB, dChain, dAndT, dOrT, dNotT, dAndV, dOrV, dNotV, dIf, dNeg, dNil, dCons, dTup, dLst, dLstM, dCB, g1, gIsi, gLen, gLen1, gRepr, gRepr1, gList1, gTuple1, gAll1, gOrd1, gStr1, gInt1, dMt, dMt0, gAppend, gExtend, gUpper, dNext, dSeq, dDrop, dRet, dRetF, dRetX, dRetN, dIfS, dSet, wSeq, wRng1, wRng2, gN, gP, dFor, dLc, dLcM, dYes, dPar, dAsg2, dCall, gI, gI0, gAdd2, gSub2, gAdd, gMul, gLt, gLe, gEq, gNe, gIsN, gNotN, gIn, gIx, gSl, dSl, dNoPart, dPart, dRev, gRev, gAddLM, gRepS, gLIndex, dKIndex, dFCells, dFInt, dFPut, dFeed, startD, wipeD, List.set_cons_zero, List.set_cons_succ, List.getElem?_cons_zero, List.getElem?_cons_succ, List.map_cons, List.map_nil, List.length_cons, List.length_nil, List.replicate, List.cons_append, List.nil_append, dInK, dIxK, wZip, dAsg3, dAsg5, gInS, dDisp, dDIn, dDGet, dCallF, gUpdate]
    exact ⟨_, rfl, ok.okD (by decide) (by decide), r⟩
  · rw [List.nil_append, List.map_id]
    exact loop _ (fun d hd => ⟨hT d (List.mem_filter.mp hd).1, (List.mem_filter.mp hd).2⟩) _ 0 _ _ (Nat.zero_add _) (fun d hd => hd) ⟨a0, f, x3, x5, x7, x8, rfl, hp⟩
theorem law_8 {E : DEnds} {m : Mu} {e : Ev} {p : Addr} {T L : List D} (g : Good 500 54600 L) (st : St2 p T L e m) (h : ∀ m, E.rt (.bl true) m) : g_law_8 E e m := by
  obtain ⟨a0, f, x3, x5, x7, x8, rfl, hp⟩ := st
  simp only [g_law_8, dVar, dC, dOp, dB, dChain, dAndT, dOrT, dNotT, dAndV, dOrV, dNotV, dIf, dNeg, dNil, dCons, dTup, dLst, dLstM, dCB, g1, gIsi, gLen, gLen1, gRepr, gList1, gTuple1, gAll1, gOrd1, gStr1, gInt1, dMt, dMt0, gAppend, gExtend, gUpper, dNext, dSeq, dDrop, dRet, dRetF, dRetX, dRetN, dIfS, dSet, wSeq, wRng1, wRng2, gN, gP, dFor, dLc, dLcM, dYes, dPar, dAsg2, dCall, gI, gI0, gAdd2, gSub2, gAdd, gMul, gLt, gLe, gEq, gNe, gIsN, gNotN, gIn, gIx, gSl, dSl, dNoPart, dPart, dRev, gRev, gAddLM, gRepS, gLIndex, dKIndex, dFCells, dFInt, dFPut, dFeed, startD, wipeD, List.set_cons_zero, List.set_cons_succ, List.getElem?_cons_zero, List.getElem?_cons_succ, List.map_cons, List.map_nil, List.length_cons, List.length_nil, List.replicate, List.cons_append, List.nil_append, dInK, dIxK, wZip, dAsg3, dAsg5, gInS, dDisp, dDIn, dDGet, dCallF, gUpdate]
  refine repr_ref hp g (by decide) ?_
  simp only [decide_true]
  exact h m
def sp_law : DSp := fun ds m Q => ∃ ns, ds = [.scr ns] ∧ ns.length ≤ 63 ∧ ∀ m', Q (.bl true) m'
theorem ar_law : ∀ ds m Q, sp_law ds m Q → ds.length = 1 := fun ds m Q ⟨ns, e, _⟩ => by rw [e]; rfl
theorem rd_law : ∀ ds m Q, sp_law ds m Q → b_law { nx := fun _ m' => Q .non m', rt := Q } (startD 9 ds) m := by
  rintro ds m Q ⟨ns, rfl, hn, q⟩
  rw [eq_law]
  have h9 : startD 9 [D.scr ns] = [some (.scr ns), none, none, none, none, none, none, none, none] := rfl
  rw [h9]
  refine seq_in (law_1 hn fun f hf => ?_)
  dsimp only
  refine seq_in (law_2 mset_same fun p L m' hf' hp g ha => ?_)
  dsimp only
  refine seq_in (law_3 hp g ha fun T hT hT0 hT2 => ?_)
  dsimp only
  refine seq_in (law_4 hn hT hT0 hT2 ⟨.scr ns, L, none, none, none, none, none, rfl, hf', hp, g.good⟩ fun e m st => ?_)
  dsimp only
  refine seq_in (law_5 st fun L2 e m g2 st => ?_)
  dsimp only
  refine seq_in (law_6 g2 st fun e m st => ?_)
  dsimp only
  refine seq_in (law_7 hT hT2 st fun e m st => ?_)
  dsimp only
  exact law_8 g2 st q
end K02

set_option Elab.async false
set_option linter.all false
set_option maxRecDepth 100000
set_option maxHeartbeats 4000000
namespace K02
open PySem PySem.Spec PyProof.Rows L2 DL K01
theorem ar_is_small_letter : ∀ ds m Q, sp_is_small_letter ds m Q → ds.length = 1 := fun ds m Q ⟨c, e, _⟩ => by rw [e]; rfl
theorem ar_is_sign : ∀ ds m Q, sp_is_sign ds m Q → ds.length = 1 := fun ds m Q ⟨c, e, _⟩ => by rw [e]; rfl
theorem ar_is_text_to : ∀ ds m Q, sp_is_text_to ds m Q → ds.length = 2 := fun ds m Q ⟨d, n, e, _⟩ => by rw [e]; rfl
theorem ar_named : ∀ ds m Q, sp__fits_as_named ds m Q → ds.length = 2 := fun ds m Q ⟨k, d, e, _⟩ => by rw [e]; rfl
def topS (i : Nat) : Stmt := PySem.Challenge.pw_coeditry_k02_whats_and_deeds.main.body.getD i (.Pass ⟨0, 0, 0, 0⟩)
abbrev s_is_whole : Stmt := topS 6
abbrev n_is_whole : List Str := ["thing"]
abbrev p_is_whole : List Str := ["thing"]
theorem sc_is_whole : FnScope n_is_whole p_is_whole (defScope s_is_whole) := ⟨rfl, rfl, rfl, by decide +kernel, rfl, by decide +kernel, by decide +kernel⟩

abbrev s_is_number : Stmt := topS 7
abbrev n_is_number : List Str := ["thing"]
abbrev p_is_number : List Str := ["thing"]
theorem sc_is_number : FnScope n_is_number p_is_number (defScope s_is_number) := ⟨rfl, rfl, rfl, by decide +kernel, rfl, by decide +kernel, by decide +kernel⟩

abbrev s_is_small_letter : Stmt := topS 8
abbrev n_is_small_letter : List Str := ["sign"]
abbrev p_is_small_letter : List Str := ["sign"]
theorem sc_is_small_letter : FnScope n_is_small_letter p_is_small_letter (defScope s_is_small_letter) := ⟨rfl, rfl, rfl, by decide +kernel, rfl, by decide +kernel, by decide +kernel⟩

abbrev s_is_word : Stmt := topS 9
abbrev n_is_word : List Str := ["thing", "sign"]
abbrev p_is_word : List Str := ["thing"]
theorem sc_is_word : FnScope n_is_word p_is_word (defScope s_is_word) := ⟨rfl, rfl, rfl, by decide +kernel, rfl, by decide +kernel, by decide +kernel⟩

abbrev s_is_sign : Stmt := topS 10
abbrev n_is_sign : List Str := ["sign"]
abbrev p_is_sign : List Str := ["sign"]
theorem sc_is_sign : FnScope n_is_sign p_is_sign (defScope s_is_sign) := ⟨rfl, rfl, rfl, by decide +kernel, rfl, by decide +kernel, by decide +kernel⟩

abbrev s_is_text_to : Stmt := topS 11
abbrev n_is_text_to : List Str := ["thing", "most", "sign"]
abbrev p_is_text_to : List Str := ["thing", "most"]
theorem sc_is_text_to : FnScope n_is_text_to p_is_text_to (defScope s_is_text_to) := ⟨rfl, rfl, rfl, by decide +kernel, rfl, by decide +kernel, by decide +kernel⟩

abbrev s_is_signs : Stmt := topS 12
abbrev n_is_signs : List Str := ["thing"]
abbrev p_is_signs : List Str := ["thing"]
theorem sc_is_signs : FnScope n_is_signs p_is_signs (defScope s_is_signs) := ⟨rfl, rfl, rfl, by decide +kernel, rfl, by decide +kernel, by decide +kernel⟩

abbrev s_is_said : Stmt := topS 13
abbrev n_is_said : List Str := ["thing"]
abbrev p_is_said : List Str := ["thing"]
theorem sc_is_said : FnScope n_is_said p_is_said (defScope s_is_said) := ⟨rfl, rfl, rfl, by decide +kernel, rfl, by decide +kernel, by decide +kernel⟩

abbrev s_is_value : Stmt := topS 14
abbrev n_is_value : List Str := ["thing"]
abbrev p_is_value : List Str := ["thing"]
theorem sc_is_value : FnScope n_is_value p_is_value (defScope s_is_value) := ⟨rfl, rfl, rfl, by decide +kernel, rfl, by decide +kernel, by decide +kernel⟩

abbrev s_is_pair : Stmt := topS 15
abbrev n_is_pair : List Str := ["thing"]
abbrev p_is_pair : List Str := ["thing"]
theorem sc_is_pair : FnScope n_is_pair p_is_pair (defScope s_is_pair) := ⟨rfl, rfl, rfl, by decide +kernel, rfl, by decide +kernel, by decide +kernel⟩

abbrev s_is_key : Stmt := topS 16
abbrev n_is_key : List Str := ["thing"]
abbrev p_is_key : List Str := ["thing"]
theorem sc_is_key : FnScope n_is_key p_is_key (defScope s_is_key) := ⟨rfl, rfl, rfl, by decide +kernel, rfl, by decide +kernel, by decide +kernel⟩

abbrev s_is_name : Stmt := topS 17
abbrev n_is_name : List Str := ["thing"]
abbrev p_is_name : List Str := ["thing"]
theorem sc_is_name : FnScope n_is_name p_is_name (defScope s_is_name) := ⟨rfl, rfl, rfl, by decide +kernel, rfl, by decide +kernel, by decide +kernel⟩

abbrev s_rises : Stmt := topS 18
abbrev n_rises : List Str := ["things", "at"]
abbrev p_rises : List Str := ["things"]
theorem sc_rises : FnScope n_rises p_rises (defScope s_rises) := ⟨rfl, rfl, rfl, by decide +kernel, rfl, by decide +kernel, by decide +kernel⟩

abbrev s_are_names : Stmt := topS 19
abbrev n_are_names : List Str := ["thing", "name"]
abbrev p_are_names : List Str := ["thing"]
theorem sc_are_names : FnScope n_are_names p_are_names (defScope s_are_names) := ⟨rfl, rfl, rfl, by decide +kernel, rfl, by decide +kernel, by decide +kernel⟩

abbrev s_is_level : Stmt := topS 20
abbrev n_is_level : List Str := ["thing"]
abbrev p_is_level : List Str := ["thing"]
theorem sc_is_level : FnScope n_is_level p_is_level (defScope s_is_level) := ⟨rfl, rfl, rfl, by decide +kernel, rfl, by decide +kernel, by decide +kernel⟩

abbrev s_is_share : Stmt := topS 21
abbrev n_is_share : List Str := ["thing"]
abbrev p_is_share : List Str := ["thing"]
theorem sc_is_share : FnScope n_is_share p_is_share (defScope s_is_share) := ⟨rfl, rfl, rfl, by decide +kernel, rfl, by decide +kernel, by decide +kernel⟩

abbrev s_is_version : Stmt := topS 22
abbrev n_is_version : List Str := ["thing", "share"]
abbrev p_is_version : List Str := ["thing"]
theorem sc_is_version : FnScope n_is_version p_is_version (defScope s_is_version) := ⟨rfl, rfl, rfl, by decide +kernel, rfl, by decide +kernel, by decide +kernel⟩

abbrev s_is_what : Stmt := topS 24
abbrev n_is_what : List Str := ["thing"]
abbrev p_is_what : List Str := ["thing"]
theorem sc_is_what : FnScope n_is_what p_is_what (defScope s_is_what) := ⟨rfl, rfl, rfl, by decide +kernel, rfl, by decide +kernel, by decide +kernel⟩

abbrev s_is_deed : Stmt := topS 25
abbrev n_is_deed : List Str := ["thing", "hand", "n", "count", "knew", "what"]
abbrev p_is_deed : List Str := ["thing"]
theorem sc_is_deed : FnScope n_is_deed p_is_deed (defScope s_is_deed) := ⟨rfl, rfl, rfl, by decide +kernel, rfl, by decide +kernel, by decide +kernel⟩

abbrev s__is_inner : Stmt := topS 26
abbrev n__is_inner : List Str := ["thing"]
abbrev p__is_inner : List Str := ["thing"]
theorem sc__is_inner : FnScope n__is_inner p__is_inner (defScope s__is_inner) := ⟨rfl, rfl, rfl, by decide +kernel, rfl, by decide +kernel, by decide +kernel⟩

abbrev s__begins_with_text : Stmt := topS 27
abbrev n__begins_with_text : List Str := ["thing"]
abbrev p__begins_with_text : List Str := ["thing"]
theorem sc__begins_with_text : FnScope n__begins_with_text p__begins_with_text (defScope s__begins_with_text) := ⟨rfl, rfl, rfl, by decide +kernel, rfl, by decide +kernel, by decide +kernel⟩

abbrev s__fit : Stmt := topS 28
abbrev n__fit : List Str := ["kinds", "things", "kind", "thing"]
abbrev p__fit : List Str := ["kinds", "things"]
theorem sc__fit : FnScope n__fit p__fit (defScope s__fit) := ⟨rfl, rfl, rfl, by decide +kernel, rfl, by decide +kernel, by decide +kernel⟩

abbrev s__fits : Stmt := topS 29
abbrev n__fits : List Str := ["kind", "thing"]
abbrev p__fits : List Str := ["kind", "thing"]
theorem sc__fits : FnScope n__fits p__fits (defScope s__fits) := ⟨rfl, rfl, rfl, by decide +kernel, rfl, by decide +kernel, by decide +kernel⟩

abbrev s__fits_plainly : Stmt := topS 30
abbrev n__fits_plainly : List Str := ["kind", "thing"]
abbrev p__fits_plainly : List Str := ["kind", "thing"]
theorem sc__fits_plainly : FnScope n__fits_plainly p__fits_plainly (defScope s__fits_plainly) := ⟨rfl, rfl, rfl, by decide +kernel, rfl, by decide +kernel, by decide +kernel⟩

abbrev s__fits_as_named : Stmt := topS 31
abbrev n__fits_as_named : List Str := ["kind", "thing"]
abbrev p__fits_as_named : List Str := ["kind", "thing"]
theorem sc__fits_as_named : FnScope n__fits_as_named p__fits_as_named (defScope s__fits_as_named) := ⟨rfl, rfl, rfl, by decide +kernel, rfl, by decide +kernel, by decide +kernel⟩

abbrev s_key_of : Stmt := topS 33
abbrev n_key_of : List Str := ["deed"]
abbrev p_key_of : List Str := ["deed"]
theorem sc_key_of : FnScope n_key_of p_key_of (defScope s_key_of) := ⟨rfl, rfl, rfl, by decide +kernel, rfl, by decide +kernel, by decide +kernel⟩

abbrev s_what_of : Stmt := topS 34
abbrev n_what_of : List Str := ["deed"]
abbrev p_what_of : List Str := ["deed"]
theorem sc_what_of : FnScope n_what_of p_what_of (defScope s_what_of) := ⟨rfl, rfl, rfl, by decide +kernel, rfl, by decide +kernel, by decide +kernel⟩

abbrev s_doc_named : Stmt := topS 35
abbrev n_doc_named : List Str := ["what", "key"]
abbrev p_doc_named : List Str := ["what", "key"]
theorem sc_doc_named : FnScope n_doc_named p_doc_named (defScope s_doc_named) := ⟨rfl, rfl, rfl, by decide +kernel, rfl, by decide +kernel, by decide +kernel⟩

abbrev s_doc_of : Stmt := topS 36
abbrev n_doc_of : List Str := ["deed"]
abbrev p_doc_of : List Str := ["deed"]
theorem sc_doc_of : FnScope n_doc_of p_doc_of (defScope s_doc_of) := ⟨rfl, rfl, rfl, by decide +kernel, rfl, by decide +kernel, by decide +kernel⟩

abbrev s__law_feed : Stmt := topS 38
abbrev n__law_feed : List Str := ["_law_script"]
abbrev p__law_feed : List Str := ["_law_script"]
theorem sc__law_feed : FnScope n__law_feed p__law_feed (defScope s__law_feed) := ⟨rfl, rfl, rfl, by decide +kernel, rfl, by decide +kernel, by decide +kernel⟩

abbrev s__law_draw : Stmt := topS 39
abbrev n__law_draw : List Str := ["_law_feed_here", "_law_many", "_law_figure", "_law_at", "_law_cell", "_law_mixed"]
abbrev p__law_draw : List Str := ["_law_feed_here", "_law_many"]
theorem sc__law_draw : FnScope n__law_draw p__law_draw (defScope s__law_draw) := ⟨rfl, rfl, rfl, by decide +kernel, rfl, by decide +kernel, by decide +kernel⟩

abbrev s__law_odd : Stmt := topS 40
abbrev n__law_odd : List Str := ["_law_feed_here", "_law_odd_here"]
abbrev p__law_odd : List Str := ["_law_feed_here"]
theorem sc__law_odd : FnScope n__law_odd p__law_odd (defScope s__law_odd) := ⟨rfl, rfl, rfl, by decide +kernel, rfl, by decide +kernel, by decide +kernel⟩

abbrev s__law_bent : Stmt := topS 41
abbrev n__law_bent : List Str := ["_law_feed_here", "_law_thing", "_law_at", "_law_way", "_law_picked"]
abbrev p__law_bent : List Str := ["_law_feed_here", "_law_thing"]
theorem sc__law_bent : FnScope n__law_bent p__law_bent (defScope s__law_bent) := ⟨rfl, rfl, rfl, by decide +kernel, rfl, by decide +kernel, by decide +kernel⟩

abbrev s__law_whole : Stmt := topS 42
abbrev n__law_whole : List Str := ["_law_thing"]
abbrev p__law_whole : List Str := ["_law_thing"]
theorem sc__law_whole : FnScope n__law_whole p__law_whole (defScope s__law_whole) := ⟨rfl, rfl, rfl, by decide +kernel, rfl, by decide +kernel, by decide +kernel⟩

abbrev s__law_counted : Stmt := topS 43
abbrev n__law_counted : List Str := ["_law_thing"]
abbrev p__law_counted : List Str := ["_law_thing"]
theorem sc__law_counted : FnScope n__law_counted p__law_counted (defScope s__law_counted) := ⟨rfl, rfl, rfl, by decide +kernel, rfl, by decide +kernel, by decide +kernel⟩

abbrev s__law_worded : Stmt := topS 44
abbrev n__law_worded : List Str := ["_law_thing", "_law_sign"]
abbrev p__law_worded : List Str := ["_law_thing"]
theorem sc__law_worded : FnScope n__law_worded p__law_worded (defScope s__law_worded) := ⟨rfl, rfl, rfl, by decide +kernel, rfl, by decide +kernel, by decide +kernel⟩

abbrev s__law_texted : Stmt := topS 45
abbrev n__law_texted : List Str := ["_law_thing", "_law_many", "_law_sign"]
abbrev p__law_texted : List Str := ["_law_thing", "_law_many"]
theorem sc__law_texted : FnScope n__law_texted p__law_texted (defScope s__law_texted) := ⟨rfl, rfl, rfl, by decide +kernel, rfl, by decide +kernel, by decide +kernel⟩

abbrev s__law_keyed : Stmt := topS 46
abbrev n__law_keyed : List Str := ["_law_thing"]
abbrev p__law_keyed : List Str := ["_law_thing"]
theorem sc__law_keyed : FnScope n__law_keyed p__law_keyed (defScope s__law_keyed) := ⟨rfl, rfl, rfl, by decide +kernel, rfl, by decide +kernel, by decide +kernel⟩

abbrev s__law_named : Stmt := topS 47
abbrev n__law_named : List Str := ["_law_thing"]
abbrev p__law_named : List Str := ["_law_thing"]
theorem sc__law_named : FnScope n__law_named p__law_named (defScope s__law_named) := ⟨rfl, rfl, rfl, by decide +kernel, rfl, by decide +kernel, by decide +kernel⟩

abbrev s__law_all_named : Stmt := topS 48
abbrev n__law_all_named : List Str := ["_law_thing", "_law_k", "_law_one"]
abbrev p__law_all_named : List Str := ["_law_thing"]
theorem sc__law_all_named : FnScope n__law_all_named p__law_all_named (defScope s__law_all_named) := ⟨rfl, rfl, rfl, by decide +kernel, rfl, by decide +kernel, by decide +kernel⟩

abbrev s__law_leveled : Stmt := topS 49
abbrev n__law_leveled : List Str := ["_law_thing"]
abbrev p__law_leveled : List Str := ["_law_thing"]
theorem sc__law_leveled : FnScope n__law_leveled p__law_leveled (defScope s__law_leveled) := ⟨rfl, rfl, rfl, by decide +kernel, rfl, by decide +kernel, by decide +kernel⟩

abbrev s__law_versioned : Stmt := topS 50
abbrev n__law_versioned : List Str := ["_law_thing", "_law_k", "_law_one"]
abbrev p__law_versioned : List Str := ["_law_thing"]
theorem sc__law_versioned : FnScope n__law_versioned p__law_versioned (defScope s__law_versioned) := ⟨rfl, rfl, rfl, by decide +kernel, rfl, by decide +kernel, by decide +kernel⟩

abbrev s__law_inner : Stmt := topS 51
abbrev n__law_inner : List Str := ["_law_thing"]
abbrev p__law_inner : List Str := ["_law_thing"]
theorem sc__law_inner : FnScope n__law_inner p__law_inner (defScope s__law_inner) := ⟨rfl, rfl, rfl, by decide +kernel, rfl, by decide +kernel, by decide +kernel⟩

abbrev s__law_part_is : Stmt := topS 52
abbrev n__law_part_is : List Str := ["_law_sort", "_law_thing"]
abbrev p__law_part_is : List Str := ["_law_sort", "_law_thing"]
theorem sc__law_part_is : FnScope n__law_part_is p__law_part_is (defScope s__law_part_is) := ⟨rfl, rfl, rfl, by decide +kernel, rfl, by decide +kernel, by decide +kernel⟩

abbrev s__law_whatted : Stmt := topS 53
abbrev n__law_whatted : List Str := ["_law_thing", "_law_rows", "_law_sorts", "_law_k"]
abbrev p__law_whatted : List Str := ["_law_thing"]
theorem sc__law_whatted : FnScope n__law_whatted p__law_whatted (defScope s__law_whatted) := ⟨rfl, rfl, rfl, by decide +kernel, rfl, by decide +kernel, by decide +kernel⟩

abbrev s__law_deeded : Stmt := topS 54
abbrev n__law_deeded : List Str := ["_law_thing"]
abbrev p__law_deeded : List Str := ["_law_thing"]
theorem sc__law_deeded : FnScope n__law_deeded p__law_deeded (defScope s__law_deeded) := ⟨rfl, rfl, rfl, by decide +kernel, rfl, by decide +kernel, by decide +kernel⟩

abbrev s__law_fixed : Stmt := topS 55
abbrev n__law_fixed : List Str := ["_law_doc", "_law_key", "_law_name", "_law_found"]
abbrev p__law_fixed : List Str := []
theorem sc__law_fixed : FnScope n__law_fixed p__law_fixed (defScope s__law_fixed) := ⟨rfl, rfl, rfl, by decide +kernel, rfl, by decide +kernel, by decide +kernel⟩

abbrev s__law_others : Stmt := topS 56
abbrev n__law_others : List Str := ["_law_doc", "_law_key", "_law_name", "_law_found", "_law_what"]
abbrev p__law_others : List Str := []
theorem sc__law_others : FnScope n__law_others p__law_others (defScope s__law_others) := ⟨rfl, rfl, rfl, by decide +kernel, rfl, by decide +kernel, by decide +kernel⟩

abbrev s__law_near : Stmt := topS 57
abbrev n__law_near : List Str := ["_law_feed_here", "_law_thing", "_law_words", "_law_bent_here", "_law_found"]
abbrev p__law_near : List Str := ["_law_feed_here", "_law_thing"]
theorem sc__law_near : FnScope n__law_near p__law_near (defScope s__law_near) := ⟨rfl, rfl, rfl, by decide +kernel, rfl, by decide +kernel, by decide +kernel⟩

abbrev s_law : Stmt := topS 58
abbrev n_law : List Str := ["_law_script", "_law_feed_here", "_law_things", "_law_thing", "_law_tuples", "_law_k", "_law_kept", "_law_what", "_law_deed"]
abbrev p_law : List Str := ["_law_script"]
theorem sc_law : FnScope n_law p_law (defScope s_law) := ⟨rfl, rfl, rfl, by decide +kernel, rfl, by decide +kernel, by decide +kernel⟩

end K02

set_option Elab.async false
set_option linter.all false
set_option maxRecDepth 100000
set_option maxHeartbeats 4000000
namespace K02
open PySem PySem.Spec PyProof.Rows L2 DL K01
section
variable {P : Program} {w : World} {K : PySem.W.Frag} {mg : Str → Option Value} {base : Heap}
theorem ok_is_whole {f : Addr} {fd : FuncData} (a : At K mg "is_whole" s_is_whole p_is_whole f fd) (z_isinstance : mg "isinstance" = none) (z_bool : mg "bool" = none) (z_int : mg "int" = none) : FnG P w K mg base CX0 1 f fd p_is_whole (toSp K sp_is_whole) := by
  have sc := sc_is_whole
  refine a.fn.okD sc ar1 fun cdv A fr t H E room => ⟨b_is_whole, ?_, rd_is_whole⟩
  exact (dss_one (ds_ret (de_and (de_callB call_isiA i_isi (by rfl) z_isinstance PyProof.Rows.boot_isinstance (da_cons (de_v 0) (da_cons (de_ty (by rfl) z_int (by decide +kernel)) da_nil))) (de_one (de_not (de_callB call_isiA i_isi (by rfl) z_isinstance PyProof.Rows.boot_isinstance (da_cons (de_v 0) (da_cons (de_ty (by rfl) z_bool (by decide +kernel)) da_nil))))))))

theorem ok_is_number {f : Addr} {fd : FuncData} (a : At K mg "is_number" s_is_number p_is_number f fd) {f_is_whole : Addr} {fd_is_whole : FuncData} (a_is_whole : At K mg "is_whole" s_is_whole p_is_whole f_is_whole fd_is_whole) (G_is_whole : FnG P w K mg base CX0 1 f_is_whole fd_is_whole p_is_whole (toSp K sp_is_whole)) : FnG P w K mg base CX0 2 f fd p_is_number (toSp K sp_is_number) := by
  have sc := sc_is_number
  refine a.fn.okD sc ar1 fun cdv A fr t H E room => ⟨b_is_number, ?_, rd_is_number⟩
  exact (dss_one (ds_ret (de_and (a_is_whole.call G_is_whole (room.mono (by decide)) (by rfl) (da_cons (de_v 0) da_nil)) (de_one (de_cmp op_ge i_ge (de_v 0) de_int (nomark _))))))

theorem ok_is_small_letter {f : Addr} {fd : FuncData} (a : At K mg "is_small_letter" s_is_small_letter p_is_small_letter f fd)  : FnG P w K mg base CX0 1 f fd p_is_small_letter (toSp K sp_is_small_letter) := by
  have sc := sc_is_small_letter
  refine a.fn.okD sc ar_is_small_letter fun cdv A fr t H E room => ⟨b_is_small_letter, ?_, rd_is_small_letter⟩
  exact (dss_one (ds_ret (de_chain (op_leA room.u65) i_le (op_leA room.u65) i_le de_str (de_v 0) de_str)))

theorem ok_is_word {f : Addr} {fd : FuncData} (a : At K mg "is_word" s_is_word p_is_word f fd) {f_is_small_letter : Addr} {fd_is_small_letter : FuncData} (a_is_small_letter : At K mg "is_small_letter" s_is_small_letter p_is_small_letter f_is_small_letter fd_is_small_letter) (G_is_small_letter : FnG P w K mg base CX0 1 f_is_small_letter fd_is_small_letter p_is_small_letter (toSp K sp_is_small_letter)) (z_all : mg "all" = none) (z_len : mg "len" = none) (z_isinstance : mg "isinstance" = none) (z_str : mg "str" = none) : FnG P w K mg base CX0 2 f fd p_is_word (toSp K sp_is_word) := by
  have sc := sc_is_word
  refine a.fn.okD sc ar1 fun cdv A fr t H E room => ⟨b_is_word, ?_, rd_is_word⟩
  exact (dss_one (ds_ret (de_and (de_callB call_isiA i_isi (by rfl) z_isinstance PyProof.Rows.boot_isinstance (da_cons (de_v 0) (da_cons (de_ty (by rfl) z_str (by decide +kernel)) da_nil))) (de_and (de_chain (op_leA room.u65) i_le (op_leA room.u65) i_le de_int (de_callB call_len i_len (by rfl) z_len PySem.boot_len (da_cons (de_v 0) da_nil)) de_int) (de_one (de_callB (cr_all rfl) i_all (by rfl) z_all (by decide +kernel) (da_cons (de_lc (own := [("sign", 1)]) rfl sc.nd (di_seq (de_v 0)) (blkOk_by (own := [("sign", 1)]) (N := n_is_word) (sc := defScope s_is_word) (by decide +kernel)) (fun _ _ _ _ _ => (dg_name (i := 1) sc.nd rfl (by first | exact .inl rfl | exact .inr rfl))) (fun _ _ _ _ _ => dp_nil) (fun _ _ _ _ _ => (a_is_small_letter.call G_is_small_letter (room.mono (by decide)) (by rfl) (da_cons (de_v 1) da_nil)))) da_nil)))))))

theorem ok_is_sign {f : Addr} {fd : FuncData} (a : At K mg "is_sign" s_is_sign p_is_sign f fd) (z_ord : mg "ord" = none) {t__HUNDREDTHS : Tok} (c__HUNDREDTHS : mg "_HUNDREDTHS" = some (.int v__HUNDREDTHS t__HUNDREDTHS)) : FnG P w K mg base CX0 1 f fd p_is_sign (toSp K sp_is_sign) := by
  have sc := sc_is_sign
  refine a.fn.okD sc ar_is_sign fun cdv A fr t H E room => ⟨b_is_sign, ?_, rd_is_sign⟩
  exact (dss_one (ds_ret (de_and (de_chain (op_leA room.u65) i_le (op_leA room.u65) i_le de_str (de_v 0) de_str) (de_one (de_cmp (op_neA room.u64) i_ne (de_callB call_ord i_ord (by rfl) z_ord (by decide +kernel) (da_cons (de_v 0) da_nil)) (de_glob (v := .int v__HUNDREDTHS) (by rfl) c__HUNDREDTHS ⟨_, rfl⟩ (fun _ _ => rfl)) (nomark _))))))

theorem ok_is_text_to {f : Addr} {fd : FuncData} (a : At K mg "is_text_to" s_is_text_to p_is_text_to f fd) {f_is_sign : Addr} {fd_is_sign : FuncData} (a_is_sign : At K mg "is_sign" s_is_sign p_is_sign f_is_sign fd_is_sign) (G_is_sign : FnG P w K mg base CX0 1 f_is_sign fd_is_sign p_is_sign (toSp K sp_is_sign)) (z_all : mg "all" = none) (z_len : mg "len" = none) (z_isinstance : mg "isinstance" = none) (z_str : mg "str" = none) : FnG P w K mg base CX0 2 f fd p_is_text_to (toSp K sp_is_text_to) := by
  have sc := sc_is_text_to
  refine a.fn.okD sc ar_is_text_to fun cdv A fr t H E room => ⟨b_is_text_to, ?_, rd_is_text_to⟩
  exact (dss_one (ds_ret (de_and (de_callB call_isiA i_isi (by rfl) z_isinstance PyProof.Rows.boot_isinstance (da_cons (de_v 0) (da_cons (de_ty (by rfl) z_str (by decide +kernel)) da_nil))) (de_and (de_chain (op_leA room.u65) i_le (op_leA room.u65) i_le de_int (de_callB call_len i_len (by rfl) z_len PySem.boot_len (da_cons (de_v 0) da_nil)) (de_v 1)) (de_one (de_callB (cr_all rfl) i_all (by rfl) z_all (by decide +kernel) (da_cons (de_lc (own := [("sign", 2)]) rfl sc.nd (di_seq (de_v 0)) (blkOk_by (own := [("sign", 2)]) (N := n_is_text_to) (sc := defScope s_is_text_to) (by decide +kernel)) (fun _ _ _ _ _ => (dg_name (i := 2) sc.nd rfl (by first | exact .inl rfl | exact .inr rfl))) (fun _ _ _ _ _ => dp_nil) (fun _ _ _ _ _ => (a_is_sign.call G_is_sign (room.mono (by decide)) (by rfl) (da_cons (de_v 2) da_nil)))) da_nil)))))))

theorem ok_is_signs {f : Addr} {fd : FuncData} (a : At K mg "is_signs" s_is_signs p_is_signs f fd) {f_is_text_to : Addr} {fd_is_text_to : FuncData} (a_is_text_to : At K mg "is_text_to" s_is_text_to p_is_text_to f_is_text_to fd_is_text_to) (G_is_text_to : FnG P w K mg base CX0 2 f_is_text_to fd_is_text_to p_is_text_to (toSp K sp_is_text_to)) : FnG P w K mg base CX0 3 f fd p_is_signs (toSp K sp_is_signs) := by
  have sc := sc_is_signs
  refine a.fn.okD sc ar1 fun cdv A fr t H E room => ⟨b_is_signs, ?_, rd_is_signs⟩
  exact (dss_one (ds_ret (a_is_text_to.call G_is_text_to (room.mono (by decide)) (by rfl) (da_cons (de_v 0) (da_cons de_int da_nil)))))

theorem ok_is_said {f : Addr} {fd : FuncData} (a : At K mg "is_said" s_is_said p_is_said f fd) {f_is_text_to : Addr} {fd_is_text_to : FuncData} (a_is_text_to : At K mg "is_text_to" s_is_text_to p_is_text_to f_is_text_to fd_is_text_to) (G_is_text_to : FnG P w K mg base CX0 2 f_is_text_to fd_is_text_to p_is_text_to (toSp K sp_is_text_to)) : FnG P w K mg base CX0 3 f fd p_is_said (toSp K sp_is_said) := by
  have sc := sc_is_said
  refine a.fn.okD sc ar1 fun cdv A fr t H E room => ⟨b_is_said, ?_, rd_is_said⟩
  exact (dss_one (ds_ret (a_is_text_to.call G_is_text_to (room.mono (by decide)) (by rfl) (da_cons (de_v 0) (da_cons de_int da_nil)))))

theorem ok_is_value {f : Addr} {fd : FuncData} (a : At K mg "is_value" s_is_value p_is_value f fd) {f_is_signs : Addr} {fd_is_signs : FuncData} (a_is_signs : At K mg "is_signs" s_is_signs p_is_signs f_is_signs fd_is_signs) (G_is_signs : FnG P w K mg base CX0 3 f_is_signs fd_is_signs p_is_signs (toSp K sp_is_signs)) {f_is_whole : Addr} {fd_is_whole : FuncData} (a_is_whole : At K mg "is_whole" s_is_whole p_is_whole f_is_whole fd_is_whole) (G_is_whole : FnG P w K mg base CX0 1 f_is_whole fd_is_whole p_is_whole (toSp K sp_is_whole)) : FnG P w K mg base CX0 4 f fd p_is_value (toSp K sp_is_value) := by
  have sc := sc_is_value
  refine a.fn.okD sc ar1 fun cdv A fr t H E room => ⟨b_is_value, ?_, rd_is_value⟩
  exact (dss_one (ds_ret (de_or (a_is_whole.call G_is_whole (room.mono (by decide)) (by rfl) (da_cons (de_v 0) da_nil)) (de_one (a_is_signs.call G_is_signs (room.mono (by decide)) (by rfl) (da_cons (de_v 0) da_nil))))))

theorem ok_is_pair {f : Addr} {fd : FuncData} (a : At K mg "is_pair" s_is_pair p_is_pair f fd) (z_len : mg "len" = none) (z_isinstance : mg "isinstance" = none) (z_tuple : mg "tuple" = none) : FnG P w K mg base CX0 1 f fd p_is_pair (toSp K sp_is_pair) := by
  have sc := sc_is_pair
  refine a.fn.okD sc ar1 fun cdv A fr t H E room => ⟨b_is_pair, ?_, rd_is_pair⟩
  exact (dss_one (ds_ret (de_and (de_callB call_isiA i_isi (by rfl) z_isinstance PyProof.Rows.boot_isinstance (da_cons (de_v 0) (da_cons (de_ty (by rfl) z_tuple (by decide +kernel)) da_nil))) (de_one (de_cmp (op_eqA room.u64) i_eq (de_callB call_len i_len (by rfl) z_len PySem.boot_len (da_cons (de_v 0) da_nil)) de_int (nomark _))))))

theorem ok_is_key {f : Addr} {fd : FuncData} (a : At K mg "is_key" s_is_key p_is_key f fd) {f_is_number : Addr} {fd_is_number : FuncData} (a_is_number : At K mg "is_number" s_is_number p_is_number f_is_number fd_is_number) (G_is_number : FnG P w K mg base CX0 2 f_is_number fd_is_number p_is_number (toSp K sp_is_number)) {f_is_word : Addr} {fd_is_word : FuncData} (a_is_word : At K mg "is_word" s_is_word p_is_word f_is_word fd_is_word) (G_is_word : FnG P w K mg base CX0 2 f_is_word fd_is_word p_is_word (toSp K sp_is_word)) {f_is_pair : Addr} {fd_is_pair : FuncData} (a_is_pair : At K mg "is_pair" s_is_pair p_is_pair f_is_pair fd_is_pair) (G_is_pair : FnG P w K mg base CX0 1 f_is_pair fd_is_pair p_is_pair (toSp K sp_is_pair)) : FnG P w K mg base CX0 3 f fd p_is_key (toSp K sp_is_key) := by
  have sc := sc_is_key
  refine a.fn.okD sc ar1 fun cdv A fr t H E room => ⟨b_is_key, ?_, rd_is_key⟩
  exact (dss_one (ds_ret (de_and (a_is_pair.call G_is_pair (room.mono (by decide)) (by rfl) (da_cons (de_v 0) da_nil)) (de_and (a_is_word.call G_is_word (room.mono (by decide)) (by rfl) (da_cons (de_ix ix_all i_ix (de_v 0) de_int (fun _ _ => rfl)) da_nil)) (de_one (a_is_number.call G_is_number (room.mono (by decide)) (by rfl) (da_cons (de_ix ix_all i_ix (de_v 0) de_int (fun _ _ => rfl)) da_nil)))))))

theorem ok_is_name {f : Addr} {fd : FuncData} (a : At K mg "is_name" s_is_name p_is_name f fd) {f_is_number : Addr} {fd_is_number : FuncData} (a_is_number : At K mg "is_number" s_is_number p_is_number f_is_number fd_is_number) (G_is_number : FnG P w K mg base CX0 2 f_is_number fd_is_number p_is_number (toSp K sp_is_number)) {f_is_key : Addr} {fd_is_key : FuncData} (a_is_key : At K mg "is_key" s_is_key p_is_key f_is_key fd_is_key) (G_is_key : FnG P w K mg base CX0 3 f_is_key fd_is_key p_is_key (toSp K sp_is_key)) {f_is_pair : Addr} {fd_is_pair : FuncData} (a_is_pair : At K mg "is_pair" s_is_pair p_is_pair f_is_pair fd_is_pair) (G_is_pair : FnG P w K mg base CX0 1 f_is_pair fd_is_pair p_is_pair (toSp K sp_is_pair)) : FnG P w K mg base CX0 4 f fd p_is_name (toSp K sp_is_name) := by
  have sc := sc_is_name
  refine a.fn.okD sc ar1 fun cdv A fr t H E room => ⟨b_is_name, ?_, rd_is_name⟩
  exact (dss_one (ds_ret (de_and (a_is_pair.call G_is_pair (room.mono (by decide)) (by rfl) (da_cons (de_v 0) da_nil)) (de_and (a_is_key.call G_is_key (room.mono (by decide)) (by rfl) (da_cons (de_ix ix_all i_ix (de_v 0) de_int (fun _ _ => rfl)) da_nil)) (de_one (a_is_number.call G_is_number (room.mono (by decide)) (by rfl) (da_cons (de_ix ix_all i_ix (de_v 0) de_int (fun _ _ => rfl)) da_nil)))))))

theorem ok_rises {f : Addr} {fd : FuncData} (a : At K mg "rises" s_rises p_rises f fd) (z_all : mg "all" = none) (z_range : mg "range" = none) (z_len : mg "len" = none) : FnG P w K mg base CX0 1 f fd p_rises (toSp K sp_rises) := by
  have sc := sc_rises
  refine a.fn.okD sc ar_rises fun cdv A fr t H E room => ⟨b_rises, ?_, rd_rises⟩
  exact (dss_one (ds_ret (de_callB (cr_all rfl) i_all (by rfl) z_all (by decide +kernel) (da_cons (de_lc (own := [("at", 1)]) rfl sc.nd (di_rng2 (by rfl) z_range (da_cons de_int (da_cons (de_callB call_len i_len (by rfl) z_len PySem.boot_len (da_cons (de_v 0) da_nil)) da_nil))) (blkOk_by (own := [("at", 1)]) (N := n_rises) (sc := defScope s_rises) (by decide +kernel)) (fun _ _ _ _ _ => (dg_name (i := 1) sc.nd rfl (by first | exact .inl rfl | exact .inr rfl))) (fun _ _ _ _ _ => dp_nil) (fun _ _ _ _ _ => (de_cmp (op_ltA room.u65) i_lt (de_ix ix_all i_ix (de_v 0) (de_bin op_sub2 i_sub2 (de_v 1) de_int) (fun _ _ => rfl)) (de_ix ix_all i_ix (de_v 0) (de_v 1) (fun _ _ => rfl)) (nomark _)))) da_nil))))

theorem ok_are_names {f : Addr} {fd : FuncData} (a : At K mg "are_names" s_are_names p_are_names f fd) {f_rises : Addr} {fd_rises : FuncData} (a_rises : At K mg "rises" s_rises p_rises f_rises fd_rises) (G_rises : FnG P w K mg base CX0 1 f_rises fd_rises p_rises (toSp K sp_rises)) {f_is_name : Addr} {fd_is_name : FuncData} (a_is_name : At K mg "is_name" s_is_name p_is_name f_is_name fd_is_name) (G_is_name : FnG P w K mg base CX0 4 f_is_name fd_is_name p_is_name (toSp K sp_is_name)) (z_all : mg "all" = none) (z_len : mg "len" = none) (z_isinstance : mg "isinstance" = none) (z_tuple : mg "tuple" = none) : FnG P w K mg base CX0 5 f fd p_are_names (toSp K sp_are_names) := by
  have sc := sc_are_names
  refine a.fn.okD sc ar1 fun cdv A fr t H E room => ⟨b_are_names, ?_, rd_are_names⟩
  exact (dss_cons (ds_if (PW.pt (dw_or (dt_not (dt_val (de_callB call_isiA i_isi (by rfl) z_isinstance PyProof.Rows.boot_isinstance (da_cons (de_v 0) (da_cons (de_ty (by rfl) z_tuple (by decide +kernel)) da_nil))))) (dw_or1 (dt_cmp (op_eqA room.u64) i_eq (de_callB call_len i_len (by rfl) z_len PySem.boot_len (da_cons (de_v 0) da_nil)) de_int (nomark _)))))
      (dss_one (ds_ret de_bl))
      dss_nil)
      (dss_one (ds_ret (de_and (de_callB (cr_all rfl) i_all (by rfl) z_all (by decide +kernel) (da_cons (de_lc (own := [("name", 1)]) rfl sc.nd (di_seq (de_v 0)) (blkOk_by (own := [("name", 1)]) (N := n_are_names) (sc := defScope s_are_names) (by decide +kernel)) (fun _ _ _ _ _ => (dg_name (i := 1) sc.nd rfl (by first | exact .inl rfl | exact .inr rfl))) (fun _ _ _ _ _ => dp_nil) (fun _ _ _ _ _ => (a_is_name.call G_is_name (room.mono (by decide)) (by rfl) (da_cons (de_v 1) da_nil)))) da_nil)) (de_one (a_rises.call G_rises (room.mono (by decide)) (by rfl) (da_cons (de_v 0) da_nil)))))))

theorem ok_is_level {f : Addr} {fd : FuncData} (a : At K mg "is_level" s_is_level p_is_level f fd) (z_isinstance : mg "isinstance" = none) (z_str : mg "str" = none) {k_LEVELS : Addr} {o_LEVELS : Obj} (c_LEVELS : CstT K mg "LEVELS" l_LEVELS k_LEVELS o_LEVELS) : FnG P w K mg base CX0 1 f fd p_is_level (toSp K sp_is_level) := by
  have sc := sc_is_level
  refine a.fn.okD sc ar1 fun cdv A fr t H E room => ⟨b_is_level, ?_, rd_is_level⟩
  exact (dss_one (ds_ret (de_and (de_callB call_isiA i_isi (by rfl) z_isinstance PyProof.Rows.boot_isinstance (da_cons (de_v 0) (da_cons (de_ty (by rfl) z_str (by decide +kernel)) da_nil))) (de_one (de_cmp op_in_seq (i_in (neg := false)) (de_v 0) (de_glob (by rfl) c_LEVELS.here (show RelV (.ref _) (.ref _) from rfl) c_LEVELS.rp) (by rfl))))))

theorem ok_is_share {f : Addr} {fd : FuncData} (a : At K mg "is_share" s_is_share p_is_share f fd) {f_is_key : Addr} {fd_is_key : FuncData} (a_is_key : At K mg "is_key" s_is_key p_is_key f_is_key fd_is_key) (G_is_key : FnG P w K mg base CX0 3 f_is_key fd_is_key p_is_key (toSp K sp_is_key)) : FnG P w K mg base CX0 4 f fd p_is_share (toSp K sp_is_share) := by
  have sc := sc_is_share
  refine a.fn.okD sc ar1 fun cdv A fr t H E room => ⟨b_is_share, ?_, rd_is_share⟩
  exact (dss_one (ds_ret (de_and (a_is_key.call G_is_key (room.mono (by decide)) (by rfl) (da_cons (de_v 0) da_nil)) (de_one (de_cmp op_gt i_gt (de_ix ix_all i_ix (de_v 0) de_int (fun _ _ => rfl)) de_int (nomark _))))))

theorem ok_is_version {f : Addr} {fd : FuncData} (a : At K mg "is_version" s_is_version p_is_version f fd) {f_rises : Addr} {fd_rises : FuncData} (a_rises : At K mg "rises" s_rises p_rises f_rises fd_rises) (G_rises : FnG P w K mg base CX0 1 f_rises fd_rises p_rises (toSp K sp_rises)) {f_is_share : Addr} {fd_is_share : FuncData} (a_is_share : At K mg "is_share" s_is_share p_is_share f_is_share fd_is_share) (G_is_share : FnG P w K mg base CX0 4 f_is_share fd_is_share p_is_share (toSp K sp_is_share)) (z_all : mg "all" = none) (z_isinstance : mg "isinstance" = none) (z_tuple : mg "tuple" = none) : FnG P w K mg base CX0 5 f fd p_is_version (toSp K sp_is_version) := by
  have sc := sc_is_version
  refine a.fn.okD sc ar1 fun cdv A fr t H E room => ⟨b_is_version, ?_, rd_is_version⟩
  exact (dss_cons (ds_if (dt_not (dt_val (de_callB call_isiA i_isi (by rfl) z_isinstance PyProof.Rows.boot_isinstance (da_cons (de_v 0) (da_cons (de_ty (by rfl) z_tuple (by decide +kernel)) da_nil)))))
      (dss_one (ds_ret de_bl))
      dss_nil)
      (dss_one (ds_ret (de_and (de_callB (cr_all rfl) i_all (by rfl) z_all (by decide +kernel) (da_cons (de_lc (own := [("share", 1)]) rfl sc.nd (di_seq (de_v 0)) (blkOk_by (own := [("share", 1)]) (N := n_is_version) (sc := defScope s_is_version) (by decide +kernel)) (fun _ _ _ _ _ => (dg_name (i := 1) sc.nd rfl (by first | exact .inl rfl | exact .inr rfl))) (fun _ _ _ _ _ => dp_nil) (fun _ _ _ _ _ => (a_is_share.call G_is_share (room.mono (by decide)) (by rfl) (da_cons (de_v 1) da_nil)))) da_nil)) (de_one (a_rises.call G_rises (room.mono (by decide)) (by rfl) (da_cons (de_lc (own := [("share", 1)]) rfl sc.nd (di_seq (de_v 0)) (blkOk_by (own := [("share", 1)]) (N := n_is_version) (sc := defScope s_is_version) (by decide +kernel)) (fun _ _ _ _ _ => (dg_name (i := 1) sc.nd rfl (by first | exact .inl rfl | exact .inr rfl))) (fun _ _ _ _ _ => dp_nil) (fun _ _ _ _ _ => (de_ix ix_all i_ix (de_v 1) de_int (fun _ _ => rfl)))) da_nil)))))))

theorem ok__begins_with_text {f : Addr} {fd : FuncData} (a : At K mg "_begins_with_text" s__begins_with_text p__begins_with_text f fd) (z_isinstance : mg "isinstance" = none) (z_str : mg "str" = none) (z_len : mg "len" = none) (z_tuple : mg "tuple" = none) : FnG P w K mg base CX0 1 f fd p__begins_with_text (toSp K sp__begins_with_text) := by
  have sc := sc__begins_with_text
  refine a.fn.okD sc ar1 fun cdv A fr t H E room => ⟨b__begins_with_text, ?_, rd__begins⟩
  exact (dss_one (ds_ret (de_and (de_callB call_isiA i_isi (by rfl) z_isinstance PyProof.Rows.boot_isinstance (da_cons (de_v 0) (da_cons (de_ty (by rfl) z_tuple (by decide +kernel)) da_nil))) (de_and (de_cmp op_gt i_gt (de_callB call_len i_len (by rfl) z_len PySem.boot_len (da_cons (de_v 0) da_nil)) de_int (nomark _)) (de_one (de_callB call_isiA i_isi (by rfl) z_isinstance PyProof.Rows.boot_isinstance (da_cons (de_ix ix_all i_ix (de_v 0) de_int (fun _ _ => rfl)) (da_cons (de_ty (by rfl) z_str (by decide +kernel)) da_nil))))))))

theorem ok__fits_plainly {f : Addr} {fd : FuncData} (a : At K mg "_fits_plainly" s__fits_plainly p__fits_plainly f fd) {f_is_value : Addr} {fd_is_value : FuncData} (a_is_value : At K mg "is_value" s_is_value p_is_value f_is_value fd_is_value) (G_is_value : FnG P w K mg base CX0 4 f_is_value fd_is_value p_is_value (toSp K sp_is_value)) {f_is_said : Addr} {fd_is_said : FuncData} (a_is_said : At K mg "is_said" s_is_said p_is_said f_is_said fd_is_said) (G_is_said : FnG P w K mg base CX0 3 f_is_said fd_is_said p_is_said (toSp K sp_is_said)) {f_is_signs : Addr} {fd_is_signs : FuncData} (a_is_signs : At K mg "is_signs" s_is_signs p_is_signs f_is_signs fd_is_signs) (G_is_signs : FnG P w K mg base CX0 3 f_is_signs fd_is_signs p_is_signs (toSp K sp_is_signs)) {f_is_level : Addr} {fd_is_level : FuncData} (a_is_level : At K mg "is_level" s_is_level p_is_level f_is_level fd_is_level) (G_is_level : FnG P w K mg base CX0 1 f_is_level fd_is_level p_is_level (toSp K sp_is_level)) {f_is_word : Addr} {fd_is_word : FuncData} (a_is_word : At K mg "is_word" s_is_word p_is_word f_is_word fd_is_word) (G_is_word : FnG P w K mg base CX0 2 f_is_word fd_is_word p_is_word (toSp K sp_is_word)) : FnG P w K mg base CX0 5 f fd p__fits_plainly (toSp K sp__fits_plainly) := by
  have sc := sc__fits_plainly
  refine a.fn.okD sc ar_plain fun cdv A fr t H E room => ⟨b__fits_plainly, ?_, rd__fits_plainly⟩
  exact (dss_cons (ds_if (dt_cmp (op_eqA room.u64) i_eq (de_v 0) de_str (nomark _))
      (dss_one (ds_ret (a_is_word.call G_is_word (room.mono (by decide)) (by rfl) (da_cons (de_v 1) da_nil))))
      dss_nil)
      (dss_cons (ds_if (dt_cmp (op_eqA room.u64) i_eq (de_v 0) de_str (nomark _))
      (dss_one (ds_ret (a_is_level.call G_is_level (room.mono (by decide)) (by rfl) (da_cons (de_v 1) da_nil))))
      dss_nil)
      (dss_cons (ds_if (dt_cmp (op_eqA room.u64) i_eq (de_v 0) de_str (nomark _))
      (dss_one (ds_ret (a_is_signs.call G_is_signs (room.mono (by decide)) (by rfl) (da_cons (de_v 1) da_nil))))
      dss_nil)
      (dss_cons (ds_if (dt_cmp (op_eqA room.u64) i_eq (de_v 0) de_str (nomark _))
      (dss_one (ds_ret (a_is_said.call G_is_said (room.mono (by decide)) (by rfl) (da_cons (de_v 1) da_nil))))
      dss_nil)
      (dss_one (ds_ret (a_is_value.call G_is_value (room.mono (by decide)) (by rfl) (da_cons (de_v 1) da_nil))))))))

theorem ok__fits_as_named {f : Addr} {fd : FuncData} (a : At K mg "_fits_as_named" s__fits_as_named p__fits_as_named f fd) {f_is_key : Addr} {fd_is_key : FuncData} (a_is_key : At K mg "is_key" s_is_key p_is_key f_is_key fd_is_key) (G_is_key : FnG P w K mg base CX0 3 f_is_key fd_is_key p_is_key (toSp K sp_is_key)) {f_is_name : Addr} {fd_is_name : FuncData} (a_is_name : At K mg "is_name" s_is_name p_is_name f_is_name fd_is_name) (G_is_name : FnG P w K mg base CX0 4 f_is_name fd_is_name p_is_name (toSp K sp_is_name)) {f_are_names : Addr} {fd_are_names : FuncData} (a_are_names : At K mg "are_names" s_are_names p_are_names f_are_names fd_are_names) (G_are_names : FnG P w K mg base CX0 5 f_are_names fd_are_names p_are_names (toSp K sp_are_names)) : FnG P w K mg base CX0 6 f fd p__fits_as_named (toSp K sp__fits_as_named) := by
  have sc := sc__fits_as_named
  refine a.fn.okD sc ar_named fun cdv A fr t H E room => ⟨b__fits_as_named, ?_, rd__fits_as_named⟩
  exact (dss_cons (ds_if (dt_cmp op_in_seq (i_in (neg := false)) (de_v 0) (de_tup (da_cons de_str (da_cons de_str da_nil))) (by rfl))
      (dss_one (ds_ret (a_is_key.call G_is_key (room.mono (by decide)) (by rfl) (da_cons (de_v 1) da_nil))))
      dss_nil)
      (dss_cons (ds_if (dt_cmp (op_eqA room.u64) i_eq (de_v 0) de_str (nomark _))
      (dss_one (ds_ret (a_is_name.call G_is_name (room.mono (by decide)) (by rfl) (da_cons (de_v 1) da_nil))))
      dss_nil)
      (dss_cons (ds_if (dt_cmp (op_eqA room.u64) i_eq (de_v 0) de_str (nomark _))
      (dss_one (ds_ret (a_are_names.call G_are_names (room.mono (by decide)) (by rfl) (da_cons (de_v 1) da_nil))))
      dss_nil)
      (dss_cons (ds_if (dt_cmp (op_eqA room.u64) i_eq (de_v 0) de_str (nomark _))
      (dss_one (ds_ret (de_or (a_are_names.call G_are_names (room.mono (by decide)) (by rfl) (da_cons (de_v 1) da_nil)) (de_one (a_is_key.call G_is_key (room.mono (by decide)) (by rfl) (da_cons (de_v 1) da_nil))))))
      dss_nil)
      (dss_one (ds_ret (de_or (a_is_name.call G_is_name (room.mono (by decide)) (by rfl) (da_cons (de_v 1) da_nil)) (de_one (a_is_key.call G_is_key (room.mono (by decide)) (by rfl) (da_cons (de_v 1) da_nil))))))))))

theorem step__is_inner {k : Nat} (hk : 6 ≤ k) {f : Addr} {fd : FuncData} (a : At K mg "_is_inner" s__is_inner p__is_inner f fd) {f__fit : Addr} {fd__fit : FuncData} (sp__fit : DSp) (a__fit : At K mg "_fit" s__fit p__fit f__fit fd__fit) (G__fit : FnG P w K mg base CX0 k f__fit fd__fit p__fit (toSp K sp__fit)) {f__begins_with_text : Addr} {fd__begins_with_text : FuncData} (a__begins_with_text : At K mg "_begins_with_text" s__begins_with_text p__begins_with_text f__begins_with_text fd__begins_with_text) (G__begins_with_text : FnG P w K mg base CX0 1 f__begins_with_text fd__begins_with_text p__begins_with_text (toSp K sp__begins_with_text)) {k_INNERS : Addr} (c_INNERS : CstD K w mg "INNERS" T_INNERS k_INNERS) (sp' : DSp) (ar : ∀ ds m Q, sp' ds m Q → ds.length = 1) (rd : ∀ ds m Q, sp' ds m Q → b__is_inner sp__fit { nx := fun _ m' => Q .non m', rt := Q } (startD 1 ds) m) : FnG P w K mg base CX0 (k + 1) f fd p__is_inner (toSp K sp') := by
  have sc := sc__is_inner
  refine a.fn.okD sc ar fun cdv A fr t H E room => ⟨b__is_inner sp__fit, ?_, rd⟩
  exact (dss_cons (ds_if (PW.pt (dw_or (dt_not (dt_val (a__begins_with_text.call G__begins_with_text (room.mono (by omega)) (by rfl) (da_cons (de_v 0) da_nil)))) (dw_or1 (dt_notInK c_INNERS (by rfl) (de_ix ix_all i_ix (de_v 0) de_int (fun _ _ => rfl))))))
      (dss_one (ds_ret de_bl))
      dss_nil)
      (dss_one (ds_ret (a__fit.call G__fit (room.mono (by omega)) (by rfl) (da_cons (de_ixK c_INNERS (by rfl) (de_ix ix_all i_ix (de_v 0) de_int (fun _ _ => rfl)) (fun _ _ => rfl)) (da_cons (de_sl (de_v 0) (do_some de_int) do_none) da_nil))))))

theorem step__fit {k : Nat} (hk : 6 ≤ k) {f : Addr} {fd : FuncData} (a : At K mg "_fit" s__fit p__fit f fd) {f__fits : Addr} {fd__fits : FuncData} (sp__fits : DSp) (a__fits : At K mg "_fits" s__fits p__fits f__fits fd__fits) (G__fits : FnG P w K mg base CX0 k f__fits fd__fits p__fits (toSp K sp__fits)) (z_all : mg "all" = none) (z_zip : mg "zip" = none) (z_len : mg "len" = none) (sp' : DSp) (ar : ∀ ds m Q, sp' ds m Q → ds.length = 2) (rd : ∀ ds m Q, sp' ds m Q → b__fit sp__fits { nx := fun _ m' => Q .non m', rt := Q } (startD 4 ds) m) : FnG P w K mg base CX0 (k + 1) f fd p__fit (toSp K sp') := by
  have sc := sc__fit
  refine a.fn.okD sc ar fun cdv A fr t H E room => ⟨b__fit sp__fits, ?_, rd⟩
  exact (dss_cons (ds_if (dt_cmp (op_neA room.u64) i_ne (de_callB call_len i_len (by rfl) z_len PySem.boot_len (da_cons (de_v 1) da_nil)) (de_callB call_len i_len (by rfl) z_len PySem.boot_len (da_cons (de_v 0) da_nil)) (nomark _))
      (dss_one (ds_ret de_bl))
      dss_nil)
      (dss_one (ds_ret (de_callB (cr_all rfl) i_all (by rfl) z_all (by decide +kernel) (da_cons (de_lc (own := [("kind", 2), ("thing", 3)]) rfl sc.nd (di_zip (by rfl) z_zip (da_cons (de_v 0) (da_cons (de_v 1) da_nil))) (blkOk_by (own := [("kind", 2), ("thing", 3)]) (N := n__fit) (sc := defScope s__fit) (by decide +kernel)) (fun _ _ _ _ _ => (dg_pair (i := 2) (j := 3) rfl sc.nd rfl rfl (by first | exact .inl rfl | exact .inr rfl) (by first | exact .inl rfl | exact .inr rfl))) (fun _ _ _ _ _ => dp_nil) (fun _ _ _ _ _ => (a__fits.call G__fits (room.mono (by omega)) (by rfl) (da_cons (de_v 2) (da_cons (de_v 3) da_nil))))) da_nil)))))

theorem step__fits {k : Nat} (hk : 6 ≤ k) {f : Addr} {fd : FuncData} (a : At K mg "_fits" s__fits p__fits f fd) {f__fits_as_named : Addr} {fd__fits_as_named : FuncData} (a__fits_as_named : At K mg "_fits_as_named" s__fits_as_named p__fits_as_named f__fits_as_named fd__fits_as_named) (G__fits_as_named : FnG P w K mg base CX0 6 f__fits_as_named fd__fits_as_named p__fits_as_named (toSp K sp__fits_as_named)) {f__fits_plainly : Addr} {fd__fits_plainly : FuncData} (a__fits_plainly : At K mg "_fits_plainly" s__fits_plainly p__fits_plainly f__fits_plainly fd__fits_plainly) (G__fits_plainly : FnG P w K mg base CX0 5 f__fits_plainly fd__fits_plainly p__fits_plainly (toSp K sp__fits_plainly)) {f__is_inner : Addr} {fd__is_inner : FuncData} (sp__is_inner : DSp) (a__is_inner : At K mg "_is_inner" s__is_inner p__is_inner f__is_inner fd__is_inner) (G__is_inner : FnG P w K mg base CX0 k f__is_inner fd__is_inner p__is_inner (toSp K sp__is_inner)) (z_isinstance : mg "isinstance" = none) (z_bool : mg "bool" = none) (z_str : mg "str" = none) {k_SORTS : Addr} {o_SORTS : Obj} (c_SORTS : CstT K mg "SORTS" l_SORTS k_SORTS o_SORTS) (sp' : DSp) (ar : ∀ ds m Q, sp' ds m Q → ds.length = 2) (rd : ∀ ds m Q, sp' ds m Q → b__fits sp__is_inner { nx := fun _ m' => Q .non m', rt := Q } (startD 2 ds) m) : FnG P w K mg base CX0 (k + 1) f fd p__fits (toSp K sp') := by
  have sc := sc__fits
  refine a.fn.okD sc ar fun cdv A fr t H E room => ⟨b__fits sp__is_inner, ?_, rd⟩
  exact (dss_cons (ds_if (PW.pt (dw_and (dt_cmp op_in_seq (i_in (neg := false)) (de_v 0) (de_tup (da_cons de_str (da_cons de_str (da_cons de_str da_nil)))) (by rfl)) (dw_and1 (dt_cmp op_isN i_isN (de_v 1) de_non (nomark _)))))
      (dss_one (ds_ret de_bl))
      dss_nil)
      (dss_cons (ds_if (dt_cmp (op_eqA room.u64) i_eq (de_v 0) de_str (nomark _))
      (dss_one (ds_ret (de_and (de_callB call_isiA i_isi (by rfl) z_isinstance PyProof.Rows.boot_isinstance (da_cons (de_v 1) (da_cons (de_ty (by rfl) z_str (by decide +kernel)) da_nil))) (de_one (de_cmp op_in_seq (i_in (neg := false)) (de_v 1) (de_glob (by rfl) c_SORTS.here (show RelV (.ref _) (.ref _) from rfl) c_SORTS.rp) (by rfl))))))
      dss_nil)
      (dss_cons (ds_if (dt_cmp (op_eqA room.u64) i_eq (de_v 0) de_str (nomark _))
      (dss_one (ds_ret (de_callB call_isiA i_isi (by rfl) z_isinstance PyProof.Rows.boot_isinstance (da_cons (de_v 1) (da_cons (de_ty (by rfl) z_bool (by decide +kernel)) da_nil)))))
      dss_nil)
      (dss_cons (ds_if (dt_cmp (op_eqA room.u64) i_eq (de_v 0) de_str (nomark _))
      (dss_one (ds_ret (a__is_inner.call G__is_inner (room.mono (by omega)) (by rfl) (da_cons (de_v 1) da_nil))))
      dss_nil)
      (dss_cons (ds_if (dt_cmp op_in_seq (i_in (neg := false)) (de_v 0) (de_tup (da_cons de_str (da_cons de_str (da_cons de_str (da_cons de_str (da_cons de_str da_nil)))))) (by rfl))
      (dss_one (ds_ret (a__fits_plainly.call G__fits_plainly (room.mono (by omega)) (by rfl) (da_cons (de_v 0) (da_cons (de_v 1) da_nil)))))
      dss_nil)
      (dss_one (ds_ret (a__fits_as_named.call G__fits_as_named (room.mono (by omega)) (by rfl) (da_cons (de_v 0) (da_cons (de_v 1) da_nil))))))))))

theorem ok_is_what {f : Addr} {fd : FuncData} (a : At K mg "is_what" s_is_what p_is_what f fd) {f__fit : Addr} {fd__fit : FuncData} (a__fit : At K mg "_fit" s__fit p__fit f__fit fd__fit) (G__fit : FnG P w K mg base CX0 11 f__fit fd__fit p__fit (toSp K sp__fit)) {f__begins_with_text : Addr} {fd__begins_with_text : FuncData} (a__begins_with_text : At K mg "_begins_with_text" s__begins_with_text p__begins_with_text f__begins_with_text fd__begins_with_text) (G__begins_with_text : FnG P w K mg base CX0 1 f__begins_with_text fd__begins_with_text p__begins_with_text (toSp K sp__begins_with_text)) {k_FORMS : Addr} (c_FORMS : CstD K w mg "FORMS" T_FORMS k_FORMS) : FnG P w K mg base CX0 12 f fd p_is_what (toSp K sp_is_what) := by
  have sc := sc_is_what
  refine a.fn.okD sc ar1 fun cdv A fr t H E room => ⟨b_is_what, ?_, rd_is_what⟩
  exact (dss_cons (ds_if (PW.pt (dw_or (dt_not (dt_val (a__begins_with_text.call G__begins_with_text (room.mono (by decide)) (by rfl) (da_cons (de_v 0) da_nil)))) (dw_or1 (dt_notInK c_FORMS (by rfl) (de_ix ix_all i_ix (de_v 0) de_int (fun _ _ => rfl))))))
      (dss_one (ds_ret de_bl))
      dss_nil)
      (dss_one (ds_ret (a__fit.call G__fit (room.mono (by decide)) (by rfl) (da_cons (de_ixK c_FORMS (by rfl) (de_ix ix_all i_ix (de_v 0) de_int (fun _ _ => rfl)) (fun _ _ => rfl)) (da_cons (de_sl (de_v 0) (do_some de_int) do_none) da_nil))))))

theorem ok_is_deed {f : Addr} {fd : FuncData} (a : At K mg "is_deed" s_is_deed p_is_deed f fd) {f_is_what : Addr} {fd_is_what : FuncData} (a_is_what : At K mg "is_what" s_is_what p_is_what f_is_what fd_is_what) (G_is_what : FnG P w K mg base CX0 12 f_is_what fd_is_what p_is_what (toSp K sp_is_what)) {f_is_version : Addr} {fd_is_version : FuncData} (a_is_version : At K mg "is_version" s_is_version p_is_version f_is_version fd_is_version) (G_is_version : FnG P w K mg base CX0 5 f_is_version fd_is_version p_is_version (toSp K sp_is_version)) {f_is_number : Addr} {fd_is_number : FuncData} (a_is_number : At K mg "is_number" s_is_number p_is_number f_is_number fd_is_number) (G_is_number : FnG P w K mg base CX0 2 f_is_number fd_is_number p_is_number (toSp K sp_is_number)) {f_is_word : Addr} {fd_is_word : FuncData} (a_is_word : At K mg "is_word" s_is_word p_is_word f_is_word fd_is_word) (G_is_word : FnG P w K mg base CX0 2 f_is_word fd_is_word p_is_word (toSp K sp_is_word)) (z_len : mg "len" = none) (z_isinstance : mg "isinstance" = none) (z_tuple : mg "tuple" = none) : FnG P w K mg base CX0 13 f fd p_is_deed (toSp K sp_is_deed) := by
  have sc := sc_is_deed
  refine a.fn.okD sc ar1 fun cdv A fr t H E room => ⟨b_is_deed, ?_, rd_is_deed⟩
  exact (dss_cons (ds_if (PW.pt (dw_or (dt_not (dt_val (de_callB call_isiA i_isi (by rfl) z_isinstance PyProof.Rows.boot_isinstance (da_cons (de_v 0) (da_cons (de_ty (by rfl) z_tuple (by decide +kernel)) da_nil))))) (dw_or1 (dt_cmp (op_neA room.u64) i_ne (de_callB call_len i_len (by rfl) z_len PySem.boot_len (da_cons (de_v 0) da_nil)) de_int (nomark _)))))
      (dss_one (ds_ret de_bl))
      dss_nil)
      (dss_cons (ds_asg5 (i := 1) (j := 2) (k := 3) (l := 4) (n := 5) rfl sc.nd rfl rfl rfl rfl rfl (by first | exact .inl rfl | exact .inr rfl) (by first | exact .inl rfl | exact .inr rfl) (by first | exact .inl rfl | exact .inr rfl) (by first | exact .inl rfl | exact .inr rfl) (by first | exact .inl rfl | exact .inr rfl) (de_v 0))
      (dss_one (ds_ret (de_and (a_is_word.call G_is_word (room.mono (by decide)) (by rfl) (da_cons (de_v 1) da_nil)) (de_and (a_is_number.call G_is_number (room.mono (by decide)) (by rfl) (da_cons (de_v 2) da_nil)) (de_and (a_is_number.call G_is_number (room.mono (by decide)) (by rfl) (da_cons (de_v 3) da_nil)) (de_and (a_is_version.call G_is_version (room.mono (by decide)) (by rfl) (da_cons (de_v 4) da_nil)) (de_one (a_is_what.call G_is_what (room.mono (by decide)) (by rfl) (da_cons (de_v 5) da_nil)))))))))))

theorem ok_key_of {f : Addr} {fd : FuncData} (a : At K mg "key_of" s_key_of p_key_of f fd)  : FnG P w K mg base CX0 1 f fd p_key_of (toSp K sp_key_of) := by
  have sc := sc_key_of
  refine a.fn.okD sc ar_key_of fun cdv A fr t H E room => ⟨b_key_of, ?_, rd_key_of⟩
  exact (dss_one (ds_ret (de_tup (da_cons (de_ix ix_all i_ix (de_v 0) de_int (fun _ _ => rfl)) (da_cons (de_ix ix_all i_ix (de_v 0) de_int (fun _ _ => rfl)) da_nil)))))

theorem ok_what_of {f : Addr} {fd : FuncData} (a : At K mg "what_of" s_what_of p_what_of f fd)  : FnG P w K mg base CX0 1 f fd p_what_of (toSp K sp_what_of) := by
  have sc := sc_what_of
  refine a.fn.okD sc ar_what_of fun cdv A fr t H E room => ⟨b_what_of, ?_, rd_what_of⟩
  exact (dss_one (ds_ret (de_ix ix_all i_ix (de_v 0) de_int (fun _ _ => rfl))))

theorem ok_doc_named {f : Addr} {fd : FuncData} (a : At K mg "doc_named" s_doc_named p_doc_named f fd)  : FnG P w K mg base CX0 1 f fd p_doc_named (toSp K sp_doc_named) := by
  have sc := sc_doc_named
  refine a.fn.okD sc ar_doc_named fun cdv A fr t H E room => ⟨b_doc_named, ?_, rd_doc_named⟩
  exact (dss_cons (ds_if (dt_cmp (op_eqA room.u64) i_eq (de_ix ix_all i_ix (de_v 0) de_int (fun _ _ => rfl)) de_str (nomark _))
      (dss_one (ds_ret (de_v 1)))
      dss_nil)
      (dss_one (ds_ret (de_ix ix_all i_ix (de_v 0) de_int (fun _ _ => rfl)))))

theorem ok_doc_of {f : Addr} {fd : FuncData} (a : At K mg "doc_of" s_doc_of p_doc_of f fd) {f_doc_named : Addr} {fd_doc_named : FuncData} (a_doc_named : At K mg "doc_named" s_doc_named p_doc_named f_doc_named fd_doc_named) (G_doc_named : FnG P w K mg base CX0 1 f_doc_named fd_doc_named p_doc_named (toSp K sp_doc_named)) {f_key_of : Addr} {fd_key_of : FuncData} (a_key_of : At K mg "key_of" s_key_of p_key_of f_key_of fd_key_of) (G_key_of : FnG P w K mg base CX0 1 f_key_of fd_key_of p_key_of (toSp K sp_key_of)) {f_what_of : Addr} {fd_what_of : FuncData} (a_what_of : At K mg "what_of" s_what_of p_what_of f_what_of fd_what_of) (G_what_of : FnG P w K mg base CX0 1 f_what_of fd_what_of p_what_of (toSp K sp_what_of)) : FnG P w K mg base CX0 2 f fd p_doc_of (toSp K sp_doc_of) := by
  have sc := sc_doc_of
  refine a.fn.okD sc ar_doc_of fun cdv A fr t H E room => ⟨b_doc_of, ?_, rd_doc_of⟩
  exact (dss_one (ds_ret (a_doc_named.call G_doc_named (room.mono (by decide)) (by rfl) (da_cons (a_what_of.call G_what_of (room.mono (by decide)) (by rfl) (da_cons (de_v 0) da_nil)) (da_cons (a_key_of.call G_key_of (room.mono (by decide)) (by rfl) (da_cons (de_v 0) da_nil)) da_nil)))))

theorem ok__law_feed {f : Addr} {fd : FuncData} (a : At K mg "_law_feed" s__law_feed p__law_feed f fd) (z_list : mg "list" = none) : FnG P w K mg base CX0 1 f fd p__law_feed (toSp K sp__law_feed) := by
  have sc := sc__law_feed
  refine a.fn.okD sc ar__law_feed fun cdv A fr t H E room => ⟨b__law_feed, ?_, rd__law_feed⟩
  exact (dss_one (ds_ret (de_feed (de_callTy call_list_of i_list (by rfl) z_list (by decide +kernel) (da_cons (de_sl (de_v 0) do_none (do_some de_int)) da_nil)))))

theorem ok__law_draw {f : Addr} {fd : FuncData} (a : At K mg "_law_draw" s__law_draw p__law_draw f fd) (z_len : mg "len" = none) : FnG P w K mg base CX0 1 f fd p__law_draw (toSp K sp__law_draw) := by
  have sc := sc__law_draw
  refine a.fn.okD sc ar__law_draw fun cdv A fr t H E room => ⟨b__law_draw, ?_, rd__law_draw⟩
  exact (dss_cons (ds_fput (.inr (.inr rfl)) room.u1 (de_v 0) (de_bin op_add2 i_add2 (de_fint (.inr (.inr rfl)) room.u1 (de_v 0)) de_int))
      (dss_cons (ds_if (dt_cmp op_gt i_gt (de_fint (.inr (.inl rfl)) room.u1 (de_v 0)) de_int (nomark _))
      (dss_cons (ds_set (i := 2) sc.nd rfl (by first | exact .inl rfl | exact .inr rfl) (de_bin op_mod i_mod (de_fint (.inr (.inl rfl)) room.u1 (de_v 0)) (de_v 1)))
      (dss_cons (ds_fput (.inr (.inl rfl)) room.u1 (de_v 0) (de_bin op_fdiv i_fdiv (de_fint (.inr (.inl rfl)) room.u1 (de_v 0)) (de_v 1)))
      (dss_one (ds_ret (de_v 2)))))
      dss_nil)
      (dss_cons (ds_set (i := 3) sc.nd rfl (by first | exact .inl rfl | exact .inr rfl) (de_fint (.inl rfl) room.u1 (de_v 0)))
      (dss_cons (ds_fput (.inl rfl) room.u1 (de_v 0) (de_bin op_add2 i_add2 (de_v 3) de_int))
      (dss_cons (ds_set (i := 4) sc.nd rfl (by first | exact .inl rfl | exact .inr rfl) (de_ifE (dt_cmp (op_neA room.u64) i_ne (de_fcells room.u1 (de_v 0)) (de_lst da_nil) (nomark _)) (de_ix ix_all i_ix (de_fcells room.u1 (de_v 0)) (de_bin op_mod i_mod (de_v 3) (de_callB call_len i_len (by rfl) z_len PySem.boot_len (da_cons (de_fcells room.u1 (de_v 0)) da_nil))) (fun _ _ => rfl)) de_int))
      (dss_cons (ds_if (PW.pt (dw_and (dt_cmp op_ge i_ge (de_v 4) (de_bin op_pow i_pow de_int de_int) (nomark _)) (dw_and1 (dt_cmp (op_ltA room.u65) i_lt (de_v 3) (de_callB call_len i_len (by rfl) z_len PySem.boot_len (da_cons (de_fcells room.u1 (de_v 0)) da_nil)) (nomark _)))))
      (dss_cons (ds_fput (.inr (.inl rfl)) room.u1 (de_v 0) (de_bin op_fdiv i_fdiv (de_v 4) (de_v 1)))
      (dss_one (ds_ret (de_bin op_mod i_mod (de_v 4) (de_v 1)))))
      dss_nil)
      (dss_cons (ds_set (i := 5) sc.nd rfl (by first | exact .inl rfl | exact .inr rfl) (de_bin op_mod i_mod (de_bin op_add2 i_add2 (de_bin op_add2 i_add2 (de_bin op_mod i_mod (de_v 4) de_int) (de_bin op_times i_mul de_int (de_fint (.inr (.inr rfl)) room.u1 (de_v 0)))) de_int) de_int))
      (dss_cons (ds_set (i := 5) sc.nd rfl (by first | exact .inl rfl | exact .inr rfl) (de_bin op_mod i_mod (de_bin op_add2 i_add2 (de_bin op_add2 i_add2 (de_bin op_times i_mul (de_v 5) (de_v 5)) (de_bin op_times i_mul de_int (de_fint (.inr (.inr rfl)) room.u1 (de_v 0)))) de_int) de_int))
      (dss_one (ds_ret (de_bin op_mod i_mod (de_bin op_fdiv i_fdiv (de_bin op_mod i_mod (de_bin op_add2 i_add2 (de_bin op_times i_mul (de_v 5) (de_v 5)) (de_bin op_times i_mul de_int (de_v 5))) de_int) de_int) (de_v 1))))))))))))

theorem ok__law_odd {f : Addr} {fd : FuncData} (a : At K mg "_law_odd" s__law_odd p__law_odd f fd) {f__law_draw : Addr} {fd__law_draw : FuncData} (a__law_draw : At K mg "_law_draw" s__law_draw p__law_draw f__law_draw fd__law_draw) (G__law_draw : FnG P w K mg base CX0 1 f__law_draw fd__law_draw p__law_draw (toSp K sp__law_draw)) : FnG P w K mg base CX0 2 f fd p__law_odd (toSp K sp__law_odd) := by
  have sc := sc__law_odd
  refine a.fn.okD sc ar__law_odd fun cdv A fr t H E room => ⟨b__law_odd, ?_, rd__law_odd⟩
  exact (dss_cons (ds_set (i := 1) sc.nd rfl (by first | exact .inl rfl | exact .inr rfl) (de_lstM (da_cons de_non (da_cons de_bl (da_cons de_bl (da_cons de_int (da_cons (de_neg de_int) (da_cons de_int (da_cons de_str (da_cons de_str da_nil))))))))))
      (dss_cons (ds_expr (de_mt PySem.F.plainAttrs_list PySem.F.slot_list_extend PySem.F.type_list_extend mt_extend ty_M i_extend (de_v 1) (da_cons (de_lst (da_cons (de_tup da_nil) (da_cons (de_lst da_nil) (da_cons (de_tup (da_cons de_str (da_cons de_int da_nil))) (da_cons (de_tup (da_cons (de_tup (da_cons de_str (da_cons de_int da_nil))) (da_cons de_int da_nil))) (da_cons de_str (da_cons (de_bin op_pow i_pow de_int de_int) (da_cons (de_tup (da_cons de_str (da_cons de_str da_nil))) da_nil)))))))) da_nil)))
      (dss_one (ds_retX (de_ix ix_all i_ix (de_v 1) (a__law_draw.call G__law_draw (room.mono (by decide)) (by rfl) (da_cons (de_v 0) (da_cons de_int da_nil))) (fun _ _ => rfl))))))

theorem step__law_bent {f__law_bent : Addr} {fd__law_bent : FuncData} (a__law_bent : At K mg "_law_bent" s__law_bent p__law_bent f__law_bent fd__law_bent) {f__law_odd : Addr} {fd__law_odd : FuncData} (a__law_odd : At K mg "_law_odd" s__law_odd p__law_odd f__law_odd fd__law_odd) (G__law_odd : FnG P w K mg base CX0 2 f__law_odd fd__law_odd p__law_odd (toSp K sp__law_odd)) {f__law_draw : Addr} {fd__law_draw : FuncData} (a__law_draw : At K mg "_law_draw" s__law_draw p__law_draw f__law_draw fd__law_draw) (G__law_draw : FnG P w K mg base CX0 1 f__law_draw fd__law_draw p__law_draw (toSp K sp__law_draw)) (z_isinstance : mg "isinstance" = none) (z_int : mg "int" = none) (z_str : mg "str" = none) (z_tuple : mg "tuple" = none) (z_list : mg "list" = none) (z_len : mg "len" = none) {k : Nat} (hk : 2 ≤ k) (sp sp' : DSp) (ar : ∀ ds m Q, sp' ds m Q → ds.length = 2) (rd : ∀ ds m Q, sp' ds m Q → b__law_bent sp { nx := fun _ m' => Q .non m', rt := Q } (startD 5 ds) m) (G__law_bent : FnG P w K mg base CX0 k f__law_bent fd__law_bent p__law_bent (toSp K sp)) : FnG P w K mg base CX0 (k + 1) f__law_bent fd__law_bent p__law_bent (toSp K sp') := by
  have sc := sc__law_bent
  refine a__law_bent.fn.okD sc ar fun cdv A fr t H E room => ⟨b__law_bent sp, ?_, rd⟩
  exact (dss_cons (ds_if (PW.pt (dw_and (dt_val (de_callB call_isiA i_isi (by rfl) z_isinstance PyProof.Rows.boot_isinstance (da_cons (de_v 1) (da_cons (de_ty (by rfl) z_tuple (by decide +kernel)) da_nil)))) (dw_and (dt_cmp (op_neA room.u64) i_ne (de_v 1) (de_tup da_nil) (nomark _)) (dw_and1 (dt_cmp op_gt i_gt (a__law_draw.call G__law_draw (room.mono (by omega)) (by rfl) (da_cons (de_v 0) (da_cons de_int da_nil))) de_int (nomark _))))))
      (dss_cons (ds_set (i := 2) sc.nd rfl (by first | exact .inl rfl | exact .inr rfl) (a__law_draw.call G__law_draw (room.mono (by omega)) (by rfl) (da_cons (de_v 0) (da_cons (de_callB call_len i_len (by rfl) z_len PySem.boot_len (da_cons (de_v 1) da_nil)) da_nil))))
      (dss_one (ds_retX (de_bin op_add2 i_add2 (de_bin op_add2 i_add2 (de_sl (de_v 1) do_none (do_some (de_v 2))) (de_tup (da_cons (a__law_bent.call G__law_bent (room.mono (by omega)) (by rfl) (da_cons (de_v 0) (da_cons (de_ix ix_all i_ix (de_v 1) (de_v 2) (fun _ _ => rfl)) da_nil))) da_nil))) (de_sl (de_v 1) (do_some (de_bin op_add2 i_add2 (de_v 2) de_int)) do_none)))))
      dss_nil)
      (dss_cons (ds_set (i := 3) sc.nd rfl (by first | exact .inl rfl | exact .inr rfl) (a__law_draw.call G__law_draw (room.mono (by omega)) (by rfl) (da_cons (de_v 0) (da_cons de_int da_nil))))
      (dss_cons (ds_if (PW.pt (dw_and (dt_val (de_callB call_isiA i_isi (by rfl) z_isinstance PyProof.Rows.boot_isinstance (da_cons (de_v 1) (da_cons (de_ty (by rfl) z_tuple (by decide +kernel)) da_nil)))) (dw_and1 (dt_cmp (op_ltA room.u65) i_lt (de_v 3) de_int (nomark _)))))
      (dss_cons (ds_set (i := 4) sc.nd rfl (by first | exact .inl rfl | exact .inr rfl) (de_lstM (da_cons (de_callTy call_list_of i_list (by rfl) z_list (by decide +kernel) (da_cons (de_v 1) da_nil)) (da_cons (de_sl (de_v 1) (do_some de_int) do_none) (da_cons (de_sl (de_v 1) do_none (do_some (de_neg de_int))) (da_cons (de_bin op_add2 i_add2 (de_v 1) (de_sl (de_v 1) (do_some (de_neg de_int)) do_none)) da_nil))))))
      (dss_cons (ds_expr (de_mt PySem.F.plainAttrs_list PySem.F.slot_list_extend PySem.F.type_list_extend mt_extend ty_M i_extend (de_v 4) (da_cons (de_lst (da_cons (de_rev (de_v 1)) (da_cons (de_tup (da_cons (de_v 1) da_nil)) (da_cons (de_bin op_add2 i_add2 (de_v 1) (de_tup (da_cons de_non da_nil))) da_nil)))) da_nil)))
      (dss_one (ds_retX (de_ix ix_all i_ix (de_v 4) (de_v 3) (fun _ _ => rfl))))))
      dss_nil)
      (dss_cons (ds_if (PW.pt (dw_and (dt_val (de_callB call_isiA i_isi (by rfl) z_isinstance PyProof.Rows.boot_isinstance (da_cons (de_v 1) (da_cons (de_ty (by rfl) z_str (by decide +kernel)) da_nil)))) (dw_and1 (dt_cmp (op_ltA room.u65) i_lt (de_v 3) de_int (nomark _)))))
      (dss_one (ds_retX (de_ix ix_all i_ix (de_lst (da_cons (de_bin op_add2 i_add2 (de_v 1) de_str) (da_cons (de_sl (de_v 1) do_none (do_some (de_neg de_int))) (da_cons (de_mt0 PySem.F.plainAttrs_str PySem.F.slot_str_upper PySem.F.type_str_upper mt_upper ty_S i_upper (de_v 1)) (da_cons (de_bin op_add2 i_add2 (de_v 1) de_str) (da_cons (de_lst (da_cons (de_v 1) da_nil)) (da_cons (de_bin op_add2 i_add2 (de_v 1) de_str) da_nil))))))) (de_v 3) (fun _ _ => rfl))))
      dss_nil)
      (dss_cons (ds_if (PW.pt (dw_and (dt_val (de_callB call_isiA i_isi (by rfl) z_isinstance PyProof.Rows.boot_isinstance (da_cons (de_v 1) (da_cons (de_ty (by rfl) z_int (by decide +kernel)) da_nil)))) (dw_and1 (dt_cmp (op_ltA room.u65) i_lt (de_v 3) de_int (nomark _)))))
      (dss_one (ds_retX (de_ix ix_all i_ix (de_lst (da_cons (de_bin op_add2 i_add2 (de_v 1) de_int) (da_cons (de_bin op_sub2 i_sub2 (de_v 1) de_int) (da_cons (de_cmp (op_eqA room.u64) i_eq (de_v 1) de_int (nomark _)) (da_cons (de_callTy call_strA i_str (by rfl) z_str (by decide +kernel) (da_cons (de_v 1) da_nil)) (da_cons (de_bin op_sub2 i_sub2 (de_neg de_int) (de_v 1)) (da_cons (de_lst (da_cons (de_v 1) da_nil)) da_nil))))))) (de_v 3) (fun _ _ => rfl))))
      dss_nil)
      (dss_one (ds_retX (a__law_odd.call G__law_odd (room.mono (by omega)) (by rfl) (da_cons (de_v 0) da_nil)))))))))

theorem none_bent {f : Addr} {fd : FuncData} {k : Nat} : FnG P w K mg base CX0 k f fd p__law_bent (toSp K fun _ _ _ => False) :=
  ⟨fun vs H Q E ⟨ds, m, Q', rs, r, h, c⟩ => h.elim, fun A fr t H args us vs Q E room e0 bind rel ⟨ds, m, Q', rs, r, h, c⟩ => h.elim⟩
theorem all_bent {f : Addr} {fd : FuncData} (a : At K mg "_law_bent" s__law_bent p__law_bent f fd) (step : ∀ (k : Nat) (sp sp' : DSp), 2 ≤ k → (∀ ds m Q, sp' ds m Q → ds.length = 2) → (∀ ds m Q, sp' ds m Q → b__law_bent sp { nx := fun _ m' => Q .non m', rt := Q } (startD 5 ds) m) → FnG P w K mg base CX0 k f fd p__law_bent (toSp K sp) → FnG P w K mg base CX0 (k + 1) f fd p__law_bent (toSp K sp')) :
    ∀ K' : Nat, K' ≤ 8 → FnG P w K mg base CX0 (K' + 3) f fd p__law_bent (toSp K (spBent K'))
  | 0, _ => step 2 _ _ (Nat.le_refl 2) (ar_bent 0) (rd_bentG _ 0 (by decide) fun K' e => by cases e) none_bent
  | K' + 1, h => step (K' + 3) _ _ (by omega) (ar_bent (K' + 1)) (rd_bentG _ (K' + 1) (by omega) fun K2 e => by cases e; exact fun ds m Q h => h) (all_bent a step K' (by omega))

theorem ok__law_whole {f : Addr} {fd : FuncData} (a : At K mg "_law_whole" s__law_whole p__law_whole f fd) (z_isinstance : mg "isinstance" = none) (z_bool : mg "bool" = none) (z_int : mg "int" = none) : FnG P w K mg base CX0 1 f fd p__law_whole (toSp K sp__law_whole) := by
  have sc := sc__law_whole
  refine a.fn.okD sc ar1 fun cdv A fr t H E room => ⟨b__law_whole, ?_, rd__law_whole⟩
  exact (dss_one (ds_ret (de_and (de_callB call_isiA i_isi (by rfl) z_isinstance PyProof.Rows.boot_isinstance (da_cons (de_v 0) (da_cons (de_ty (by rfl) z_int (by decide +kernel)) da_nil))) (de_one (de_not (de_callB call_isiA i_isi (by rfl) z_isinstance PyProof.Rows.boot_isinstance (da_cons (de_v 0) (da_cons (de_ty (by rfl) z_bool (by decide +kernel)) da_nil))))))))

theorem ok__law_counted {f : Addr} {fd : FuncData} (a : At K mg "_law_counted" s__law_counted p__law_counted f fd) {f__law_whole : Addr} {fd__law_whole : FuncData} (a__law_whole : At K mg "_law_whole" s__law_whole p__law_whole f__law_whole fd__law_whole) (G__law_whole : FnG P w K mg base CX0 1 f__law_whole fd__law_whole p__law_whole (toSp K sp__law_whole)) : FnG P w K mg base CX0 2 f fd p__law_counted (toSp K sp__law_counted) := by
  have sc := sc__law_counted
  refine a.fn.okD sc ar1 fun cdv A fr t H E room => ⟨b__law_counted, ?_, rd__law_counted⟩
  exact (dss_one (ds_ret (de_and (a__law_whole.call G__law_whole (room.mono (by decide)) (by rfl) (da_cons (de_v 0) da_nil)) (de_one (de_cmp op_ge i_ge (de_v 0) de_int (nomark _))))))

theorem ok__law_worded {f : Addr} {fd : FuncData} (a : At K mg "_law_worded" s__law_worded p__law_worded f fd) (z_ord : mg "ord" = none) (z_len : mg "len" = none) (z_isinstance : mg "isinstance" = none) (z_str : mg "str" = none) : FnG P w K mg base CX0 1 f fd p__law_worded (toSp K sp__law_worded) := by
  have sc := sc__law_worded
  refine a.fn.okD sc ar1 fun cdv A fr t H E room => ⟨b__law_worded, ?_, rd__law_worded⟩
  exact (dss_cons (ds_if (PW.pt (dw_or (dt_not (dt_val (de_callB call_isiA i_isi (by rfl) z_isinstance PyProof.Rows.boot_isinstance (da_cons (de_v 0) (da_cons (de_ty (by rfl) z_str (by decide +kernel)) da_nil))))) (dw_or (dt_cmp (op_eqA room.u64) i_eq (de_v 0) de_str (nomark _)) (dw_or1 (dt_cmp op_gt i_gt (de_callB call_len i_len (by rfl) z_len PySem.boot_len (da_cons (de_v 0) da_nil)) de_int (nomark _))))))
      (dss_one (ds_ret de_bl))
      dss_nil)
      (dss_one (ds_ret (de_cmp (op_eqA room.u64) i_eq (de_lc (own := [("_law_sign", 1)]) rfl sc.nd (di_seq (de_v 0)) (blkOk_by (own := [("_law_sign", 1)]) (N := n__law_worded) (sc := defScope s__law_worded) (by decide +kernel)) (fun _ _ _ _ _ => (dg_name (i := 1) sc.nd rfl (by first | exact .inl rfl | exact .inr rfl))) (fun _ _ _ _ _ => (dp_one (PW.pt (dw_or (dt_cmp (op_ltA room.u65) i_lt (de_callB call_ord i_ord (by rfl) z_ord (by decide +kernel) (da_cons (de_v 1) da_nil)) de_int (nomark _)) (dw_or1 (dt_cmp op_gt i_gt (de_callB call_ord i_ord (by rfl) z_ord (by decide +kernel) (da_cons (de_v 1) da_nil)) de_int (nomark _))))))) (fun _ _ _ _ _ => (de_v 1))) (de_lst da_nil) (nomark _)))))

theorem ok__law_texted {f : Addr} {fd : FuncData} (a : At K mg "_law_texted" s__law_texted p__law_texted f fd) (z_ord : mg "ord" = none) (z_len : mg "len" = none) (z_isinstance : mg "isinstance" = none) (z_str : mg "str" = none) : FnG P w K mg base CX0 1 f fd p__law_texted (toSp K sp__law_texted) := by
  have sc := sc__law_texted
  refine a.fn.okD sc ar__law_texted fun cdv A fr t H E room => ⟨b__law_texted, ?_, rd__law_texted⟩
  exact (dss_cons (ds_if (PW.pt (dw_or (dt_not (dt_val (de_callB call_isiA i_isi (by rfl) z_isinstance PyProof.Rows.boot_isinstance (da_cons (de_v 0) (da_cons (de_ty (by rfl) z_str (by decide +kernel)) da_nil))))) (dw_or (dt_cmp (op_eqA room.u64) i_eq (de_v 0) de_str (nomark _)) (dw_or1 (dt_cmp op_gt i_gt (de_callB call_len i_len (by rfl) z_len PySem.boot_len (da_cons (de_v 0) da_nil)) (de_v 1) (nomark _))))))
      (dss_one (ds_ret de_bl))
      dss_nil)
      (dss_one (ds_ret (de_cmp (op_eqA room.u64) i_eq (de_lc (own := [("_law_sign", 2)]) rfl sc.nd (di_seq (de_v 0)) (blkOk_by (own := [("_law_sign", 2)]) (N := n__law_texted) (sc := defScope s__law_texted) (by decide +kernel)) (fun _ _ _ _ _ => (dg_name (i := 2) sc.nd rfl (by first | exact .inl rfl | exact .inr rfl))) (fun _ _ _ _ _ => (dp_one (PW.pt (dw_or (dt_cmp (op_ltA room.u65) i_lt (de_callB call_ord i_ord (by rfl) z_ord (by decide +kernel) (da_cons (de_v 2) da_nil)) de_int (nomark _)) (dw_or (dt_cmp op_gt i_gt (de_callB call_ord i_ord (by rfl) z_ord (by decide +kernel) (da_cons (de_v 2) da_nil)) de_int (nomark _)) (dw_or1 (dt_cmp (op_eqA room.u64) i_eq (de_callB call_ord i_ord (by rfl) z_ord (by decide +kernel) (da_cons (de_v 2) da_nil)) de_int (nomark _)))))))) (fun _ _ _ _ _ => (de_v 2))) (de_lst da_nil) (nomark _)))))

theorem ok__law_keyed {f : Addr} {fd : FuncData} (a : At K mg "_law_keyed" s__law_keyed p__law_keyed f fd) {f__law_counted : Addr} {fd__law_counted : FuncData} (a__law_counted : At K mg "_law_counted" s__law_counted p__law_counted f__law_counted fd__law_counted) (G__law_counted : FnG P w K mg base CX0 2 f__law_counted fd__law_counted p__law_counted (toSp K sp__law_counted)) {f__law_worded : Addr} {fd__law_worded : FuncData} (a__law_worded : At K mg "_law_worded" s__law_worded p__law_worded f__law_worded fd__law_worded) (G__law_worded : FnG P w K mg base CX0 1 f__law_worded fd__law_worded p__law_worded (toSp K sp__law_worded)) (z_len : mg "len" = none) (z_isinstance : mg "isinstance" = none) (z_tuple : mg "tuple" = none) : FnG P w K mg base CX0 3 f fd p__law_keyed (toSp K sp__law_keyed) := by
  have sc := sc__law_keyed
  refine a.fn.okD sc ar1 fun cdv A fr t H E room => ⟨b__law_keyed, ?_, rd__law_keyed⟩
  exact (dss_one (ds_ret (de_and (de_callB call_isiA i_isi (by rfl) z_isinstance PyProof.Rows.boot_isinstance (da_cons (de_v 0) (da_cons (de_ty (by rfl) z_tuple (by decide +kernel)) da_nil))) (de_and (de_cmp (op_eqA room.u64) i_eq (de_callB call_len i_len (by rfl) z_len PySem.boot_len (da_cons (de_v 0) da_nil)) de_int (nomark _)) (de_and (a__law_worded.call G__law_worded (room.mono (by decide)) (by rfl) (da_cons (de_ix ix_all i_ix (de_v 0) de_int (fun _ _ => rfl)) da_nil)) (de_one (a__law_counted.call G__law_counted (room.mono (by decide)) (by rfl) (da_cons (de_ix ix_all i_ix (de_v 0) de_int (fun _ _ => rfl)) da_nil))))))))

theorem ok__law_named {f : Addr} {fd : FuncData} (a : At K mg "_law_named" s__law_named p__law_named f fd) {f__law_counted : Addr} {fd__law_counted : FuncData} (a__law_counted : At K mg "_law_counted" s__law_counted p__law_counted f__law_counted fd__law_counted) (G__law_counted : FnG P w K mg base CX0 2 f__law_counted fd__law_counted p__law_counted (toSp K sp__law_counted)) {f__law_keyed : Addr} {fd__law_keyed : FuncData} (a__law_keyed : At K mg "_law_keyed" s__law_keyed p__law_keyed f__law_keyed fd__law_keyed) (G__law_keyed : FnG P w K mg base CX0 3 f__law_keyed fd__law_keyed p__law_keyed (toSp K sp__law_keyed)) (z_len : mg "len" = none) (z_isinstance : mg "isinstance" = none) (z_tuple : mg "tuple" = none) : FnG P w K mg base CX0 4 f fd p__law_named (toSp K sp__law_named) := by
  have sc := sc__law_named
  refine a.fn.okD sc ar1 fun cdv A fr t H E room => ⟨b__law_named, ?_, rd__law_named⟩
  exact (dss_one (ds_ret (de_and (de_callB call_isiA i_isi (by rfl) z_isinstance PyProof.Rows.boot_isinstance (da_cons (de_v 0) (da_cons (de_ty (by rfl) z_tuple (by decide +kernel)) da_nil))) (de_and (de_cmp (op_eqA room.u64) i_eq (de_callB call_len i_len (by rfl) z_len PySem.boot_len (da_cons (de_v 0) da_nil)) de_int (nomark _)) (de_and (a__law_keyed.call G__law_keyed (room.mono (by decide)) (by rfl) (da_cons (de_ix ix_all i_ix (de_v 0) de_int (fun _ _ => rfl)) da_nil)) (de_one (a__law_counted.call G__law_counted (room.mono (by decide)) (by rfl) (da_cons (de_ix ix_all i_ix (de_v 0) de_int (fun _ _ => rfl)) da_nil))))))))

theorem ok__law_all_named {f : Addr} {fd : FuncData} (a : At K mg "_law_all_named" s__law_all_named p__law_all_named f fd) {f__law_named : Addr} {fd__law_named : FuncData} (a__law_named : At K mg "_law_named" s__law_named p__law_named f__law_named fd__law_named) (G__law_named : FnG P w K mg base CX0 4 f__law_named fd__law_named p__law_named (toSp K sp__law_named)) (z_range : mg "range" = none) (z_len : mg "len" = none) (z_isinstance : mg "isinstance" = none) (z_tuple : mg "tuple" = none) : FnG P w K mg base CX0 5 f fd p__law_all_named (toSp K sp__law_all_named) := by
  have sc := sc__law_all_named
  refine a.fn.okD sc ar1 fun cdv A fr t H E room => ⟨b__law_all_named, ?_, rd__law_all_named⟩
  exact (dss_cons (ds_if (PW.pt (dw_or (dt_not (dt_val (de_callB call_isiA i_isi (by rfl) z_isinstance PyProof.Rows.boot_isinstance (da_cons (de_v 0) (da_cons (de_ty (by rfl) z_tuple (by decide +kernel)) da_nil))))) (dw_or (dt_cmp (op_eqA room.u64) i_eq (de_v 0) (de_tup da_nil) (nomark _)) (dw_or1 (dt_cmp (op_neA room.u64) i_ne (de_lc (own := [("_law_one", 2)]) rfl sc.nd (di_seq (de_v 0)) (blkOk_by (own := [("_law_one", 2)]) (N := n__law_all_named) (sc := defScope s__law_all_named) (by decide +kernel)) (fun _ _ _ _ _ => (dg_name (i := 2) sc.nd rfl (by first | exact .inl rfl | exact .inr rfl))) (fun _ _ _ _ _ => (dp_one (dt_not (dt_val (a__law_named.call G__law_named (room.mono (by decide)) (by rfl) (da_cons (de_v 2) da_nil)))))) (fun _ _ _ _ _ => (de_v 2))) (de_lst da_nil) (nomark _))))))
      (dss_one (ds_ret de_bl))
      dss_nil)
      (dss_one (ds_ret (de_cmp (op_eqA room.u64) i_eq (de_lc (own := [("_law_k", 1)]) rfl sc.nd (di_rng2 (by rfl) z_range (da_cons de_int (da_cons (de_callB call_len i_len (by rfl) z_len PySem.boot_len (da_cons (de_v 0) da_nil)) da_nil))) (blkOk_by (own := [("_law_k", 1)]) (N := n__law_all_named) (sc := defScope s__law_all_named) (by decide +kernel)) (fun _ _ _ _ _ => (dg_name (i := 1) sc.nd rfl (by first | exact .inl rfl | exact .inr rfl))) (fun _ _ _ _ _ => (dp_one (dt_cmp (op_leA room.u65) i_le (de_ix ix_all i_ix (de_v 0) (de_v 1) (fun _ _ => rfl)) (de_ix ix_all i_ix (de_v 0) (de_bin op_sub2 i_sub2 (de_v 1) de_int) (fun _ _ => rfl)) (nomark _)))) (fun _ _ _ _ _ => (de_v 1))) (de_lst da_nil) (nomark _)))))

theorem ok__law_leveled {f : Addr} {fd : FuncData} (a : At K mg "_law_leveled" s__law_leveled p__law_leveled f fd) (z_isinstance : mg "isinstance" = none) (z_str : mg "str" = none) : FnG P w K mg base CX0 1 f fd p__law_leveled (toSp K sp__law_leveled) := by
  have sc := sc__law_leveled
  refine a.fn.okD sc ar1 fun cdv A fr t H E room => ⟨b__law_leveled, ?_, rd__law_leveled⟩
  exact (dss_one (ds_ret (de_and (de_callB call_isiA i_isi (by rfl) z_isinstance PyProof.Rows.boot_isinstance (da_cons (de_v 0) (da_cons (de_ty (by rfl) z_str (by decide +kernel)) da_nil))) (de_one (de_cmp op_in_seq (i_in (neg := false)) (de_v 0) (de_lst (da_cons de_str (da_cons de_str (da_cons de_str (da_cons de_str (da_cons de_str (da_cons de_str da_nil))))))) (by rfl))))))

theorem ok__law_versioned {f : Addr} {fd : FuncData} (a : At K mg "_law_versioned" s__law_versioned p__law_versioned f fd) {f__law_keyed : Addr} {fd__law_keyed : FuncData} (a__law_keyed : At K mg "_law_keyed" s__law_keyed p__law_keyed f__law_keyed fd__law_keyed) (G__law_keyed : FnG P w K mg base CX0 3 f__law_keyed fd__law_keyed p__law_keyed (toSp K sp__law_keyed)) (z_range : mg "range" = none) (z_len : mg "len" = none) (z_isinstance : mg "isinstance" = none) (z_tuple : mg "tuple" = none) : FnG P w K mg base CX0 4 f fd p__law_versioned (toSp K sp__law_versioned) := by
  have sc := sc__law_versioned
  refine a.fn.okD sc ar1 fun cdv A fr t H E room => ⟨b__law_versioned, ?_, rd__law_versioned⟩
  exact (dss_cons (ds_if (PW.pt (dw_or (dt_not (dt_val (de_callB call_isiA i_isi (by rfl) z_isinstance PyProof.Rows.boot_isinstance (da_cons (de_v 0) (da_cons (de_ty (by rfl) z_tuple (by decide +kernel)) da_nil))))) (dw_or1 (dt_cmp (op_neA room.u64) i_ne (de_lc (own := [("_law_one", 2)]) rfl sc.nd (di_seq (de_v 0)) (blkOk_by (own := [("_law_one", 2)]) (N := n__law_versioned) (sc := defScope s__law_versioned) (by decide +kernel)) (fun _ _ _ _ _ => (dg_name (i := 2) sc.nd rfl (by first | exact .inl rfl | exact .inr rfl))) (fun _ _ _ _ _ => (dp_one (PW.pt (dw_or (dt_not (dt_val (a__law_keyed.call G__law_keyed (room.mono (by decide)) (by rfl) (da_cons (de_v 2) da_nil)))) (dw_or1 (dt_cmp (op_eqA room.u64) i_eq (de_ix ix_all i_ix (de_v 2) de_int (fun _ _ => rfl)) de_int (nomark _))))))) (fun _ _ _ _ _ => (de_v 2))) (de_lst da_nil) (nomark _)))))
      (dss_one (ds_ret de_bl))
      dss_nil)
      (dss_one (ds_ret (de_cmp (op_eqA room.u64) i_eq (de_lc (own := [("_law_k", 1)]) rfl sc.nd (di_rng2 (by rfl) z_range (da_cons de_int (da_cons (de_callB call_len i_len (by rfl) z_len PySem.boot_len (da_cons (de_v 0) da_nil)) da_nil))) (blkOk_by (own := [("_law_k", 1)]) (N := n__law_versioned) (sc := defScope s__law_versioned) (by decide +kernel)) (fun _ _ _ _ _ => (dg_name (i := 1) sc.nd rfl (by first | exact .inl rfl | exact .inr rfl))) (fun _ _ _ _ _ => (dp_one (dt_cmp (op_leA room.u65) i_le (de_ix ix_all i_ix (de_ix ix_all i_ix (de_v 0) (de_v 1) (fun _ _ => rfl)) de_int (fun _ _ => rfl)) (de_ix ix_all i_ix (de_ix ix_all i_ix (de_v 0) (de_bin op_sub2 i_sub2 (de_v 1) de_int) (fun _ _ => rfl)) de_int (fun _ _ => rfl)) (nomark _)))) (fun _ _ _ _ _ => (de_v 1))) (de_lst da_nil) (nomark _)))))

theorem ok__law_inner {f : Addr} {fd : FuncData} (a : At K mg "_law_inner" s__law_inner p__law_inner f fd) {f__law_texted : Addr} {fd__law_texted : FuncData} (a__law_texted : At K mg "_law_texted" s__law_texted p__law_texted f__law_texted fd__law_texted) (G__law_texted : FnG P w K mg base CX0 1 f__law_texted fd__law_texted p__law_texted (toSp K sp__law_texted)) {f__law_named : Addr} {fd__law_named : FuncData} (a__law_named : At K mg "_law_named" s__law_named p__law_named f__law_named fd__law_named) (G__law_named : FnG P w K mg base CX0 4 f__law_named fd__law_named p__law_named (toSp K sp__law_named)) {f__law_all_named : Addr} {fd__law_all_named : FuncData} (a__law_all_named : At K mg "_law_all_named" s__law_all_named p__law_all_named f__law_all_named fd__law_all_named) (G__law_all_named : FnG P w K mg base CX0 5 f__law_all_named fd__law_all_named p__law_all_named (toSp K sp__law_all_named)) (z_len : mg "len" = none) (z_isinstance : mg "isinstance" = none) (z_str : mg "str" = none) (z_tuple : mg "tuple" = none) : FnG P w K mg base CX0 6 f fd p__law_inner (toSp K sp__law_inner) := by
  have sc := sc__law_inner
  refine a.fn.okD sc ar1 fun cdv A fr t H E room => ⟨b__law_inner, ?_, rd__law_inner⟩
  exact (dss_cons (ds_if (PW.pt (dw_or (dt_not (dt_val (de_callB call_isiA i_isi (by rfl) z_isinstance PyProof.Rows.boot_isinstance (da_cons (de_v 0) (da_cons (de_ty (by rfl) z_tuple (by decide +kernel)) da_nil))))) (dw_or (dt_cmp (op_eqA room.u64) i_eq (de_v 0) (de_tup da_nil) (nomark _)) (dw_or1 (dt_not (dt_val (de_callB call_isiA i_isi (by rfl) z_isinstance PyProof.Rows.boot_isinstance (da_cons (de_ix ix_all i_ix (de_v 0) de_int (fun _ _ => rfl)) (da_cons (de_ty (by rfl) z_str (by decide +kernel)) da_nil)))))))))
      (dss_one (ds_ret de_bl))
      dss_nil)
      (dss_cons (ds_if (dt_cmp (op_eqA room.u64) i_eq (de_ix ix_all i_ix (de_v 0) de_int (fun _ _ => rfl)) de_str (nomark _))
      (dss_one (ds_ret (de_and (de_cmp (op_eqA room.u64) i_eq (de_callB call_len i_len (by rfl) z_len PySem.boot_len (da_cons (de_v 0) da_nil)) de_int (nomark _)) (de_one (a__law_all_named.call G__law_all_named (room.mono (by decide)) (by rfl) (da_cons (de_ix ix_all i_ix (de_v 0) de_int (fun _ _ => rfl)) da_nil))))))
      dss_nil)
      (dss_cons (ds_if (PW.pt (dw_or (dt_cmp (op_neA room.u64) i_ne (de_ix ix_all i_ix (de_v 0) de_int (fun _ _ => rfl)) de_str (nomark _)) (dw_or1 (dt_cmp (op_neA room.u64) i_ne (de_callB call_len i_len (by rfl) z_len PySem.boot_len (da_cons (de_v 0) da_nil)) de_int (nomark _)))))
      (dss_one (ds_ret de_bl))
      dss_nil)
      (dss_one (ds_ret (de_and (de_or (de_cmp op_isN i_isN (de_ix ix_all i_ix (de_v 0) de_int (fun _ _ => rfl)) de_non (nomark _)) (de_one (a__law_named.call G__law_named (room.mono (by decide)) (by rfl) (da_cons (de_ix ix_all i_ix (de_v 0) de_int (fun _ _ => rfl)) da_nil)))) (de_one (a__law_texted.call G__law_texted (room.mono (by decide)) (by rfl) (da_cons (de_ix ix_all i_ix (de_v 0) de_int (fun _ _ => rfl)) (da_cons de_int da_nil))))))))))

theorem ok__law_part_is {f : Addr} {fd : FuncData} (a : At K mg "_law_part_is" s__law_part_is p__law_part_is f fd) {f__law_worded : Addr} {fd__law_worded : FuncData} (a__law_worded : At K mg "_law_worded" s__law_worded p__law_worded f__law_worded fd__law_worded) (G__law_worded : FnG P w K mg base CX0 1 f__law_worded fd__law_worded p__law_worded (toSp K sp__law_worded)) {f__law_leveled : Addr} {fd__law_leveled : FuncData} (a__law_leveled : At K mg "_law_leveled" s__law_leveled p__law_leveled f__law_leveled fd__law_leveled) (G__law_leveled : FnG P w K mg base CX0 1 f__law_leveled fd__law_leveled p__law_leveled (toSp K sp__law_leveled)) {f__law_inner : Addr} {fd__law_inner : FuncData} (a__law_inner : At K mg "_law_inner" s__law_inner p__law_inner f__law_inner fd__law_inner) (G__law_inner : FnG P w K mg base CX0 6 f__law_inner fd__law_inner p__law_inner (toSp K sp__law_inner)) {f__law_texted : Addr} {fd__law_texted : FuncData} (a__law_texted : At K mg "_law_texted" s__law_texted p__law_texted f__law_texted fd__law_texted) (G__law_texted : FnG P w K mg base CX0 1 f__law_texted fd__law_texted p__law_texted (toSp K sp__law_texted)) {f__law_whole : Addr} {fd__law_whole : FuncData} (a__law_whole : At K mg "_law_whole" s__law_whole p__law_whole f__law_whole fd__law_whole) (G__law_whole : FnG P w K mg base CX0 1 f__law_whole fd__law_whole p__law_whole (toSp K sp__law_whole)) {f__law_all_named : Addr} {fd__law_all_named : FuncData} (a__law_all_named : At K mg "_law_all_named" s__law_all_named p__law_all_named f__law_all_named fd__law_all_named) (G__law_all_named : FnG P w K mg base CX0 5 f__law_all_named fd__law_all_named p__law_all_named (toSp K sp__law_all_named)) {f__law_named : Addr} {fd__law_named : FuncData} (a__law_named : At K mg "_law_named" s__law_named p__law_named f__law_named fd__law_named) (G__law_named : FnG P w K mg base CX0 4 f__law_named fd__law_named p__law_named (toSp K sp__law_named)) {f__law_keyed : Addr} {fd__law_keyed : FuncData} (a__law_keyed : At K mg "_law_keyed" s__law_keyed p__law_keyed f__law_keyed fd__law_keyed) (G__law_keyed : FnG P w K mg base CX0 3 f__law_keyed fd__law_keyed p__law_keyed (toSp K sp__law_keyed)) (z_isinstance : mg "isinstance" = none) (z_str : mg "str" = none) (z_bool : mg "bool" = none) : FnG P w K mg base CX0 7 f fd p__law_part_is (toSp K sp__law_part_is) := by
  have sc := sc__law_part_is
  refine a.fn.okD sc ar_part fun cdv A fr t H E room => ⟨b__law_part_is, ?_, rd__law_part_is⟩
  exact (dss_cons (ds_if (PW.pt (dw_and (dt_cmp op_in_sign i_inS (de_v 0) de_str (by rfl)) (dw_and1 (dt_cmp op_isN i_isN (de_v 1) de_non (nomark _)))))
      (dss_one (ds_ret de_bl))
      dss_nil)
      (dss_cons (ds_if (dt_cmp op_in_sign i_inS (de_v 0) de_str (by rfl))
      (dss_one (ds_ret (a__law_keyed.call G__law_keyed (room.mono (by decide)) (by rfl) (da_cons (de_v 1) da_nil))))
      dss_nil)
      (dss_cons (ds_if (PW.pt (dw_and (dt_cmp op_in_sign i_inS (de_v 0) de_str (by rfl)) (dw_and1 (dt_val (a__law_keyed.call G__law_keyed (room.mono (by decide)) (by rfl) (da_cons (de_v 1) da_nil))))))
      (dss_one (ds_ret de_bl))
      dss_nil)
      (dss_cons (ds_if (dt_cmp op_in_sign i_inS (de_v 0) de_str (by rfl))
      (dss_one (ds_ret (a__law_named.call G__law_named (room.mono (by decide)) (by rfl) (da_cons (de_v 1) da_nil))))
      dss_nil)
      (dss_cons (ds_if (dt_cmp op_in_sign i_inS (de_v 0) de_str (by rfl))
      (dss_one (ds_ret (a__law_all_named.call G__law_all_named (room.mono (by decide)) (by rfl) (da_cons (de_v 1) da_nil))))
      dss_nil)
      (dss_cons (ds_if (dt_cmp op_in_sign i_inS (de_v 0) de_str (by rfl))
      (dss_one (ds_ret (a__law_texted.call G__law_texted (room.mono (by decide)) (by rfl) (da_cons (de_v 1) (da_cons (de_ifE (dt_cmp (op_eqA room.u64) i_eq (de_v 0) de_str (nomark _)) de_int de_int) da_nil)))))
      dss_nil)
      (dss_cons (ds_if (dt_cmp (op_eqA room.u64) i_eq (de_v 0) de_str (nomark _))
      (dss_one (ds_ret (de_or (a__law_whole.call G__law_whole (room.mono (by decide)) (by rfl) (da_cons (de_v 1) da_nil)) (de_one (a__law_texted.call G__law_texted (room.mono (by decide)) (by rfl) (da_cons (de_v 1) (da_cons de_int da_nil)))))))
      dss_nil)
      (dss_cons (ds_if (dt_cmp (op_eqA room.u64) i_eq (de_v 0) de_str (nomark _))
      (dss_one (ds_ret (de_callB call_isiA i_isi (by rfl) z_isinstance PyProof.Rows.boot_isinstance (da_cons (de_v 1) (da_cons (de_ty (by rfl) z_bool (by decide +kernel)) da_nil)))))
      dss_nil)
      (dss_cons (ds_if (dt_cmp (op_eqA room.u64) i_eq (de_v 0) de_str (nomark _))
      (dss_one (ds_ret (de_and (de_callB call_isiA i_isi (by rfl) z_isinstance PyProof.Rows.boot_isinstance (da_cons (de_v 1) (da_cons (de_ty (by rfl) z_str (by decide +kernel)) da_nil))) (de_one (de_cmp op_in_seq (i_in (neg := false)) (de_v 1) (de_lst (da_cons de_str (da_cons de_str (da_cons de_str da_nil)))) (by rfl))))))
      dss_nil)
      (dss_one (ds_ret (de_callF (fs := [("h", f__law_worded, sp__law_worded), ("l", f__law_leveled, sp__law_leveled), ("i", f__law_inner, sp__law_inner)]) (fok_cons (k := "h") ⟨_, _, _, G__law_worded, room.mono (by decide), a__law_worded.fn.kp, a__law_worded.bind⟩ (fok_cons (k := "l") ⟨_, _, _, G__law_leveled, room.mono (by decide), a__law_leveled.fn.kp, a__law_leveled.bind⟩ (fok_cons (k := "i") ⟨_, _, _, G__law_inner, room.mono (by decide), a__law_inner.fn.kp, a__law_inner.bind⟩ fok_nil))) (pps_cons pe_str (pe_glob (by rfl) a__law_worded.here (show RelV (.ref _) (.ref _) from rfl)) (pps_cons pe_str (pe_glob (by rfl) a__law_leveled.here (show RelV (.ref _) (.ref _) from rfl)) (pps_cons pe_str (pe_glob (by rfl) a__law_inner.here (show RelV (.ref _) (.ref _) from rfl)) pps_nil))) rfl rfl (by simp) (by decide) (show 3 ≤ 15 by decide) (show (["h", "l", "i"] : List Str).Nodup by decide +kernel) room.u1 (de_v 0) (fun _ _ => rfl) (da_cons (de_v 1) da_nil)))))))))))))

theorem ok__law_whatted {f : Addr} {fd : FuncData} (a : At K mg "_law_whatted" s__law_whatted p__law_whatted f fd) {f__law_part_is : Addr} {fd__law_part_is : FuncData} (a__law_part_is : At K mg "_law_part_is" s__law_part_is p__law_part_is f__law_part_is fd__law_part_is) (G__law_part_is : FnG P w K mg base CX0 7 f__law_part_is fd__law_part_is p__law_part_is (toSp K sp__law_part_is)) (z_range : mg "range" = none) (z_len : mg "len" = none) (z_isinstance : mg "isinstance" = none) (z_str : mg "str" = none) (z_tuple : mg "tuple" = none) : FnG P w K mg base CX0 8 f fd p__law_whatted (toSp K sp__law_whatted) := by
  have sc := sc__law_whatted
  refine a.fn.okD sc ar1 fun cdv A fr t H E room => ⟨b__law_whatted, ?_, rd__law_whatted⟩
  exact (dss_cons (ds_set (i := 1) sc.nd rfl (by first | exact .inl rfl | exact .inr rfl) (de_disp (ps := [("open", "t"), ("give", "khl"), ("put", "kns"), ("cut", "kN"), ("look", "kNhb"), ("row", "k")]) (pps_cons pe_str pe_str (pps_cons pe_str pe_str (pps_cons pe_str pe_str (pps_cons pe_str pe_str (pps_cons pe_str pe_str (pps_cons pe_str pe_str pps_nil)))))) rfl rfl (by simp) (by decide) (by decide) (by decide +kernel)))
      (dss_cons (ds_expr (de_mt PySem.F.plainAttrs_dict PySem.F.slot_dict_update PySem.F.type_dict_update mt_update ty_D i_update (de_v 1) (da_cons (de_disp (ps := [("set", "kkhv"), ("drop", "kk")]) (pps_cons pe_str pe_str (pps_cons pe_str pe_str pps_nil)) rfl rfl (by simp) (by decide) (by decide) (by decide +kernel)) da_nil)))
      (dss_cons (ds_expr (de_mt PySem.F.plainAttrs_dict PySem.F.slot_dict_update PySem.F.type_dict_update mt_update ty_D i_update (de_v 1) (da_cons (de_disp (ps := [("node", "kKh"), ("move", "kkK"), ("say", "kow"), ("close", "kk"), ("suggest", "ki"), ("take", "kk")]) (pps_cons pe_str pe_str (pps_cons pe_str pe_str (pps_cons pe_str pe_str (pps_cons pe_str pe_str (pps_cons pe_str pe_str (pps_cons pe_str pe_str pps_nil)))))) rfl rfl (by simp) (by decide) (by decide) (by decide +kernel)) da_nil)))
      (dss_cons (ds_expr (de_mt PySem.F.plainAttrs_dict PySem.F.slot_dict_update PySem.F.type_dict_update mt_update ty_D i_update (de_v 1) (da_cons (de_disp (ps := [("refuse", "kk"), ("mark", "ka"), ("undo", "kk"), ("redo", "kk")]) (pps_cons pe_str pe_str (pps_cons pe_str pe_str (pps_cons pe_str pe_str (pps_cons pe_str pe_str pps_nil)))) rfl rfl (by simp) (by decide) (by decide) (by decide +kernel)) da_nil)))
      (dss_cons (ds_if (PW.pt (dw_or (dt_not (dt_val (de_callB call_isiA i_isi (by rfl) z_isinstance PyProof.Rows.boot_isinstance (da_cons (de_v 0) (da_cons (de_ty (by rfl) z_tuple (by decide +kernel)) da_nil))))) (dw_or1 (dt_cmp (op_eqA room.u64) i_eq (de_v 0) (de_tup da_nil) (nomark _)))))
      (dss_one (ds_retX de_bl))
      dss_nil)
      (dss_cons (ds_if (PW.pt (dw_or (dt_not (dt_val (de_callB call_isiA i_isi (by rfl) z_isinstance PyProof.Rows.boot_isinstance (da_cons (de_ix ix_all i_ix (de_v 0) de_int (fun _ _ => rfl)) (da_cons (de_ty (by rfl) z_str (by decide +kernel)) da_nil))))) (dw_or1 (dt_notInD room.u1 (de_ix ix_all i_ix (de_v 0) de_int (fun _ _ => rfl)) (de_v 1) (by rfl)))))
      (dss_one (ds_retX de_bl))
      dss_nil)
      (dss_cons (ds_set (i := 2) sc.nd rfl (by first | exact .inl rfl | exact .inr rfl) (de_dget room.u1 (de_v 1) (de_ix ix_all i_ix (de_v 0) de_int (fun _ _ => rfl)) (fun _ _ => rfl)))
      (dss_cons (ds_if (dt_cmp (op_neA room.u64) i_ne (de_callB call_len i_len (by rfl) z_len PySem.boot_len (da_cons (de_v 0) da_nil)) (de_bin op_add2 i_add2 (de_callB call_len i_len (by rfl) z_len PySem.boot_len (da_cons (de_v 2) da_nil)) de_int) (nomark _))
      (dss_one (ds_retX de_bl))
      dss_nil)
      (dss_one (ds_retX (de_cmp (op_eqA room.u64) i_eq (de_lc (own := [("_law_k", 3)]) rfl sc.nd (di_rng1 (by rfl) z_range (da_cons (de_callB call_len i_len (by rfl) z_len PySem.boot_len (da_cons (de_v 2) da_nil)) da_nil)) (blkOk_by (own := [("_law_k", 3)]) (N := n__law_whatted) (sc := defScope s__law_whatted) (by decide +kernel)) (fun _ _ _ _ _ => (dg_name (i := 3) sc.nd rfl (by first | exact .inl rfl | exact .inr rfl))) (fun _ _ _ _ _ => (dp_one (dt_not (dt_val (a__law_part_is.call G__law_part_is (room.mono (by decide)) (by rfl) (da_cons (de_ix ix_all i_ix (de_v 2) (de_v 3) (fun _ _ => rfl)) (da_cons (de_ix ix_all i_ix (de_v 0) (de_bin op_add2 i_add2 (de_v 3) de_int) (fun _ _ => rfl)) da_nil))))))) (fun _ _ _ _ _ => (de_v 3))) (de_lst da_nil) (nomark _))))))))))))

theorem ok__law_deeded {f : Addr} {fd : FuncData} (a : At K mg "_law_deeded" s__law_deeded p__law_deeded f fd) {f__law_whatted : Addr} {fd__law_whatted : FuncData} (a__law_whatted : At K mg "_law_whatted" s__law_whatted p__law_whatted f__law_whatted fd__law_whatted) (G__law_whatted : FnG P w K mg base CX0 8 f__law_whatted fd__law_whatted p__law_whatted (toSp K sp__law_whatted)) {f__law_versioned : Addr} {fd__law_versioned : FuncData} (a__law_versioned : At K mg "_law_versioned" s__law_versioned p__law_versioned f__law_versioned fd__law_versioned) (G__law_versioned : FnG P w K mg base CX0 4 f__law_versioned fd__law_versioned p__law_versioned (toSp K sp__law_versioned)) {f__law_counted : Addr} {fd__law_counted : FuncData} (a__law_counted : At K mg "_law_counted" s__law_counted p__law_counted f__law_counted fd__law_counted) (G__law_counted : FnG P w K mg base CX0 2 f__law_counted fd__law_counted p__law_counted (toSp K sp__law_counted)) {f__law_worded : Addr} {fd__law_worded : FuncData} (a__law_worded : At K mg "_law_worded" s__law_worded p__law_worded f__law_worded fd__law_worded) (G__law_worded : FnG P w K mg base CX0 1 f__law_worded fd__law_worded p__law_worded (toSp K sp__law_worded)) (z_len : mg "len" = none) (z_isinstance : mg "isinstance" = none) (z_tuple : mg "tuple" = none) : FnG P w K mg base CX0 9 f fd p__law_deeded (toSp K sp__law_deeded) := by
  have sc := sc__law_deeded
  refine a.fn.okD sc ar1 fun cdv A fr t H E room => ⟨b__law_deeded, ?_, rd__law_deeded⟩
  exact (dss_cons (ds_if (PW.pt (dw_or (dt_not (dt_val (de_callB call_isiA i_isi (by rfl) z_isinstance PyProof.Rows.boot_isinstance (da_cons (de_v 0) (da_cons (de_ty (by rfl) z_tuple (by decide +kernel)) da_nil))))) (dw_or (dt_cmp (op_neA room.u64) i_ne (de_callB call_len i_len (by rfl) z_len PySem.boot_len (da_cons (de_v 0) da_nil)) de_int (nomark _)) (dw_or1 (dt_not (dt_val (a__law_worded.call G__law_worded (room.mono (by decide)) (by rfl) (da_cons (de_ix ix_all i_ix (de_v 0) de_int (fun _ _ => rfl)) da_nil))))))))
      (dss_one (ds_ret de_bl))
      dss_nil)
      (dss_cons (ds_if (PW.pt (dw_or (dt_not (dt_val (a__law_counted.call G__law_counted (room.mono (by decide)) (by rfl) (da_cons (de_ix ix_all i_ix (de_v 0) de_int (fun _ _ => rfl)) da_nil)))) (dw_or1 (dt_not (dt_val (a__law_counted.call G__law_counted (room.mono (by decide)) (by rfl) (da_cons (de_ix ix_all i_ix (de_v 0) de_int (fun _ _ => rfl)) da_nil)))))))
      (dss_one (ds_ret de_bl))
      dss_nil)
      (dss_one (ds_ret (de_and (a__law_versioned.call G__law_versioned (room.mono (by decide)) (by rfl) (da_cons (de_ix ix_all i_ix (de_v 0) de_int (fun _ _ => rfl)) da_nil)) (de_one (a__law_whatted.call G__law_whatted (room.mono (by decide)) (by rfl) (da_cons (de_ix ix_all i_ix (de_v 0) de_int (fun _ _ => rfl)) da_nil))))))))

theorem ok__law_fixed {f : Addr} {fd : FuncData} (a : At K mg "_law_fixed" s__law_fixed p__law_fixed f fd)  : FnG P w K mg base CX0 1 f fd p__law_fixed (toSp K sp__law_fixed) := by
  have sc := sc__law_fixed
  refine a.fn.okD sc ar_madeT fun cdv A fr t H E room => ⟨b__law_fixed, ?_, rd__law_fixed⟩
  exact (dss_cons (ds_asg3 (i := 0) (j := 1) (k := 2) rfl sc.nd rfl rfl rfl (by first | exact .inl rfl | exact .inr rfl) (by first | exact .inl rfl | exact .inr rfl) (by first | exact .inl rfl | exact .inr rfl) (de_tup (da_cons (de_tup (da_cons de_str (da_cons de_int da_nil))) (da_cons (de_tup (da_cons de_str (da_cons de_int da_nil))) (da_cons (de_tup (da_cons (de_tup (da_cons de_str (da_cons de_int da_nil))) (da_cons de_int da_nil))) da_nil)))))
      (dss_cons (ds_set (i := 3) sc.nd rfl (by first | exact .inl rfl | exact .inr rfl) (de_lstM (da_cons (de_tup (da_cons de_str (da_cons de_str da_nil))) (da_cons (de_tup (da_cons de_str (da_cons de_str da_nil))) (da_cons (de_tup (da_cons de_str (da_cons de_str da_nil))) da_nil)))))
      (dss_cons (ds_expr (de_mt PySem.F.plainAttrs_list PySem.F.slot_list_extend PySem.F.type_list_extend mt_extend ty_M i_extend (de_v 3) (da_cons (de_lst (da_cons (de_tup (da_cons de_str (da_cons de_str da_nil))) (da_cons (de_tup (da_cons de_str da_nil)) (da_cons (de_tup (da_cons de_str (da_cons (de_lst (da_cons de_str da_nil)) da_nil))) da_nil)))) da_nil)))
      (dss_cons (ds_expr (de_mt PySem.F.plainAttrs_list PySem.F.slot_list_extend PySem.F.type_list_extend mt_extend ty_M i_extend (de_v 3) (da_cons (de_lst (da_cons (de_tup (da_cons de_str (da_cons (de_v 0) (da_cons de_str (da_cons de_str da_nil))))) (da_cons (de_tup (da_cons de_str (da_cons (de_v 0) (da_cons de_str (da_cons de_str da_nil))))) da_nil))) da_nil)))
      (dss_cons (ds_expr (de_mt PySem.F.plainAttrs_list PySem.F.slot_list_extend PySem.F.type_list_extend mt_extend ty_M i_extend (de_v 3) (da_cons (de_lst (da_cons (de_tup (da_cons de_str (da_cons (de_v 0) (da_cons de_str (da_cons de_str da_nil))))) (da_cons (de_tup (da_cons de_str (da_cons de_non (da_cons de_str (da_cons de_str da_nil))))) da_nil))) da_nil)))
      (dss_cons (ds_expr (de_mt PySem.F.plainAttrs_list PySem.F.slot_list_extend PySem.F.type_list_extend mt_extend ty_M i_extend (de_v 3) (da_cons (de_lst (da_cons (de_tup (da_cons de_str (da_cons (de_v 0) (da_cons de_non (da_cons de_str da_nil))))) (da_cons (de_tup (da_cons de_str (da_cons (de_v 0) (da_cons (de_v 2) (da_cons (de_bin op_repS i_repS de_str de_int) da_nil))))) da_nil))) da_nil)))
      (dss_cons (ds_expr (de_mt PySem.F.plainAttrs_list PySem.F.slot_list_extend PySem.F.type_list_extend mt_extend ty_M i_extend (de_v 3) (da_cons (de_lst (da_cons (de_tup (da_cons de_str (da_cons (de_v 0) (da_cons (de_v 2) (da_cons (de_bin op_repS i_repS de_str de_int) da_nil))))) (da_cons (de_tup (da_cons de_str (da_cons (de_v 0) (da_cons (de_v 1) (da_cons de_str da_nil))))) da_nil))) da_nil)))
      (dss_cons (ds_expr (de_mt PySem.F.plainAttrs_list PySem.F.slot_list_extend PySem.F.type_list_extend mt_extend ty_M i_extend (de_v 3) (da_cons (de_lst (da_cons (de_tup (da_cons de_str (da_cons (de_v 0) (da_cons de_non (da_cons de_str da_nil))))) (da_cons (de_tup (da_cons de_str (da_cons (de_v 0) (da_cons de_non (da_cons de_int da_nil))))) (da_cons (de_tup (da_cons de_str (da_cons (de_v 0) (da_cons (de_tup (da_cons (de_v 2) da_nil)) da_nil)))) da_nil)))) da_nil)))
      (dss_cons (ds_expr (de_mt PySem.F.plainAttrs_list PySem.F.slot_list_extend PySem.F.type_list_extend mt_extend ty_M i_extend (de_v 3) (da_cons (de_lst (da_cons (de_tup (da_cons de_str (da_cons (de_v 0) (da_cons (de_tup da_nil) da_nil)))) (da_cons (de_tup (da_cons de_str (da_cons (de_v 0) (da_cons (de_v 2) da_nil)))) da_nil))) da_nil)))
      (dss_cons (ds_expr (de_mt PySem.F.plainAttrs_list PySem.F.slot_list_extend PySem.F.type_list_extend mt_extend ty_M i_extend (de_v 3) (da_cons (de_lst (da_cons (de_tup (da_cons de_str (da_cons (de_v 0) (da_cons (de_lst (da_cons (de_v 2) da_nil)) da_nil)))) (da_cons (de_tup (da_cons de_str (da_cons (de_v 0) (da_cons (de_tup (da_cons (de_v 2) (da_cons (de_v 2) da_nil))) da_nil)))) (da_cons (de_tup (da_cons de_str (da_cons (de_v 0) (da_cons (de_tup (da_cons (de_v 2) da_nil)) (da_cons de_str (da_cons de_bl da_nil)))))) da_nil)))) da_nil)))
      (dss_cons (ds_expr (de_mt PySem.F.plainAttrs_list PySem.F.slot_list_extend PySem.F.type_list_extend mt_extend ty_M i_extend (de_v 3) (da_cons (de_lst (da_cons (de_tup (da_cons de_str (da_cons (de_v 0) (da_cons (de_tup (da_cons (de_v 2) da_nil)) (da_cons de_str (da_cons de_int da_nil)))))) (da_cons (de_tup (da_cons de_str (da_cons (de_v 0) (da_cons (de_tup (da_cons (de_v 2) da_nil)) (da_cons de_str (da_cons de_bl da_nil)))))) da_nil))) da_nil)))
      (dss_cons (ds_expr (de_mt PySem.F.plainAttrs_list PySem.F.slot_list_extend PySem.F.type_list_extend mt_extend ty_M i_extend (de_v 3) (da_cons (de_lst (da_cons (de_tup (da_cons de_str (da_cons (de_v 0) (da_cons (de_tup (da_cons (de_v 2) da_nil)) (da_cons de_str da_nil))))) da_nil)) da_nil)))
      (dss_one (ds_ret (de_v 3)))))))))))))))

theorem ok__law_others {f : Addr} {fd : FuncData} (a : At K mg "_law_others" s__law_others p__law_others f fd)  : FnG P w K mg base CX0 1 f fd p__law_others (toSp K sp__law_others) := by
  have sc := sc__law_others
  refine a.fn.okD sc ar_made fun cdv A fr t H E room => ⟨b__law_others, ?_, rd__law_others⟩
  exact (dss_cons (ds_asg3 (i := 0) (j := 1) (k := 2) rfl sc.nd rfl rfl rfl (by first | exact .inl rfl | exact .inr rfl) (by first | exact .inl rfl | exact .inr rfl) (by first | exact .inl rfl | exact .inr rfl) (de_tup (da_cons (de_tup (da_cons de_str (da_cons de_int da_nil))) (da_cons (de_tup (da_cons de_str (da_cons de_int da_nil))) (da_cons (de_tup (da_cons (de_tup (da_cons de_str (da_cons de_int da_nil))) (da_cons de_int da_nil))) da_nil)))))
      (dss_cons (ds_set (i := 3) sc.nd rfl (by first | exact .inl rfl | exact .inr rfl) (de_lstM da_nil))
      (dss_cons (ds_expr (de_mt PySem.F.plainAttrs_list PySem.F.slot_list_extend PySem.F.type_list_extend mt_extend ty_M i_extend (de_v 3) (da_cons (de_lst (da_cons (de_tup (da_cons de_str (da_cons (de_v 0) da_nil))) (da_cons (de_tup (da_cons de_str (da_cons (de_v 0) (da_cons de_non da_nil)))) (da_cons (de_tup (da_cons de_str (da_cons (de_v 2) da_nil))) da_nil)))) da_nil)))
      (dss_cons (ds_expr (de_mt PySem.F.plainAttrs_list PySem.F.slot_list_extend PySem.F.type_list_extend mt_extend ty_M i_extend (de_v 3) (da_cons (de_lst (da_cons (de_tup (da_cons de_str (da_cons (de_v 0) (da_cons (de_v 1) (da_cons de_str (da_cons (de_neg de_int) da_nil)))))) (da_cons (de_tup (da_cons de_str (da_cons (de_v 0) (da_cons (de_v 1) (da_cons de_str (da_cons de_str da_nil)))))) da_nil))) da_nil)))
      (dss_cons (ds_expr (de_mt PySem.F.plainAttrs_list PySem.F.slot_list_extend PySem.F.type_list_extend mt_extend ty_M i_extend (de_v 3) (da_cons (de_lst (da_cons (de_tup (da_cons de_str (da_cons (de_v 0) (da_cons (de_v 1) (da_cons de_str (da_cons de_bl da_nil)))))) (da_cons (de_tup (da_cons de_str (da_cons (de_v 0) (da_cons (de_v 1) (da_cons de_str (da_cons de_non da_nil)))))) da_nil))) da_nil)))
      (dss_cons (ds_expr (de_mt PySem.F.plainAttrs_list PySem.F.slot_list_extend PySem.F.type_list_extend mt_extend ty_M i_extend (de_v 3) (da_cons (de_lst (da_cons (de_tup (da_cons de_str (da_cons (de_v 0) (da_cons de_non (da_cons de_str (da_cons de_int da_nil)))))) da_nil)) da_nil)))
      (dss_cons (ds_expr (de_mt PySem.F.plainAttrs_list PySem.F.slot_list_extend PySem.F.type_list_extend mt_extend ty_M i_extend (de_v 3) (da_cons (de_lst (da_cons (de_tup (da_cons de_str (da_cons (de_v 0) (da_cons (de_v 1) (da_cons de_str (da_cons de_int da_nil)))))) (da_cons (de_tup (da_cons de_str (da_cons (de_v 0) (da_cons (de_v 1) da_nil)))) da_nil))) da_nil)))
      (dss_cons (ds_expr (de_mt PySem.F.plainAttrs_list PySem.F.slot_list_extend PySem.F.type_list_extend mt_extend ty_M i_extend (de_v 3) (da_cons (de_lst (da_cons (de_tup (da_cons de_str (da_cons (de_v 0) (da_cons (de_v 2) da_nil)))) (da_cons (de_tup (da_cons de_str (da_cons (de_v 0) (da_cons de_non (da_cons de_str da_nil))))) da_nil))) da_nil)))
      (dss_cons (ds_expr (de_mt PySem.F.plainAttrs_list PySem.F.slot_list_extend PySem.F.type_list_extend mt_extend ty_M i_extend (de_v 3) (da_cons (de_lst (da_cons (de_tup (da_cons de_str (da_cons (de_v 0) (da_cons (de_v 1) (da_cons de_str da_nil))))) (da_cons (de_tup (da_cons de_str (da_cons (de_v 0) (da_cons (de_v 2) (da_cons de_str da_nil))))) da_nil))) da_nil)))
      (dss_cons (ds_expr (de_mt PySem.F.plainAttrs_list PySem.F.slot_list_extend PySem.F.type_list_extend mt_extend ty_M i_extend (de_v 3) (da_cons (de_lst (da_cons (de_tup (da_cons de_str (da_cons (de_v 0) (da_cons de_non (da_cons de_str da_nil))))) (da_cons (de_tup (da_cons de_str (da_cons (de_v 0) (da_cons (de_v 1) (da_cons de_non da_nil))))) da_nil))) da_nil)))
      (dss_cons (ds_expr (de_mt PySem.F.plainAttrs_list PySem.F.slot_list_extend PySem.F.type_list_extend mt_extend ty_M i_extend (de_v 3) (da_cons (de_lst (da_cons (de_tup (da_cons de_str (da_cons (de_v 0) (da_cons (de_v 1) (da_cons (de_v 1) da_nil))))) (da_cons (de_tup (da_cons de_str (da_cons (de_v 0) (da_cons de_non (da_cons (de_v 1) da_nil))))) da_nil))) da_nil)))
      (dss_cons (ds_expr (de_mt PySem.F.plainAttrs_list PySem.F.slot_list_extend PySem.F.type_list_extend mt_extend ty_M i_extend (de_v 3) (da_cons (de_lst (da_cons (de_tup (da_cons de_str (da_cons (de_v 0) (da_cons (de_tup (da_cons (de_v 2) da_nil)) (da_cons de_str da_nil))))) (da_cons (de_tup (da_cons de_str (da_cons (de_v 0) (da_cons (de_v 1) (da_cons (de_bin op_repS i_repS de_str de_int) da_nil))))) da_nil))) da_nil)))
      (dss_cons (ds_expr (de_mt PySem.F.plainAttrs_list PySem.F.slot_list_extend PySem.F.type_list_extend mt_extend ty_M i_extend (de_v 3) (da_cons (de_lst (da_cons (de_tup (da_cons de_str (da_cons (de_v 0) (da_cons (de_v 1) (da_cons (de_bin op_repS i_repS de_str de_int) da_nil))))) (da_cons (de_tup (da_cons de_str (da_cons (de_v 0) (da_cons (de_v 1) (da_cons de_str da_nil))))) da_nil))) da_nil)))
      (dss_cons (ds_expr (de_mt PySem.F.plainAttrs_list PySem.F.slot_list_extend PySem.F.type_list_extend mt_extend ty_M i_extend (de_v 3) (da_cons (de_lst (da_cons (de_tup (da_cons de_str (da_cons (de_v 0) (da_cons de_non (da_cons de_str da_nil))))) (da_cons (de_tup (da_cons de_str (da_cons (de_v 0) (da_cons (de_v 2) (da_cons de_str da_nil))))) da_nil))) da_nil)))
      (dss_cons (ds_expr (de_mt PySem.F.plainAttrs_list PySem.F.slot_list_extend PySem.F.type_list_extend mt_extend ty_M i_extend (de_v 3) (da_cons (de_lst (da_cons (de_tup (da_cons de_str (da_cons (de_v 0) (da_cons (de_v 1) da_nil)))) (da_cons (de_tup (da_cons de_str (da_cons (de_v 0) (da_cons de_non da_nil)))) da_nil))) da_nil)))
      (dss_cons (ds_expr (de_mt PySem.F.plainAttrs_list PySem.F.slot_list_extend PySem.F.type_list_extend mt_extend ty_M i_extend (de_v 3) (da_cons (de_lst (da_cons (de_tup (da_cons de_str (da_cons (de_v 0) (da_cons (de_tup (da_cons de_str (da_cons de_non (da_cons de_str da_nil)))) da_nil)))) (da_cons (de_tup (da_cons de_str (da_cons (de_v 0) (da_cons (de_tup (da_cons de_str (da_cons (de_tup (da_cons (de_v 2) da_nil)) da_nil))) da_nil)))) da_nil))) da_nil)))
      (dss_cons (ds_expr (de_mt PySem.F.plainAttrs_list PySem.F.slot_list_extend PySem.F.type_list_extend mt_extend ty_M i_extend (de_v 3) (da_cons (de_lst (da_cons (de_tup (da_cons de_str (da_cons (de_v 0) (da_cons (de_tup (da_cons de_str (da_cons (de_v 0) (da_cons de_non (da_cons de_str da_nil))))) da_nil)))) (da_cons (de_tup (da_cons de_str (da_cons (de_v 0) (da_cons (de_tup (da_cons de_str (da_cons (de_tup (da_cons (de_v 2) da_nil)) da_nil))) da_nil)))) da_nil))) da_nil)))
      (dss_cons (ds_expr (de_mt PySem.F.plainAttrs_list PySem.F.slot_list_extend PySem.F.type_list_extend mt_extend ty_M i_extend (de_v 3) (da_cons (de_lst (da_cons (de_tup (da_cons de_str (da_cons (de_v 0) (da_cons de_non da_nil)))) da_nil)) da_nil)))
      (dss_cons (ds_expr (de_mt PySem.F.plainAttrs_list PySem.F.slot_list_extend PySem.F.type_list_extend mt_extend ty_M i_extend (de_v 3) (da_cons (de_lst (da_cons (de_tup (da_cons de_str (da_cons (de_v 0) (da_cons (de_tup (da_cons de_str (da_cons (de_tup da_nil) da_nil))) da_nil)))) (da_cons (de_tup (da_cons de_str (da_cons (de_v 0) (da_cons (de_tup (da_cons de_str (da_cons (de_v 2) (da_cons (de_bin op_repS i_repS de_str de_int) da_nil)))) da_nil)))) da_nil))) da_nil)))
      (dss_cons (ds_expr (de_mt PySem.F.plainAttrs_list PySem.F.slot_list_extend PySem.F.type_list_extend mt_extend ty_M i_extend (de_v 3) (da_cons (de_lst (da_cons (de_tup (da_cons de_str (da_cons (de_v 0) (da_cons (de_v 1) da_nil)))) (da_cons (de_tup (da_cons de_str (da_cons (de_v 0) (da_cons (de_v 1) da_nil)))) da_nil))) da_nil)))
      (dss_cons (ds_expr (de_mt PySem.F.plainAttrs_list PySem.F.slot_list_extend PySem.F.type_list_extend mt_extend ty_M i_extend (de_v 3) (da_cons (de_lst (da_cons (de_tup (da_cons de_str (da_cons (de_v 0) (da_cons (de_v 2) da_nil)))) (da_cons (de_tup (da_cons de_str (da_cons (de_v 0) (da_cons de_non da_nil)))) (da_cons (de_tup (da_cons de_str (da_cons (de_v 0) (da_cons (de_v 1) da_nil)))) da_nil)))) da_nil)))
      (dss_cons (ds_expr (de_mt PySem.F.plainAttrs_list PySem.F.slot_list_extend PySem.F.type_list_extend mt_extend ty_M i_extend (de_v 3) (da_cons (de_lst (da_cons (de_tup (da_cons de_str (da_cons (de_v 0) (da_cons (de_v 2) da_nil)))) (da_cons (de_tup (da_cons de_str (da_cons (de_v 0) (da_cons (de_tup (da_cons (de_v 2) da_nil)) da_nil)))) da_nil))) da_nil)))
      (dss_cons (ds_expr (de_mt PySem.F.plainAttrs_list PySem.F.slot_list_extend PySem.F.type_list_extend mt_extend ty_M i_extend (de_v 3) (da_cons (de_lst (da_cons (de_tup (da_cons de_str (da_cons (de_v 0) (da_cons (de_v 1) da_nil)))) (da_cons (de_tup (da_cons de_str (da_cons (de_v 0) (da_cons (de_v 1) da_nil)))) (da_cons (de_tup (da_cons de_str (da_cons (de_v 0) (da_cons de_non da_nil)))) da_nil)))) da_nil)))
      (dss_cons (ds_expr (de_mt PySem.F.plainAttrs_list PySem.F.slot_list_extend PySem.F.type_list_extend mt_extend ty_M i_extend (de_v 3) (da_cons (de_lst (da_cons (de_tup (da_cons de_str (da_cons (de_v 0) da_nil))) (da_cons (de_tup (da_cons de_str (da_cons (de_v 0) (da_cons (de_v 1) da_nil)))) (da_cons (de_tup (da_cons de_str (da_cons (de_v 0) (da_cons (de_v 1) da_nil)))) da_nil)))) da_nil)))
      (dss_cons (ds_set (i := 4) sc.nd rfl (by first | exact .inl rfl | exact .inr rfl) (de_tup (da_cons de_str (da_cons (de_v 0) da_nil))))
      (dss_cons (ds_expr (de_mt PySem.F.plainAttrs_list PySem.F.slot_list_extend PySem.F.type_list_extend mt_extend ty_M i_extend (de_v 3) (da_cons (de_lst (da_cons (de_tup (da_cons de_str (da_cons de_int (da_cons de_int (da_cons (de_tup da_nil) (da_cons (de_v 4) da_nil)))))) (da_cons (de_tup (da_cons de_str (da_cons de_int (da_cons de_int (da_cons (de_tup (da_cons (de_tup (da_cons de_str (da_cons de_int da_nil))) da_nil)) (da_cons (de_v 4) da_nil)))))) da_nil))) da_nil)))
      (dss_cons (ds_expr (de_mt PySem.F.plainAttrs_list PySem.F.slot_list_extend PySem.F.type_list_extend mt_extend ty_M i_extend (de_v 3) (da_cons (de_lst (da_cons (de_tup (da_cons de_str (da_cons de_int (da_cons de_int (da_cons (de_tup (da_cons (de_tup (da_cons de_str (da_cons de_int da_nil))) da_nil)) (da_cons (de_v 4) da_nil)))))) (da_cons (de_tup (da_cons de_str (da_cons de_int (da_cons de_int (da_cons (de_tup da_nil) (da_cons (de_v 4) da_nil)))))) da_nil))) da_nil)))
      (dss_cons (ds_expr (de_mt PySem.F.plainAttrs_list PySem.F.slot_list_extend PySem.F.type_list_extend mt_extend ty_M i_extend (de_v 3) (da_cons (de_lst (da_cons (de_tup (da_cons de_str (da_cons (de_neg de_int) (da_cons de_int (da_cons (de_tup da_nil) (da_cons (de_v 4) da_nil)))))) (da_cons (de_tup (da_cons de_str (da_cons de_int (da_cons de_bl (da_cons (de_tup da_nil) (da_cons (de_v 4) da_nil)))))) da_nil))) da_nil)))
      (dss_cons (ds_expr (de_mt PySem.F.plainAttrs_list PySem.F.slot_list_extend PySem.F.type_list_extend mt_extend ty_M i_extend (de_v 3) (da_cons (de_lst (da_cons (de_tup (da_cons de_str (da_cons de_int (da_cons de_int (da_cons (de_lst da_nil) (da_cons (de_v 4) da_nil)))))) (da_cons (de_tup (da_cons de_str (da_cons de_int (da_cons de_int (da_cons (de_tup da_nil) (da_cons de_non da_nil)))))) da_nil))) da_nil)))
      (dss_cons (ds_expr (de_mt PySem.F.plainAttrs_list PySem.F.slot_list_extend PySem.F.type_list_extend mt_extend ty_M i_extend (de_v 3) (da_cons (de_lst (da_cons (de_tup (da_cons de_str (da_cons de_int (da_cons de_int (da_cons (de_tup da_nil) da_nil))))) (da_cons (de_lst (da_cons de_str (da_cons de_int (da_cons de_int (da_cons (de_tup da_nil) (da_cons (de_v 4) da_nil)))))) (da_cons (de_tup (da_cons de_str (da_cons de_int (da_cons de_int (da_cons (de_tup da_nil) (da_cons (de_v 4) (da_cons de_int da_nil))))))) da_nil)))) da_nil)))
      (dss_cons (ds_expr (de_mt PySem.F.plainAttrs_list PySem.F.slot_list_extend PySem.F.type_list_extend mt_extend ty_M i_extend (de_v 3) (da_cons (de_lst (da_cons (de_tup (da_cons (de_v 0) (da_cons de_int (da_cons (de_tup da_nil) (da_cons (de_v 4) da_nil))))) (da_cons (de_tup (da_cons (de_v 4) da_nil)) da_nil))) da_nil)))
      (dss_cons (ds_expr (de_mt PySem.F.plainAttrs_list PySem.F.slot_list_extend PySem.F.type_list_extend mt_extend ty_M i_extend (de_v 3) (da_cons (de_lst (da_cons de_non (da_cons (de_tup da_nil) (da_cons de_int da_nil)))) da_nil)))
      (dss_cons (ds_expr (de_mt PySem.F.plainAttrs_list PySem.F.slot_list_extend PySem.F.type_list_extend mt_extend ty_M i_extend (de_v 3) (da_cons (de_lst (da_cons de_str (da_cons (de_lst da_nil) da_nil))) da_nil)))
      (dss_one (ds_ret (de_bin op_cat i_addLM (de_v 3) (de_lst (da_cons de_str (da_cons (de_tup (da_cons de_str (da_cons (de_bin op_pow i_pow de_int de_int) (da_cons (de_bin op_pow i_pow de_int de_int) (da_cons (de_tup (da_cons (de_tup (da_cons de_str (da_cons (de_bin op_pow i_pow de_int de_int) da_nil))) da_nil)) (da_cons (de_tup (da_cons de_str (da_cons (de_v 0) (da_cons de_non da_nil)))) da_nil)))))) da_nil)))))))))))))))))))))))))))))))))))))))

theorem ok__law_near {f : Addr} {fd : FuncData} (a : At K mg "_law_near" s__law_near p__law_near f fd) {f__law_draw : Addr} {fd__law_draw : FuncData} (a__law_draw : At K mg "_law_draw" s__law_draw p__law_draw f__law_draw fd__law_draw) (G__law_draw : FnG P w K mg base CX0 1 f__law_draw fd__law_draw p__law_draw (toSp K sp__law_draw)) {f__law_bent : Addr} {fd__law_bent : FuncData} (a__law_bent : At K mg "_law_bent" s__law_bent p__law_bent f__law_bent fd__law_bent) (G__law_bent : FnG P w K mg base CX0 11 f__law_bent fd__law_bent p__law_bent (toSp K sp__law_bent)) (z_list : mg "list" = none) : FnG P w K mg base CX0 12 f fd p__law_near (toSp K sp__law_near) := by
  have sc := sc__law_near
  refine a.fn.okD sc ar__law_near fun cdv A fr t H E room => ⟨b__law_near, ?_, rd__law_near⟩
  exact (dss_cons (ds_set (i := 2) sc.nd rfl (by first | exact .inl rfl | exact .inr rfl) (de_lstM (da_cons de_str (da_cons de_str (da_cons de_str (da_cons de_str (da_cons de_str (da_cons de_str (da_cons de_str (da_cons de_str da_nil))))))))))
      (dss_cons (ds_expr (de_mt PySem.F.plainAttrs_list PySem.F.slot_list_extend PySem.F.type_list_extend mt_extend ty_M i_extend (de_v 2) (da_cons (de_lst (da_cons de_str (da_cons de_str (da_cons de_str (da_cons de_str (da_cons de_str (da_cons de_str (da_cons de_str da_nil)))))))) da_nil)))
      (dss_cons (ds_set (i := 3) sc.nd rfl (by first | exact .inl rfl | exact .inr rfl) (a__law_bent.call G__law_bent (room.mono (by decide)) (by rfl) (da_cons (de_v 0) (da_cons (de_v 1) da_nil))))
      (dss_cons (ds_set (i := 4) sc.nd rfl (by first | exact .inl rfl | exact .inr rfl) (de_lst (da_cons (de_v 1) (da_cons (de_v 3) (da_cons (a__law_bent.call G__law_bent (room.mono (by decide)) (by rfl) (da_cons (de_v 0) (da_cons (de_v 3) da_nil))) (da_cons (de_bin op_add2 i_add2 (de_tup (da_cons (de_ix ix_all i_ix (de_v 2) (a__law_draw.call G__law_draw (room.mono (by decide)) (by rfl) (da_cons (de_v 0) (da_cons de_int da_nil))) (fun _ _ => rfl)) da_nil)) (de_sl (de_v 1) (do_some de_int) do_none)) da_nil))))))
      (dss_one (ds_retX (de_bin op_add2 i_add2 (de_v 4) (de_lst (da_cons (de_sl (de_v 1) do_none (do_some (de_neg de_int))) (da_cons (de_bin op_add2 i_add2 (de_v 1) (de_sl (de_v 1) (do_some (de_neg de_int)) do_none)) (da_cons (de_callTy call_list_of i_list (by rfl) z_list (by decide +kernel) (da_cons (de_v 1) da_nil)) da_nil)))))))))))

theorem ok_law {f : Addr} {fd : FuncData} (a : At K mg "law" s_law p_law f fd) {f_is_what : Addr} {fd_is_what : FuncData} (a_is_what : At K mg "is_what" s_is_what p_is_what f_is_what fd_is_what) (G_is_what : FnG P w K mg base CX0 12 f_is_what fd_is_what p_is_what (toSp K sp_is_what)) {f_doc_of : Addr} {fd_doc_of : FuncData} (a_doc_of : At K mg "doc_of" s_doc_of p_doc_of f_doc_of fd_doc_of) (G_doc_of : FnG P w K mg base CX0 2 f_doc_of fd_doc_of p_doc_of (toSp K sp_doc_of)) {f_key_of : Addr} {fd_key_of : FuncData} (a_key_of : At K mg "key_of" s_key_of p_key_of f_key_of fd_key_of) (G_key_of : FnG P w K mg base CX0 1 f_key_of fd_key_of p_key_of (toSp K sp_key_of)) {f_is_deed : Addr} {fd_is_deed : FuncData} (a_is_deed : At K mg "is_deed" s_is_deed p_is_deed f_is_deed fd_is_deed) (G_is_deed : FnG P w K mg base CX0 13 f_is_deed fd_is_deed p_is_deed (toSp K sp_is_deed)) {f__law_deeded : Addr} {fd__law_deeded : FuncData} (a__law_deeded : At K mg "_law_deeded" s__law_deeded p__law_deeded f__law_deeded fd__law_deeded) (G__law_deeded : FnG P w K mg base CX0 9 f__law_deeded fd__law_deeded p__law_deeded (toSp K sp__law_deeded)) {f__law_whatted : Addr} {fd__law_whatted : FuncData} (a__law_whatted : At K mg "_law_whatted" s__law_whatted p__law_whatted f__law_whatted fd__law_whatted) (G__law_whatted : FnG P w K mg base CX0 8 f__law_whatted fd__law_whatted p__law_whatted (toSp K sp__law_whatted)) {f__law_near : Addr} {fd__law_near : FuncData} (a__law_near : At K mg "_law_near" s__law_near p__law_near f__law_near fd__law_near) (G__law_near : FnG P w K mg base CX0 12 f__law_near fd__law_near p__law_near (toSp K sp__law_near)) {f__law_draw : Addr} {fd__law_draw : FuncData} (a__law_draw : At K mg "_law_draw" s__law_draw p__law_draw f__law_draw fd__law_draw) (G__law_draw : FnG P w K mg base CX0 1 f__law_draw fd__law_draw p__law_draw (toSp K sp__law_draw)) {f__law_fixed : Addr} {fd__law_fixed : FuncData} (a__law_fixed : At K mg "_law_fixed" s__law_fixed p__law_fixed f__law_fixed fd__law_fixed) (G__law_fixed : FnG P w K mg base CX0 1 f__law_fixed fd__law_fixed p__law_fixed (toSp K sp__law_fixed)) {f__law_others : Addr} {fd__law_others : FuncData} (a__law_others : At K mg "_law_others" s__law_others p__law_others f__law_others fd__law_others) (G__law_others : FnG P w K mg base CX0 1 f__law_others fd__law_others p__law_others (toSp K sp__law_others)) {f__law_feed : Addr} {fd__law_feed : FuncData} (a__law_feed : At K mg "_law_feed" s__law_feed p__law_feed f__law_feed fd__law_feed) (G__law_feed : FnG P w K mg base CX0 1 f__law_feed fd__law_feed p__law_feed (toSp K sp__law_feed)) (z_repr : mg "repr" = none) (z_range : mg "range" = none) (z_len : mg "len" = none) (z_isinstance : mg "isinstance" = none) (z_tuple : mg "tuple" = none) : FnG P w K mg base CX0 14 f fd p_law (toSp K sp_law) := by
  have sc := sc_law
  refine a.fn.okD sc ar_law fun cdv A fr t H E room => ⟨b_law, ?_, rd_law⟩
  exact (dss_cons (ds_set (i := 1) sc.nd rfl (by first | exact .inl rfl | exact .inr rfl) (a__law_feed.call G__law_feed (room.mono (by decide)) (by rfl) (da_cons (de_v 0) da_nil)))
      (dss_cons (ds_set (i := 2) sc.nd rfl (by first | exact .inl rfl | exact .inr rfl) (de_bin op_cat i_addLM (a__law_fixed.call0 G__law_fixed (room.mono (by decide)) (by rfl)) (a__law_others.call0 G__law_others (room.mono (by decide)) (by rfl))))
      (dss_cons (ds_setLc (i := 4) (own := [("_law_thing", 3)]) rfl sc.nd rfl rfl (sw_true rfl rfl rfl (by decide +kernel)) (di_seq (de_v 2)) (blkOk_by (own := [("_law_thing", 3)]) (N := n_law) (sc := defScope s_law) (by decide +kernel)) (fun _ _ _ _ _ => (dg_name (i := 3) sc.nd rfl (by first | exact .inl rfl | exact .inr rfl))) (fun _ _ _ _ _ => (dp_one (PW.pt (dw_and (dt_val (de_callB call_isiA i_isi (by rfl) z_isinstance PyProof.Rows.boot_isinstance (da_cons (de_v 3) (da_cons (de_ty (by rfl) z_tuple (by decide +kernel)) da_nil)))) (dw_and1 (dt_cmp (op_neA room.u64) i_ne (de_v 3) (de_tup da_nil) (nomark _))))))) (fun _ _ _ _ _ => (de_v 3)))
      (dss_cons (ds_for PassesOwn.never rfl (di_rng1 (by rfl) z_range (da_cons de_int da_nil)) (dg_name (i := 5) sc.nd rfl (by first | exact .inl rfl | exact .inr rfl))
      (dss_one (ds_expr (de_mt PySem.F.plainAttrs_list PySem.F.slot_list_extend PySem.F.type_list_extend mt_extend ty_M i_extend (de_v 2) (da_cons (a__law_near.call G__law_near (room.mono (by decide)) (by rfl) (da_cons (de_v 1) (da_cons (de_ix ix_all i_ix (de_v 4) (a__law_draw.call G__law_draw (room.mono (by decide)) (by rfl) (da_cons (de_v 1) (da_cons (de_callB call_len i_len (by rfl) z_len PySem.boot_len (da_cons (de_v 4) da_nil)) da_nil))) (fun _ _ => rfl)) da_nil))) da_nil)))))
      (dss_cons (ds_set (i := 6) sc.nd rfl (by first | exact .inl rfl | exact .inr rfl) (de_callB (call_repr room.idle room.u65) i_repr (by rfl) z_repr PyProof.Rows.boot_repr (da_cons (de_v 2) da_nil)))
      (dss_cons (ds_for PassesOwn.never rfl (di_seq (de_v 2)) (dg_name (i := 3) sc.nd rfl (by first | exact .inl rfl | exact .inr rfl))
      (dss_one (ds_if (dt_cmp (op_neA room.u64) i_ne (de_callB (call_repr room.idle room.u65) i_repr (by rfl) z_repr PyProof.Rows.boot_repr (da_cons (de_tup (da_cons (a_is_what.call G_is_what (room.mono (by decide)) (by rfl) (da_cons (de_v 3) da_nil)) (da_cons (a_is_deed.call G_is_deed (room.mono (by decide)) (by rfl) (da_cons (de_v 3) da_nil)) da_nil))) da_nil)) (de_callB (call_repr room.idle room.u65) i_repr (by rfl) z_repr PyProof.Rows.boot_repr (da_cons (de_tup (da_cons (a__law_whatted.call G__law_whatted (room.mono (by decide)) (by rfl) (da_cons (de_v 3) da_nil)) (da_cons (a__law_deeded.call G__law_deeded (room.mono (by decide)) (by rfl) (da_cons (de_v 3) da_nil)) da_nil))) da_nil)) (nomark _))
      (dss_one (ds_ret de_bl))
      dss_nil)))
      (dss_cons (ds_for PassesOwn.never rfl (di_seq (de_lc (own := [("_law_thing", 3)]) rfl sc.nd (di_seq (de_v 4)) (blkOk_by (own := [("_law_thing", 3)]) (N := n_law) (sc := defScope s_law) (by decide +kernel)) (fun _ _ _ _ _ => (dg_name (i := 3) sc.nd rfl (by first | exact .inl rfl | exact .inr rfl))) (fun _ _ _ _ _ => (dp_one (dt_val (a_is_what.call G_is_what (room.mono (by decide)) (by rfl) (da_cons (de_v 3) da_nil))))) (fun _ _ _ _ _ => (de_v 3)))) (dg_name (i := 7) sc.nd rfl (by first | exact .inl rfl | exact .inr rfl))
      (dss_cons (ds_set (i := 8) sc.nd rfl (by first | exact .inl rfl | exact .inr rfl) (de_tup (da_cons de_str (da_cons de_int (da_cons de_int (da_cons (de_tup (da_cons (de_tup (da_cons de_str (da_cons de_int da_nil))) da_nil)) (da_cons (de_v 7) da_nil)))))))
      (dss_one (ds_if (dt_cmp (op_neA room.u64) i_ne (de_callB (call_repr room.idle room.u65) i_repr (by rfl) z_repr PyProof.Rows.boot_repr (da_cons (de_lst (da_cons (a_key_of.call G_key_of (room.mono (by decide)) (by rfl) (da_cons (de_v 8) da_nil)) (da_cons (a_doc_of.call G_doc_of (room.mono (by decide)) (by rfl) (da_cons (de_v 8) da_nil)) da_nil))) da_nil)) (de_callB (call_repr room.idle room.u65) i_repr (by rfl) z_repr PyProof.Rows.boot_repr (da_cons (de_lst (da_cons (de_tup (da_cons de_str (da_cons de_int da_nil))) (da_cons (de_ifE (dt_cmp (op_eqA room.u64) i_eq (de_ix ix_all i_ix (de_v 7) de_int (fun _ _ => rfl)) de_str (nomark _)) (de_tup (da_cons de_str (da_cons de_int da_nil))) (de_ix ix_all i_ix (de_v 7) de_int (fun _ _ => rfl))) da_nil))) da_nil)) (nomark _))
      (dss_one (ds_ret de_bl))
      dss_nil))))
      (dss_one (ds_ret (de_cmp (op_eqA room.u64) i_eq (de_callB (call_repr room.idle room.u65) i_repr (by rfl) z_repr PyProof.Rows.boot_repr (da_cons (de_v 2) da_nil)) (de_v 6) (nomark _)))))))))))

end
end K02

set_option Elab.async false
set_option linter.all false
set_option maxRecDepth 100000
set_option maxHeartbeats 4000000
namespace K02
open PySem PySem.Spec PyProof.Rows L2 DL K01
open PySem PySem.Spec PyProof.Rows L2 DL
theorem all_mk {P : Program} {w : World} {K : PySem.W.Frag} {h : Heap} {mg : Str → Option Value} {fa : Addr} (X : K.In h) (G : h.Ns mainGlobals mg) (hfa : mg "law" = some (.ref fa))
    {f_is_whole : Addr} {od_is_whole an_is_whole : Option Addr} {sl_is_whole : Array (Option Value)} {oc_is_whole kV_is_whole dc_is_whole pm_is_whole cd_is_whole ct_is_whole : Value}
    {f_is_number : Addr} {od_is_number an_is_number : Option Addr} {sl_is_number : Array (Option Value)} {oc_is_number kV_is_number dc_is_number pm_is_number cd_is_number ct_is_number : Value}
    {f_is_small_letter : Addr} {od_is_small_letter an_is_small_letter : Option Addr} {sl_is_small_letter : Array (Option Value)} {oc_is_small_letter kV_is_small_letter dc_is_small_letter pm_is_small_letter cd_is_small_letter ct_is_small_letter : Value}
    {f_is_word : Addr} {od_is_word an_is_word : Option Addr} {sl_is_word : Array (Option Value)} {oc_is_word kV_is_word dc_is_word pm_is_word cd_is_word ct_is_word : Value}
    {f_is_sign : Addr} {od_is_sign an_is_sign : Option Addr} {sl_is_sign : Array (Option Value)} {oc_is_sign kV_is_sign dc_is_sign pm_is_sign cd_is_sign ct_is_sign : Value}
    {f_is_text_to : Addr} {od_is_text_to an_is_text_to : Option Addr} {sl_is_text_to : Array (Option Value)} {oc_is_text_to kV_is_text_to dc_is_text_to pm_is_text_to cd_is_text_to ct_is_text_to : Value}
    {f_is_signs : Addr} {od_is_signs an_is_signs : Option Addr} {sl_is_signs : Array (Option Value)} {oc_is_signs kV_is_signs dc_is_signs pm_is_signs cd_is_signs ct_is_signs : Value}
    {f_is_said : Addr} {od_is_said an_is_said : Option Addr} {sl_is_said : Array (Option Value)} {oc_is_said kV_is_said dc_is_said pm_is_said cd_is_said ct_is_said : Value}
    {f_is_value : Addr} {od_is_value an_is_value : Option Addr} {sl_is_value : Array (Option Value)} {oc_is_value kV_is_value dc_is_value pm_is_value cd_is_value ct_is_value : Value}
    {f_is_pair : Addr} {od_is_pair an_is_pair : Option Addr} {sl_is_pair : Array (Option Value)} {oc_is_pair kV_is_pair dc_is_pair pm_is_pair cd_is_pair ct_is_pair : Value}
    {f_is_key : Addr} {od_is_key an_is_key : Option Addr} {sl_is_key : Array (Option Value)} {oc_is_key kV_is_key dc_is_key pm_is_key cd_is_key ct_is_key : Value}
    {f_is_name : Addr} {od_is_name an_is_name : Option Addr} {sl_is_name : Array (Option Value)} {oc_is_name kV_is_name dc_is_name pm_is_name cd_is_name ct_is_name : Value}
    {f_rises : Addr} {od_rises an_rises : Option Addr} {sl_rises : Array (Option Value)} {oc_rises kV_rises dc_rises pm_rises cd_rises ct_rises : Value}
    {f_are_names : Addr} {od_are_names an_are_names : Option Addr} {sl_are_names : Array (Option Value)} {oc_are_names kV_are_names dc_are_names pm_are_names cd_are_names ct_are_names : Value}
    {f_is_level : Addr} {od_is_level an_is_level : Option Addr} {sl_is_level : Array (Option Value)} {oc_is_level kV_is_level dc_is_level pm_is_level cd_is_level ct_is_level : Value}
    {f_is_share : Addr} {od_is_share an_is_share : Option Addr} {sl_is_share : Array (Option Value)} {oc_is_share kV_is_share dc_is_share pm_is_share cd_is_share ct_is_share : Value}
    {f_is_version : Addr} {od_is_version an_is_version : Option Addr} {sl_is_version : Array (Option Value)} {oc_is_version kV_is_version dc_is_version pm_is_version cd_is_version ct_is_version : Value}
    {f__begins_with_text : Addr} {od__begins_with_text an__begins_with_text : Option Addr} {sl__begins_with_text : Array (Option Value)} {oc__begins_with_text kV__begins_with_text dc__begins_with_text pm__begins_with_text cd__begins_with_text ct__begins_with_text : Value}
    {f__fits_plainly : Addr} {od__fits_plainly an__fits_plainly : Option Addr} {sl__fits_plainly : Array (Option Value)} {oc__fits_plainly kV__fits_plainly dc__fits_plainly pm__fits_plainly cd__fits_plainly ct__fits_plainly : Value}
    {f__fits_as_named : Addr} {od__fits_as_named an__fits_as_named : Option Addr} {sl__fits_as_named : Array (Option Value)} {oc__fits_as_named kV__fits_as_named dc__fits_as_named pm__fits_as_named cd__fits_as_named ct__fits_as_named : Value}
    {f__is_inner : Addr} {od__is_inner an__is_inner : Option Addr} {sl__is_inner : Array (Option Value)} {oc__is_inner kV__is_inner dc__is_inner pm__is_inner cd__is_inner ct__is_inner : Value}
    {f__fit : Addr} {od__fit an__fit : Option Addr} {sl__fit : Array (Option Value)} {oc__fit kV__fit dc__fit pm__fit cd__fit ct__fit : Value}
    {f__fits : Addr} {od__fits an__fits : Option Addr} {sl__fits : Array (Option Value)} {oc__fits kV__fits dc__fits pm__fits cd__fits ct__fits : Value}
    {f_is_what : Addr} {od_is_what an_is_what : Option Addr} {sl_is_what : Array (Option Value)} {oc_is_what kV_is_what dc_is_what pm_is_what cd_is_what ct_is_what : Value}
    {f_is_deed : Addr} {od_is_deed an_is_deed : Option Addr} {sl_is_deed : Array (Option Value)} {oc_is_deed kV_is_deed dc_is_deed pm_is_deed cd_is_deed ct_is_deed : Value}
    {f_key_of : Addr} {od_key_of an_key_of : Option Addr} {sl_key_of : Array (Option Value)} {oc_key_of kV_key_of dc_key_of pm_key_of cd_key_of ct_key_of : Value}
    {f_what_of : Addr} {od_what_of an_what_of : Option Addr} {sl_what_of : Array (Option Value)} {oc_what_of kV_what_of dc_what_of pm_what_of cd_what_of ct_what_of : Value}
    {f_doc_named : Addr} {od_doc_named an_doc_named : Option Addr} {sl_doc_named : Array (Option Value)} {oc_doc_named kV_doc_named dc_doc_named pm_doc_named cd_doc_named ct_doc_named : Value}
    {f_doc_of : Addr} {od_doc_of an_doc_of : Option Addr} {sl_doc_of : Array (Option Value)} {oc_doc_of kV_doc_of dc_doc_of pm_doc_of cd_doc_of ct_doc_of : Value}
    {f__law_feed : Addr} {od__law_feed an__law_feed : Option Addr} {sl__law_feed : Array (Option Value)} {oc__law_feed kV__law_feed dc__law_feed pm__law_feed cd__law_feed ct__law_feed : Value}
    {f__law_draw : Addr} {od__law_draw an__law_draw : Option Addr} {sl__law_draw : Array (Option Value)} {oc__law_draw kV__law_draw dc__law_draw pm__law_draw cd__law_draw ct__law_draw : Value}
    {f__law_odd : Addr} {od__law_odd an__law_odd : Option Addr} {sl__law_odd : Array (Option Value)} {oc__law_odd kV__law_odd dc__law_odd pm__law_odd cd__law_odd ct__law_odd : Value}
    {f__law_bent : Addr} {od__law_bent an__law_bent : Option Addr} {sl__law_bent : Array (Option Value)} {oc__law_bent kV__law_bent dc__law_bent pm__law_bent cd__law_bent ct__law_bent : Value}
    {f__law_whole : Addr} {od__law_whole an__law_whole : Option Addr} {sl__law_whole : Array (Option Value)} {oc__law_whole kV__law_whole dc__law_whole pm__law_whole cd__law_whole ct__law_whole : Value}
    {f__law_counted : Addr} {od__law_counted an__law_counted : Option Addr} {sl__law_counted : Array (Option Value)} {oc__law_counted kV__law_counted dc__law_counted pm__law_counted cd__law_counted ct__law_counted : Value}
    {f__law_worded : Addr} {od__law_worded an__law_worded : Option Addr} {sl__law_worded : Array (Option Value)} {oc__law_worded kV__law_worded dc__law_worded pm__law_worded cd__law_worded ct__law_worded : Value}
    {f__law_texted : Addr} {od__law_texted an__law_texted : Option Addr} {sl__law_texted : Array (Option Value)} {oc__law_texted kV__law_texted dc__law_texted pm__law_texted cd__law_texted ct__law_texted : Value}
    {f__law_keyed : Addr} {od__law_keyed an__law_keyed : Option Addr} {sl__law_keyed : Array (Option Value)} {oc__law_keyed kV__law_keyed dc__law_keyed pm__law_keyed cd__law_keyed ct__law_keyed : Value}
    {f__law_named : Addr} {od__law_named an__law_named : Option Addr} {sl__law_named : Array (Option Value)} {oc__law_named kV__law_named dc__law_named pm__law_named cd__law_named ct__law_named : Value}
    {f__law_all_named : Addr} {od__law_all_named an__law_all_named : Option Addr} {sl__law_all_named : Array (Option Value)} {oc__law_all_named kV__law_all_named dc__law_all_named pm__law_all_named cd__law_all_named ct__law_all_named : Value}
    {f__law_leveled : Addr} {od__law_leveled an__law_leveled : Option Addr} {sl__law_leveled : Array (Option Value)} {oc__law_leveled kV__law_leveled dc__law_leveled pm__law_leveled cd__law_leveled ct__law_leveled : Value}
    {f__law_versioned : Addr} {od__law_versioned an__law_versioned : Option Addr} {sl__law_versioned : Array (Option Value)} {oc__law_versioned kV__law_versioned dc__law_versioned pm__law_versioned cd__law_versioned ct__law_versioned : Value}
    {f__law_inner : Addr} {od__law_inner an__law_inner : Option Addr} {sl__law_inner : Array (Option Value)} {oc__law_inner kV__law_inner dc__law_inner pm__law_inner cd__law_inner ct__law_inner : Value}
    {f__law_part_is : Addr} {od__law_part_is an__law_part_is : Option Addr} {sl__law_part_is : Array (Option Value)} {oc__law_part_is kV__law_part_is dc__law_part_is pm__law_part_is cd__law_part_is ct__law_part_is : Value}
    {f__law_whatted : Addr} {od__law_whatted an__law_whatted : Option Addr} {sl__law_whatted : Array (Option Value)} {oc__law_whatted kV__law_whatted dc__law_whatted pm__law_whatted cd__law_whatted ct__law_whatted : Value}
    {f__law_deeded : Addr} {od__law_deeded an__law_deeded : Option Addr} {sl__law_deeded : Array (Option Value)} {oc__law_deeded kV__law_deeded dc__law_deeded pm__law_deeded cd__law_deeded ct__law_deeded : Value}
    {f__law_fixed : Addr} {od__law_fixed an__law_fixed : Option Addr} {sl__law_fixed : Array (Option Value)} {oc__law_fixed kV__law_fixed dc__law_fixed pm__law_fixed cd__law_fixed ct__law_fixed : Value}
    {f__law_others : Addr} {od__law_others an__law_others : Option Addr} {sl__law_others : Array (Option Value)} {oc__law_others kV__law_others dc__law_others pm__law_others cd__law_others ct__law_others : Value}
    {f__law_near : Addr} {od__law_near an__law_near : Option Addr} {sl__law_near : Array (Option Value)} {oc__law_near kV__law_near dc__law_near pm__law_near cd__law_near ct__law_near : Value}
    {f_law : Addr} {od_law an_law : Option Addr} {sl_law : Array (Option Value)} {oc_law kV_law dc_law pm_law cd_law ct_law : Value}
    {t__HUNDREDTHS : Tok}
    {k_LEVELS : Addr} {its_LEVELS : Array Value} {n_LEVELS : Nat} {sl_LEVELS : Array (Option Value)}
    {k_INNERS : Addr} {es_INNERS : Array DictEntry} {n_INNERS : Nat}
    {k_SORTS : Addr} {its_SORTS : Array Value} {n_SORTS : Nat} {sl_SORTS : Array (Option Value)}
    {k_FORMS : Addr} {es_FORMS : Array DictEntry} {n_FORMS : Nat}
    (a_is_whole : PySem.W.nsIn K mainGlobals "is_whole" = some (some (.ref f_is_whole)))
    (l_is_whole : K.lookup f_is_whole = some ⟨oc_is_whole, od_is_whole, .func (PySem.W.fnOf "is_whole" "is_whole" (defArgs s_is_whole) (defBody s_is_whole) (defScope s_is_whole) .none kV_is_whole dc_is_whole pm_is_whole an_is_whole cd_is_whole ct_is_whole), sl_is_whole⟩)
    (c_is_whole : PySem.W.codeIn K cd_is_whole "is_whole" = true)
    (k_is_whole : PySem.W.keepIn K (.ref f_is_whole) = true)
    (a_is_number : PySem.W.nsIn K mainGlobals "is_number" = some (some (.ref f_is_number)))
    (l_is_number : K.lookup f_is_number = some ⟨oc_is_number, od_is_number, .func (PySem.W.fnOf "is_number" "is_number" (defArgs s_is_number) (defBody s_is_number) (defScope s_is_number) .none kV_is_number dc_is_number pm_is_number an_is_number cd_is_number ct_is_number), sl_is_number⟩)
    (c_is_number : PySem.W.codeIn K cd_is_number "is_number" = true)
    (k_is_number : PySem.W.keepIn K (.ref f_is_number) = true)
    (a_is_small_letter : PySem.W.nsIn K mainGlobals "is_small_letter" = some (some (.ref f_is_small_letter)))
    (l_is_small_letter : K.lookup f_is_small_letter = some ⟨oc_is_small_letter, od_is_small_letter, .func (PySem.W.fnOf "is_small_letter" "is_small_letter" (defArgs s_is_small_letter) (defBody s_is_small_letter) (defScope s_is_small_letter) .none kV_is_small_letter dc_is_small_letter pm_is_small_letter an_is_small_letter cd_is_small_letter ct_is_small_letter), sl_is_small_letter⟩)
    (c_is_small_letter : PySem.W.codeIn K cd_is_small_letter "is_small_letter" = true)
    (k_is_small_letter : PySem.W.keepIn K (.ref f_is_small_letter) = true)
    (a_is_word : PySem.W.nsIn K mainGlobals "is_word" = some (some (.ref f_is_word)))
    (l_is_word : K.lookup f_is_word = some ⟨oc_is_word, od_is_word, .func (PySem.W.fnOf "is_word" "is_word" (defArgs s_is_word) (defBody s_is_word) (defScope s_is_word) .none kV_is_word dc_is_word pm_is_word an_is_word cd_is_word ct_is_word), sl_is_word⟩)
    (c_is_word : PySem.W.codeIn K cd_is_word "is_word" = true)
    (k_is_word : PySem.W.keepIn K (.ref f_is_word) = true)
    (a_is_sign : PySem.W.nsIn K mainGlobals "is_sign" = some (some (.ref f_is_sign)))
    (l_is_sign : K.lookup f_is_sign = some ⟨oc_is_sign, od_is_sign, .func (PySem.W.fnOf "is_sign" "is_sign" (defArgs s_is_sign) (defBody s_is_sign) (defScope s_is_sign) .none kV_is_sign dc_is_sign pm_is_sign an_is_sign cd_is_sign ct_is_sign), sl_is_sign⟩)
    (c_is_sign : PySem.W.codeIn K cd_is_sign "is_sign" = true)
    (k_is_sign : PySem.W.keepIn K (.ref f_is_sign) = true)
    (a_is_text_to : PySem.W.nsIn K mainGlobals "is_text_to" = some (some (.ref f_is_text_to)))
    (l_is_text_to : K.lookup f_is_text_to = some ⟨oc_is_text_to, od_is_text_to, .func (PySem.W.fnOf "is_text_to" "is_text_to" (defArgs s_is_text_to) (defBody s_is_text_to) (defScope s_is_text_to) .none kV_is_text_to dc_is_text_to pm_is_text_to an_is_text_to cd_is_text_to ct_is_text_to), sl_is_text_to⟩)
    (c_is_text_to : PySem.W.codeIn K cd_is_text_to "is_text_to" = true)
    (k_is_text_to : PySem.W.keepIn K (.ref f_is_text_to) = true)
    (a_is_signs : PySem.W.nsIn K mainGlobals "is_signs" = some (some (.ref f_is_signs)))
    (l_is_signs : K.lookup f_is_signs = some ⟨oc_is_signs, od_is_signs, .func (PySem.W.fnOf "is_signs" "is_signs" (defArgs s_is_signs) (defBody s_is_signs) (defScope s_is_signs) .none kV_is_signs dc_is_signs pm_is_signs an_is_signs cd_is_signs ct_is_signs), sl_is_signs⟩)
    (c_is_signs : PySem.W.codeIn K cd_is_signs "is_signs" = true)
    (k_is_signs : PySem.W.keepIn K (.ref f_is_signs) = true)
    (a_is_said : PySem.W.nsIn K mainGlobals "is_said" = some (some (.ref f_is_said)))
    (l_is_said : K.lookup f_is_said = some ⟨oc_is_said, od_is_said, .func (PySem.W.fnOf "is_said" "is_said" (defArgs s_is_said) (defBody s_is_said) (defScope s_is_said) .none kV_is_said dc_is_said pm_is_said an_is_said cd_is_said ct_is_said), sl_is_said⟩)
    (c_is_said : PySem.W.codeIn K cd_is_said "is_said" = true)
    (k_is_said : PySem.W.keepIn K (.ref f_is_said) = true)
    (a_is_value : PySem.W.nsIn K mainGlobals "is_value" = some (some (.ref f_is_value)))
    (l_is_value : K.lookup f_is_value = some ⟨oc_is_value, od_is_value, .func (PySem.W.fnOf "is_value" "is_value" (defArgs s_is_value) (defBody s_is_value) (defScope s_is_value) .none kV_is_value dc_is_value pm_is_value an_is_value cd_is_value ct_is_value), sl_is_value⟩)
    (c_is_value : PySem.W.codeIn K cd_is_value "is_value" = true)
    (k_is_value : PySem.W.keepIn K (.ref f_is_value) = true)
    (a_is_pair : PySem.W.nsIn K mainGlobals "is_pair" = some (some (.ref f_is_pair)))
    (l_is_pair : K.lookup f_is_pair = some ⟨oc_is_pair, od_is_pair, .func (PySem.W.fnOf "is_pair" "is_pair" (defArgs s_is_pair) (defBody s_is_pair) (defScope s_is_pair) .none kV_is_pair dc_is_pair pm_is_pair an_is_pair cd_is_pair ct_is_pair), sl_is_pair⟩)
    (c_is_pair : PySem.W.codeIn K cd_is_pair "is_pair" = true)
    (k_is_pair : PySem.W.keepIn K (.ref f_is_pair) = true)
    (a_is_key : PySem.W.nsIn K mainGlobals "is_key" = some (some (.ref f_is_key)))
    (l_is_key : K.lookup f_is_key = some ⟨oc_is_key, od_is_key, .func (PySem.W.fnOf "is_key" "is_key" (defArgs s_is_key) (defBody s_is_key) (defScope s_is_key) .none kV_is_key dc_is_key pm_is_key an_is_key cd_is_key ct_is_key), sl_is_key⟩)
    (c_is_key : PySem.W.codeIn K cd_is_key "is_key" = true)
    (k_is_key : PySem.W.keepIn K (.ref f_is_key) = true)
    (a_is_name : PySem.W.nsIn K mainGlobals "is_name" = some (some (.ref f_is_name)))
    (l_is_name : K.lookup f_is_name = some ⟨oc_is_name, od_is_name, .func (PySem.W.fnOf "is_name" "is_name" (defArgs s_is_name) (defBody s_is_name) (defScope s_is_name) .none kV_is_name dc_is_name pm_is_name an_is_name cd_is_name ct_is_name), sl_is_name⟩)
    (c_is_name : PySem.W.codeIn K cd_is_name "is_name" = true)
    (k_is_name : PySem.W.keepIn K (.ref f_is_name) = true)
    (a_rises : PySem.W.nsIn K mainGlobals "rises" = some (some (.ref f_rises)))
    (l_rises : K.lookup f_rises = some ⟨oc_rises, od_rises, .func (PySem.W.fnOf "rises" "rises" (defArgs s_rises) (defBody s_rises) (defScope s_rises) .none kV_rises dc_rises pm_rises an_rises cd_rises ct_rises), sl_rises⟩)
    (c_rises : PySem.W.codeIn K cd_rises "rises" = true)
    (k_rises : PySem.W.keepIn K (.ref f_rises) = true)
    (a_are_names : PySem.W.nsIn K mainGlobals "are_names" = some (some (.ref f_are_names)))
    (l_are_names : K.lookup f_are_names = some ⟨oc_are_names, od_are_names, .func (PySem.W.fnOf "are_names" "are_names" (defArgs s_are_names) (defBody s_are_names) (defScope s_are_names) .none kV_are_names dc_are_names pm_are_names an_are_names cd_are_names ct_are_names), sl_are_names⟩)
    (c_are_names : PySem.W.codeIn K cd_are_names "are_names" = true)
    (k_are_names : PySem.W.keepIn K (.ref f_are_names) = true)
    (a_is_level : PySem.W.nsIn K mainGlobals "is_level" = some (some (.ref f_is_level)))
    (l_is_level : K.lookup f_is_level = some ⟨oc_is_level, od_is_level, .func (PySem.W.fnOf "is_level" "is_level" (defArgs s_is_level) (defBody s_is_level) (defScope s_is_level) .none kV_is_level dc_is_level pm_is_level an_is_level cd_is_level ct_is_level), sl_is_level⟩)
    (c_is_level : PySem.W.codeIn K cd_is_level "is_level" = true)
    (k_is_level : PySem.W.keepIn K (.ref f_is_level) = true)
    (a_is_share : PySem.W.nsIn K mainGlobals "is_share" = some (some (.ref f_is_share)))
    (l_is_share : K.lookup f_is_share = some ⟨oc_is_share, od_is_share, .func (PySem.W.fnOf "is_share" "is_share" (defArgs s_is_share) (defBody s_is_share) (defScope s_is_share) .none kV_is_share dc_is_share pm_is_share an_is_share cd_is_share ct_is_share), sl_is_share⟩)
    (c_is_share : PySem.W.codeIn K cd_is_share "is_share" = true)
    (k_is_share : PySem.W.keepIn K (.ref f_is_share) = true)
    (a_is_version : PySem.W.nsIn K mainGlobals "is_version" = some (some (.ref f_is_version)))
    (l_is_version : K.lookup f_is_version = some ⟨oc_is_version, od_is_version, .func (PySem.W.fnOf "is_version" "is_version" (defArgs s_is_version) (defBody s_is_version) (defScope s_is_version) .none kV_is_version dc_is_version pm_is_version an_is_version cd_is_version ct_is_version), sl_is_version⟩)
    (c_is_version : PySem.W.codeIn K cd_is_version "is_version" = true)
    (k_is_version : PySem.W.keepIn K (.ref f_is_version) = true)
    (a__begins_with_text : PySem.W.nsIn K mainGlobals "_begins_with_text" = some (some (.ref f__begins_with_text)))
    (l__begins_with_text : K.lookup f__begins_with_text = some ⟨oc__begins_with_text, od__begins_with_text, .func (PySem.W.fnOf "_begins_with_text" "_begins_with_text" (defArgs s__begins_with_text) (defBody s__begins_with_text) (defScope s__begins_with_text) .none kV__begins_with_text dc__begins_with_text pm__begins_with_text an__begins_with_text cd__begins_with_text ct__begins_with_text), sl__begins_with_text⟩)
    (c__begins_with_text : PySem.W.codeIn K cd__begins_with_text "_begins_with_text" = true)
    (k__begins_with_text : PySem.W.keepIn K (.ref f__begins_with_text) = true)
    (a__fits_plainly : PySem.W.nsIn K mainGlobals "_fits_plainly" = some (some (.ref f__fits_plainly)))
    (l__fits_plainly : K.lookup f__fits_plainly = some ⟨oc__fits_plainly, od__fits_plainly, .func (PySem.W.fnOf "_fits_plainly" "_fits_plainly" (defArgs s__fits_plainly) (defBody s__fits_plainly) (defScope s__fits_plainly) .none kV__fits_plainly dc__fits_plainly pm__fits_plainly an__fits_plainly cd__fits_plainly ct__fits_plainly), sl__fits_plainly⟩)
    (c__fits_plainly : PySem.W.codeIn K cd__fits_plainly "_fits_plainly" = true)
    (k__fits_plainly : PySem.W.keepIn K (.ref f__fits_plainly) = true)
    (a__fits_as_named : PySem.W.nsIn K mainGlobals "_fits_as_named" = some (some (.ref f__fits_as_named)))
    (l__fits_as_named : K.lookup f__fits_as_named = some ⟨oc__fits_as_named, od__fits_as_named, .func (PySem.W.fnOf "_fits_as_named" "_fits_as_named" (defArgs s__fits_as_named) (defBody s__fits_as_named) (defScope s__fits_as_named) .none kV__fits_as_named dc__fits_as_named pm__fits_as_named an__fits_as_named cd__fits_as_named ct__fits_as_named), sl__fits_as_named⟩)
    (c__fits_as_named : PySem.W.codeIn K cd__fits_as_named "_fits_as_named" = true)
    (k__fits_as_named : PySem.W.keepIn K (.ref f__fits_as_named) = true)
    (a__is_inner : PySem.W.nsIn K mainGlobals "_is_inner" = some (some (.ref f__is_inner)))
    (l__is_inner : K.lookup f__is_inner = some ⟨oc__is_inner, od__is_inner, .func (PySem.W.fnOf "_is_inner" "_is_inner" (defArgs s__is_inner) (defBody s__is_inner) (defScope s__is_inner) .none kV__is_inner dc__is_inner pm__is_inner an__is_inner cd__is_inner ct__is_inner), sl__is_inner⟩)
    (c__is_inner : PySem.W.codeIn K cd__is_inner "_is_inner" = true)
    (k__is_inner : PySem.W.keepIn K (.ref f__is_inner) = true)
    (a__fit : PySem.W.nsIn K mainGlobals "_fit" = some (some (.ref f__fit)))
    (l__fit : K.lookup f__fit = some ⟨oc__fit, od__fit, .func (PySem.W.fnOf "_fit" "_fit" (defArgs s__fit) (defBody s__fit) (defScope s__fit) .none kV__fit dc__fit pm__fit an__fit cd__fit ct__fit), sl__fit⟩)
    (c__fit : PySem.W.codeIn K cd__fit "_fit" = true)
    (k__fit : PySem.W.keepIn K (.ref f__fit) = true)
    (a__fits : PySem.W.nsIn K mainGlobals "_fits" = some (some (.ref f__fits)))
    (l__fits : K.lookup f__fits = some ⟨oc__fits, od__fits, .func (PySem.W.fnOf "_fits" "_fits" (defArgs s__fits) (defBody s__fits) (defScope s__fits) .none kV__fits dc__fits pm__fits an__fits cd__fits ct__fits), sl__fits⟩)
    (c__fits : PySem.W.codeIn K cd__fits "_fits" = true)
    (k__fits : PySem.W.keepIn K (.ref f__fits) = true)
    (a_is_what : PySem.W.nsIn K mainGlobals "is_what" = some (some (.ref f_is_what)))
    (l_is_what : K.lookup f_is_what = some ⟨oc_is_what, od_is_what, .func (PySem.W.fnOf "is_what" "is_what" (defArgs s_is_what) (defBody s_is_what) (defScope s_is_what) .none kV_is_what dc_is_what pm_is_what an_is_what cd_is_what ct_is_what), sl_is_what⟩)
    (c_is_what : PySem.W.codeIn K cd_is_what "is_what" = true)
    (k_is_what : PySem.W.keepIn K (.ref f_is_what) = true)
    (a_is_deed : PySem.W.nsIn K mainGlobals "is_deed" = some (some (.ref f_is_deed)))
    (l_is_deed : K.lookup f_is_deed = some ⟨oc_is_deed, od_is_deed, .func (PySem.W.fnOf "is_deed" "is_deed" (defArgs s_is_deed) (defBody s_is_deed) (defScope s_is_deed) .none kV_is_deed dc_is_deed pm_is_deed an_is_deed cd_is_deed ct_is_deed), sl_is_deed⟩)
    (c_is_deed : PySem.W.codeIn K cd_is_deed "is_deed" = true)
    (k_is_deed : PySem.W.keepIn K (.ref f_is_deed) = true)
    (a_key_of : PySem.W.nsIn K mainGlobals "key_of" = some (some (.ref f_key_of)))
    (l_key_of : K.lookup f_key_of = some ⟨oc_key_of, od_key_of, .func (PySem.W.fnOf "key_of" "key_of" (defArgs s_key_of) (defBody s_key_of) (defScope s_key_of) .none kV_key_of dc_key_of pm_key_of an_key_of cd_key_of ct_key_of), sl_key_of⟩)
    (c_key_of : PySem.W.codeIn K cd_key_of "key_of" = true)
    (k_key_of : PySem.W.keepIn K (.ref f_key_of) = true)
    (a_what_of : PySem.W.nsIn K mainGlobals "what_of" = some (some (.ref f_what_of)))
    (l_what_of : K.lookup f_what_of = some ⟨oc_what_of, od_what_of, .func (PySem.W.fnOf "what_of" "what_of" (defArgs s_what_of) (defBody s_what_of) (defScope s_what_of) .none kV_what_of dc_what_of pm_what_of an_what_of cd_what_of ct_what_of), sl_what_of⟩)
    (c_what_of : PySem.W.codeIn K cd_what_of "what_of" = true)
    (k_what_of : PySem.W.keepIn K (.ref f_what_of) = true)
    (a_doc_named : PySem.W.nsIn K mainGlobals "doc_named" = some (some (.ref f_doc_named)))
    (l_doc_named : K.lookup f_doc_named = some ⟨oc_doc_named, od_doc_named, .func (PySem.W.fnOf "doc_named" "doc_named" (defArgs s_doc_named) (defBody s_doc_named) (defScope s_doc_named) .none kV_doc_named dc_doc_named pm_doc_named an_doc_named cd_doc_named ct_doc_named), sl_doc_named⟩)
    (c_doc_named : PySem.W.codeIn K cd_doc_named "doc_named" = true)
    (k_doc_named : PySem.W.keepIn K (.ref f_doc_named) = true)
    (a_doc_of : PySem.W.nsIn K mainGlobals "doc_of" = some (some (.ref f_doc_of)))
    (l_doc_of : K.lookup f_doc_of = some ⟨oc_doc_of, od_doc_of, .func (PySem.W.fnOf "doc_of" "doc_of" (defArgs s_doc_of) (defBody s_doc_of) (defScope s_doc_of) .none kV_doc_of dc_doc_of pm_doc_of an_doc_of cd_doc_of ct_doc_of), sl_doc_of⟩)
    (c_doc_of : PySem.W.codeIn K cd_doc_of "doc_of" = true)
    (k_doc_of : PySem.W.keepIn K (.ref f_doc_of) = true)
    (a__law_feed : PySem.W.nsIn K mainGlobals "_law_feed" = some (some (.ref f__law_feed)))
    (l__law_feed : K.lookup f__law_feed = some ⟨oc__law_feed, od__law_feed, .func (PySem.W.fnOf "_law_feed" "_law_feed" (defArgs s__law_feed) (defBody s__law_feed) (defScope s__law_feed) .none kV__law_feed dc__law_feed pm__law_feed an__law_feed cd__law_feed ct__law_feed), sl__law_feed⟩)
    (c__law_feed : PySem.W.codeIn K cd__law_feed "_law_feed" = true)
    (k__law_feed : PySem.W.keepIn K (.ref f__law_feed) = true)
    (a__law_draw : PySem.W.nsIn K mainGlobals "_law_draw" = some (some (.ref f__law_draw)))
    (l__law_draw : K.lookup f__law_draw = some ⟨oc__law_draw, od__law_draw, .func (PySem.W.fnOf "_law_draw" "_law_draw" (defArgs s__law_draw) (defBody s__law_draw) (defScope s__law_draw) .none kV__law_draw dc__law_draw pm__law_draw an__law_draw cd__law_draw ct__law_draw), sl__law_draw⟩)
    (c__law_draw : PySem.W.codeIn K cd__law_draw "_law_draw" = true)
    (k__law_draw : PySem.W.keepIn K (.ref f__law_draw) = true)
    (a__law_odd : PySem.W.nsIn K mainGlobals "_law_odd" = some (some (.ref f__law_odd)))
    (l__law_odd : K.lookup f__law_odd = some ⟨oc__law_odd, od__law_odd, .func (PySem.W.fnOf "_law_odd" "_law_odd" (defArgs s__law_odd) (defBody s__law_odd) (defScope s__law_odd) .none kV__law_odd dc__law_odd pm__law_odd an__law_odd cd__law_odd ct__law_odd), sl__law_odd⟩)
    (c__law_odd : PySem.W.codeIn K cd__law_odd "_law_odd" = true)
    (k__law_odd : PySem.W.keepIn K (.ref f__law_odd) = true)
    (a__law_bent : PySem.W.nsIn K mainGlobals "_law_bent" = some (some (.ref f__law_bent)))
    (l__law_bent : K.lookup f__law_bent = some ⟨oc__law_bent, od__law_bent, .func (PySem.W.fnOf "_law_bent" "_law_bent" (defArgs s__law_bent) (defBody s__law_bent) (defScope s__law_bent) .none kV__law_bent dc__law_bent pm__law_bent an__law_bent cd__law_bent ct__law_bent), sl__law_bent⟩)
    (c__law_bent : PySem.W.codeIn K cd__law_bent "_law_bent" = true)
    (k__law_bent : PySem.W.keepIn K (.ref f__law_bent) = true)
    (a__law_whole : PySem.W.nsIn K mainGlobals "_law_whole" = some (some (.ref f__law_whole)))
    (l__law_whole : K.lookup f__law_whole = some ⟨oc__law_whole, od__law_whole, .func (PySem.W.fnOf "_law_whole" "_law_whole" (defArgs s__law_whole) (defBody s__law_whole) (defScope s__law_whole) .none kV__law_whole dc__law_whole pm__law_whole an__law_whole cd__law_whole ct__law_whole), sl__law_whole⟩)
    (c__law_whole : PySem.W.codeIn K cd__law_whole "_law_whole" = true)
    (k__law_whole : PySem.W.keepIn K (.ref f__law_whole) = true)
    (a__law_counted : PySem.W.nsIn K mainGlobals "_law_counted" = some (some (.ref f__law_counted)))
    (l__law_counted : K.lookup f__law_counted = some ⟨oc__law_counted, od__law_counted, .func (PySem.W.fnOf "_law_counted" "_law_counted" (defArgs s__law_counted) (defBody s__law_counted) (defScope s__law_counted) .none kV__law_counted dc__law_counted pm__law_counted an__law_counted cd__law_counted ct__law_counted), sl__law_counted⟩)
    (c__law_counted : PySem.W.codeIn K cd__law_counted "_law_counted" = true)
    (k__law_counted : PySem.W.keepIn K (.ref f__law_counted) = true)
    (a__law_worded : PySem.W.nsIn K mainGlobals "_law_worded" = some (some (.ref f__law_worded)))
    (l__law_worded : K.lookup f__law_worded = some ⟨oc__law_worded, od__law_worded, .func (PySem.W.fnOf "_law_worded" "_law_worded" (defArgs s__law_worded) (defBody s__law_worded) (defScope s__law_worded) .none kV__law_worded dc__law_worded pm__law_worded an__law_worded cd__law_worded ct__law_worded), sl__law_worded⟩)
    (c__law_worded : PySem.W.codeIn K cd__law_worded "_law_worded" = true)
    (k__law_worded : PySem.W.keepIn K (.ref f__law_worded) = true)
    (a__law_texted : PySem.W.nsIn K mainGlobals "_law_texted" = some (some (.ref f__law_texted)))
    (l__law_texted : K.lookup f__law_texted = some ⟨oc__law_texted, od__law_texted, .func (PySem.W.fnOf "_law_texted" "_law_texted" (defArgs s__law_texted) (defBody s__law_texted) (defScope s__law_texted) .none kV__law_texted dc__law_texted pm__law_texted an__law_texted cd__law_texted ct__law_texted), sl__law_texted⟩)
    (c__law_texted : PySem.W.codeIn K cd__law_texted "_law_texted" = true)
    (k__law_texted : PySem.W.keepIn K (.ref f__law_texted) = true)
    (a__law_keyed : PySem.W.nsIn K mainGlobals "_law_keyed" = some (some (.ref f__law_keyed)))
    (l__law_keyed : K.lookup f__law_keyed = some ⟨oc__law_keyed, od__law_keyed, .func (PySem.W.fnOf "_law_keyed" "_law_keyed" (defArgs s__law_keyed) (defBody s__law_keyed) (defScope s__law_keyed) .none kV__law_keyed dc__law_keyed pm__law_keyed an__law_keyed cd__law_keyed ct__law_keyed), sl__law_keyed⟩)
    (c__law_keyed : PySem.W.codeIn K cd__law_keyed "_law_keyed" = true)
    (k__law_keyed : PySem.W.keepIn K (.ref f__law_keyed) = true)
    (a__law_named : PySem.W.nsIn K mainGlobals "_law_named" = some (some (.ref f__law_named)))
    (l__law_named : K.lookup f__law_named = some ⟨oc__law_named, od__law_named, .func (PySem.W.fnOf "_law_named" "_law_named" (defArgs s__law_named) (defBody s__law_named) (defScope s__law_named) .none kV__law_named dc__law_named pm__law_named an__law_named cd__law_named ct__law_named), sl__law_named⟩)
    (c__law_named : PySem.W.codeIn K cd__law_named "_law_named" = true)
    (k__law_named : PySem.W.keepIn K (.ref f__law_named) = true)
    (a__law_all_named : PySem.W.nsIn K mainGlobals "_law_all_named" = some (some (.ref f__law_all_named)))
    (l__law_all_named : K.lookup f__law_all_named = some ⟨oc__law_all_named, od__law_all_named, .func (PySem.W.fnOf "_law_all_named" "_law_all_named" (defArgs s__law_all_named) (defBody s__law_all_named) (defScope s__law_all_named) .none kV__law_all_named dc__law_all_named pm__law_all_named an__law_all_named cd__law_all_named ct__law_all_named), sl__law_all_named⟩)
    (c__law_all_named : PySem.W.codeIn K cd__law_all_named "_law_all_named" = true)
    (k__law_all_named : PySem.W.keepIn K (.ref f__law_all_named) = true)
    (a__law_leveled : PySem.W.nsIn K mainGlobals "_law_leveled" = some (some (.ref f__law_leveled)))
    (l__law_leveled : K.lookup f__law_leveled = some ⟨oc__law_leveled, od__law_leveled, .func (PySem.W.fnOf "_law_leveled" "_law_leveled" (defArgs s__law_leveled) (defBody s__law_leveled) (defScope s__law_leveled) .none kV__law_leveled dc__law_leveled pm__law_leveled an__law_leveled cd__law_leveled ct__law_leveled), sl__law_leveled⟩)
    (c__law_leveled : PySem.W.codeIn K cd__law_leveled "_law_leveled" = true)
    (k__law_leveled : PySem.W.keepIn K (.ref f__law_leveled) = true)
    (a__law_versioned : PySem.W.nsIn K mainGlobals "_law_versioned" = some (some (.ref f__law_versioned)))
    (l__law_versioned : K.lookup f__law_versioned = some ⟨oc__law_versioned, od__law_versioned, .func (PySem.W.fnOf "_law_versioned" "_law_versioned" (defArgs s__law_versioned) (defBody s__law_versioned) (defScope s__law_versioned) .none kV__law_versioned dc__law_versioned pm__law_versioned an__law_versioned cd__law_versioned ct__law_versioned), sl__law_versioned⟩)
    (c__law_versioned : PySem.W.codeIn K cd__law_versioned "_law_versioned" = true)
    (k__law_versioned : PySem.W.keepIn K (.ref f__law_versioned) = true)
    (a__law_inner : PySem.W.nsIn K mainGlobals "_law_inner" = some (some (.ref f__law_inner)))
    (l__law_inner : K.lookup f__law_inner = some ⟨oc__law_inner, od__law_inner, .func (PySem.W.fnOf "_law_inner" "_law_inner" (defArgs s__law_inner) (defBody s__law_inner) (defScope s__law_inner) .none kV__law_inner dc__law_inner pm__law_inner an__law_inner cd__law_inner ct__law_inner), sl__law_inner⟩)
    (c__law_inner : PySem.W.codeIn K cd__law_inner "_law_inner" = true)
    (k__law_inner : PySem.W.keepIn K (.ref f__law_inner) = true)
    (a__law_part_is : PySem.W.nsIn K mainGlobals "_law_part_is" = some (some (.ref f__law_part_is)))
    (l__law_part_is : K.lookup f__law_part_is = some ⟨oc__law_part_is, od__law_part_is, .func (PySem.W.fnOf "_law_part_is" "_law_part_is" (defArgs s__law_part_is) (defBody s__law_part_is) (defScope s__law_part_is) .none kV__law_part_is dc__law_part_is pm__law_part_is an__law_part_is cd__law_part_is ct__law_part_is), sl__law_part_is⟩)
    (c__law_part_is : PySem.W.codeIn K cd__law_part_is "_law_part_is" = true)
    (k__law_part_is : PySem.W.keepIn K (.ref f__law_part_is) = true)
    (a__law_whatted : PySem.W.nsIn K mainGlobals "_law_whatted" = some (some (.ref f__law_whatted)))
    (l__law_whatted : K.lookup f__law_whatted = some ⟨oc__law_whatted, od__law_whatted, .func (PySem.W.fnOf "_law_whatted" "_law_whatted" (defArgs s__law_whatted) (defBody s__law_whatted) (defScope s__law_whatted) .none kV__law_whatted dc__law_whatted pm__law_whatted an__law_whatted cd__law_whatted ct__law_whatted), sl__law_whatted⟩)
    (c__law_whatted : PySem.W.codeIn K cd__law_whatted "_law_whatted" = true)
    (k__law_whatted : PySem.W.keepIn K (.ref f__law_whatted) = true)
    (a__law_deeded : PySem.W.nsIn K mainGlobals "_law_deeded" = some (some (.ref f__law_deeded)))
    (l__law_deeded : K.lookup f__law_deeded = some ⟨oc__law_deeded, od__law_deeded, .func (PySem.W.fnOf "_law_deeded" "_law_deeded" (defArgs s__law_deeded) (defBody s__law_deeded) (defScope s__law_deeded) .none kV__law_deeded dc__law_deeded pm__law_deeded an__law_deeded cd__law_deeded ct__law_deeded), sl__law_deeded⟩)
    (c__law_deeded : PySem.W.codeIn K cd__law_deeded "_law_deeded" = true)
    (k__law_deeded : PySem.W.keepIn K (.ref f__law_deeded) = true)
    (a__law_fixed : PySem.W.nsIn K mainGlobals "_law_fixed" = some (some (.ref f__law_fixed)))
    (l__law_fixed : K.lookup f__law_fixed = some ⟨oc__law_fixed, od__law_fixed, .func (PySem.W.fnOf "_law_fixed" "_law_fixed" (defArgs s__law_fixed) (defBody s__law_fixed) (defScope s__law_fixed) .none kV__law_fixed dc__law_fixed pm__law_fixed an__law_fixed cd__law_fixed ct__law_fixed), sl__law_fixed⟩)
    (c__law_fixed : PySem.W.codeIn K cd__law_fixed "_law_fixed" = true)
    (k__law_fixed : PySem.W.keepIn K (.ref f__law_fixed) = true)
    (a__law_others : PySem.W.nsIn K mainGlobals "_law_others" = some (some (.ref f__law_others)))
    (l__law_others : K.lookup f__law_others = some ⟨oc__law_others, od__law_others, .func (PySem.W.fnOf "_law_others" "_law_others" (defArgs s__law_others) (defBody s__law_others) (defScope s__law_others) .none kV__law_others dc__law_others pm__law_others an__law_others cd__law_others ct__law_others), sl__law_others⟩)
    (c__law_others : PySem.W.codeIn K cd__law_others "_law_others" = true)
    (k__law_others : PySem.W.keepIn K (.ref f__law_others) = true)
    (a__law_near : PySem.W.nsIn K mainGlobals "_law_near" = some (some (.ref f__law_near)))
    (l__law_near : K.lookup f__law_near = some ⟨oc__law_near, od__law_near, .func (PySem.W.fnOf "_law_near" "_law_near" (defArgs s__law_near) (defBody s__law_near) (defScope s__law_near) .none kV__law_near dc__law_near pm__law_near an__law_near cd__law_near ct__law_near), sl__law_near⟩)
    (c__law_near : PySem.W.codeIn K cd__law_near "_law_near" = true)
    (k__law_near : PySem.W.keepIn K (.ref f__law_near) = true)
    (a_law : PySem.W.nsIn K mainGlobals "law" = some (some (.ref f_law)))
    (l_law : K.lookup f_law = some ⟨oc_law, od_law, .func (PySem.W.fnOf "law" "law" (defArgs s_law) (defBody s_law) (defScope s_law) .none kV_law dc_law pm_law an_law cd_law ct_law), sl_law⟩)
    (c_law : PySem.W.codeIn K cd_law "law" = true)
    (k_law : PySem.W.keepIn K (.ref f_law) = true)
    (z_isinstance : PySem.W.nsIn K mainGlobals "isinstance" = some none)
    (z_bool : PySem.W.nsIn K mainGlobals "bool" = some none)
    (z_int : PySem.W.nsIn K mainGlobals "int" = some none)
    (z_all : PySem.W.nsIn K mainGlobals "all" = some none)
    (z_len : PySem.W.nsIn K mainGlobals "len" = some none)
    (z_str : PySem.W.nsIn K mainGlobals "str" = some none)
    (z_ord : PySem.W.nsIn K mainGlobals "ord" = some none)
    (z_tuple : PySem.W.nsIn K mainGlobals "tuple" = some none)
    (z_range : PySem.W.nsIn K mainGlobals "range" = some none)
    (z_zip : PySem.W.nsIn K mainGlobals "zip" = some none)
    (z_list : PySem.W.nsIn K mainGlobals "list" = some none)
    (z_repr : PySem.W.nsIn K mainGlobals "repr" = some none)
    (g__HUNDREDTHS : PySem.W.nsIn K mainGlobals "_HUNDREDTHS" = some (some (.int v__HUNDREDTHS t__HUNDREDTHS)))
    (g_LEVELS : PySem.W.nsIn K mainGlobals "LEVELS" = some (some (.ref k_LEVELS)))
    (h_LEVELS : K.lookup k_LEVELS = some ⟨.type "tuple", none, .seq its_LEVELS n_LEVELS, sl_LEVELS⟩)
    (s_LEVELS : its_LEVELS.size ≤ sizeLine)
    (v_LEVELS : Vals (l_LEVELS.map V.str) its_LEVELS.toList)
    (g_INNERS : PySem.W.nsIn K mainGlobals "INNERS" = some (some (.ref k_INNERS)))
    (h_INNERS : K.lookup k_INNERS = some ⟨.type "dict", none, .dict es_INNERS n_INNERS, #[]⟩)
    (y_INNERS : PySem.W.KeysLit w.params es_INNERS.toList)
    (w_INNERS : (k_INNERS == sysModules) = false)
    (e_INNERS : Ents K es_INNERS.toList T_INNERS)
    (g_SORTS : PySem.W.nsIn K mainGlobals "SORTS" = some (some (.ref k_SORTS)))
    (h_SORTS : K.lookup k_SORTS = some ⟨.type "tuple", none, .seq its_SORTS n_SORTS, sl_SORTS⟩)
    (s_SORTS : its_SORTS.size ≤ sizeLine)
    (v_SORTS : Vals (l_SORTS.map V.str) its_SORTS.toList)
    (g_FORMS : PySem.W.nsIn K mainGlobals "FORMS" = some (some (.ref k_FORMS)))
    (h_FORMS : K.lookup k_FORMS = some ⟨.type "dict", none, .dict es_FORMS n_FORMS, #[]⟩)
    (y_FORMS : PySem.W.KeysLit w.params es_FORMS.toList)
    (w_FORMS : (k_FORMS == sysModules) = false)
    (e_FORMS : Ents K es_FORMS.toList T_FORMS) :
    ∃ fd : FuncData, (∀ (s : Shared) (v : Value), BindsTo s fd ⟨[v], []⟩ [("_law_script", v)]) ∧ ∀ base : Heap, K.In base → base.Ns mainGlobals mg → FnG P w K mg base CX0 14 fa fd ["_law_script"] (toSp K sp_law) := by
  have e := hfa.symm.trans (PySem.W.mg_of X G a_law)
  cases e
  have F_is_whole := fun_mk (st := s_is_whole) l_is_whole c_is_whole k_is_whole
  have A_is_whole : At K mg "is_whole" s_is_whole p_is_whole f_is_whole _ := ⟨F_is_whole, F_is_whole.binds (ps := p_is_whole) (fun _ _ _ _ _ _ us hl => match us, hl with | [_], _ => rfl), PySem.W.mg_of X G a_is_whole⟩
  have F_is_number := fun_mk (st := s_is_number) l_is_number c_is_number k_is_number
  have A_is_number : At K mg "is_number" s_is_number p_is_number f_is_number _ := ⟨F_is_number, F_is_number.binds (ps := p_is_number) (fun _ _ _ _ _ _ us hl => match us, hl with | [_], _ => rfl), PySem.W.mg_of X G a_is_number⟩
  have F_is_small_letter := fun_mk (st := s_is_small_letter) l_is_small_letter c_is_small_letter k_is_small_letter
  have A_is_small_letter : At K mg "is_small_letter" s_is_small_letter p_is_small_letter f_is_small_letter _ := ⟨F_is_small_letter, F_is_small_letter.binds (ps := p_is_small_letter) (fun _ _ _ _ _ _ us hl => match us, hl with | [_], _ => rfl), PySem.W.mg_of X G a_is_small_letter⟩
  have F_is_word := fun_mk (st := s_is_word) l_is_word c_is_word k_is_word
  have A_is_word : At K mg "is_word" s_is_word p_is_word f_is_word _ := ⟨F_is_word, F_is_word.binds (ps := p_is_word) (fun _ _ _ _ _ _ us hl => match us, hl with | [_], _ => rfl), PySem.W.mg_of X G a_is_word⟩
  have F_is_sign := fun_mk (st := s_is_sign) l_is_sign c_is_sign k_is_sign
  have A_is_sign : At K mg "is_sign" s_is_sign p_is_sign f_is_sign _ := ⟨F_is_sign, F_is_sign.binds (ps := p_is_sign) (fun _ _ _ _ _ _ us hl => match us, hl with | [_], _ => rfl), PySem.W.mg_of X G a_is_sign⟩
  have F_is_text_to := fun_mk (st := s_is_text_to) l_is_text_to c_is_text_to k_is_text_to
  have A_is_text_to : At K mg "is_text_to" s_is_text_to p_is_text_to f_is_text_to _ := ⟨F_is_text_to, F_is_text_to.binds (ps := p_is_text_to) (fun _ _ _ _ _ _ us hl => match us, hl with | [_, _], _ => rfl), PySem.W.mg_of X G a_is_text_to⟩
  have F_is_signs := fun_mk (st := s_is_signs) l_is_signs c_is_signs k_is_signs
  have A_is_signs : At K mg "is_signs" s_is_signs p_is_signs f_is_signs _ := ⟨F_is_signs, F_is_signs.binds (ps := p_is_signs) (fun _ _ _ _ _ _ us hl => match us, hl with | [_], _ => rfl), PySem.W.mg_of X G a_is_signs⟩
  have F_is_said := fun_mk (st := s_is_said) l_is_said c_is_said k_is_said
  have A_is_said : At K mg "is_said" s_is_said p_is_said f_is_said _ := ⟨F_is_said, F_is_said.binds (ps := p_is_said) (fun _ _ _ _ _ _ us hl => match us, hl with | [_], _ => rfl), PySem.W.mg_of X G a_is_said⟩
  have F_is_value := fun_mk (st := s_is_value) l_is_value c_is_value k_is_value
  have A_is_value : At K mg "is_value" s_is_value p_is_value f_is_value _ := ⟨F_is_value, F_is_value.binds (ps := p_is_value) (fun _ _ _ _ _ _ us hl => match us, hl with | [_], _ => rfl), PySem.W.mg_of X G a_is_value⟩
  have F_is_pair := fun_mk (st := s_is_pair) l_is_pair c_is_pair k_is_pair
  have A_is_pair : At K mg "is_pair" s_is_pair p_is_pair f_is_pair _ := ⟨F_is_pair, F_is_pair.binds (ps := p_is_pair) (fun _ _ _ _ _ _ us hl => match us, hl with | [_], _ => rfl), PySem.W.mg_of X G a_is_pair⟩
  have F_is_key := fun_mk (st := s_is_key) l_is_key c_is_key k_is_key
  have A_is_key : At K mg "is_key" s_is_key p_is_key f_is_key _ := ⟨F_is_key, F_is_key.binds (ps := p_is_key) (fun _ _ _ _ _ _ us hl => match us, hl with | [_], _ => rfl), PySem.W.mg_of X G a_is_key⟩
  have F_is_name := fun_mk (st := s_is_name) l_is_name c_is_name k_is_name
  have A_is_name : At K mg "is_name" s_is_name p_is_name f_is_name _ := ⟨F_is_name, F_is_name.binds (ps := p_is_name) (fun _ _ _ _ _ _ us hl => match us, hl with | [_], _ => rfl), PySem.W.mg_of X G a_is_name⟩
  have F_rises := fun_mk (st := s_rises) l_rises c_rises k_rises
  have A_rises : At K mg "rises" s_rises p_rises f_rises _ := ⟨F_rises, F_rises.binds (ps := p_rises) (fun _ _ _ _ _ _ us hl => match us, hl with | [_], _ => rfl), PySem.W.mg_of X G a_rises⟩
  have F_are_names := fun_mk (st := s_are_names) l_are_names c_are_names k_are_names
  have A_are_names : At K mg "are_names" s_are_names p_are_names f_are_names _ := ⟨F_are_names, F_are_names.binds (ps := p_are_names) (fun _ _ _ _ _ _ us hl => match us, hl with | [_], _ => rfl), PySem.W.mg_of X G a_are_names⟩
  have F_is_level := fun_mk (st := s_is_level) l_is_level c_is_level k_is_level
  have A_is_level : At K mg "is_level" s_is_level p_is_level f_is_level _ := ⟨F_is_level, F_is_level.binds (ps := p_is_level) (fun _ _ _ _ _ _ us hl => match us, hl with | [_], _ => rfl), PySem.W.mg_of X G a_is_level⟩
  have F_is_share := fun_mk (st := s_is_share) l_is_share c_is_share k_is_share
  have A_is_share : At K mg "is_share" s_is_share p_is_share f_is_share _ := ⟨F_is_share, F_is_share.binds (ps := p_is_share) (fun _ _ _ _ _ _ us hl => match us, hl with | [_], _ => rfl), PySem.W.mg_of X G a_is_share⟩
  have F_is_version := fun_mk (st := s_is_version) l_is_version c_is_version k_is_version
  have A_is_version : At K mg "is_version" s_is_version p_is_version f_is_version _ := ⟨F_is_version, F_is_version.binds (ps := p_is_version) (fun _ _ _ _ _ _ us hl => match us, hl with | [_], _ => rfl), PySem.W.mg_of X G a_is_version⟩
  have F__begins_with_text := fun_mk (st := s__begins_with_text) l__begins_with_text c__begins_with_text k__begins_with_text
  have A__begins_with_text : At K mg "_begins_with_text" s__begins_with_text p__begins_with_text f__begins_with_text _ := ⟨F__begins_with_text, F__begins_with_text.binds (ps := p__begins_with_text) (fun _ _ _ _ _ _ us hl => match us, hl with | [_], _ => rfl), PySem.W.mg_of X G a__begins_with_text⟩
  have F__fits_plainly := fun_mk (st := s__fits_plainly) l__fits_plainly c__fits_plainly k__fits_plainly
  have A__fits_plainly : At K mg "_fits_plainly" s__fits_plainly p__fits_plainly f__fits_plainly _ := ⟨F__fits_plainly, F__fits_plainly.binds (ps := p__fits_plainly) (fun _ _ _ _ _ _ us hl => match us, hl with | [_, _], _ => rfl), PySem.W.mg_of X G a__fits_plainly⟩
  have F__fits_as_named := fun_mk (st := s__fits_as_named) l__fits_as_named c__fits_as_named k__fits_as_named
  have A__fits_as_named : At K mg "_fits_as_named" s__fits_as_named p__fits_as_named f__fits_as_named _ := ⟨F__fits_as_named, F__fits_as_named.binds (ps := p__fits_as_named) (fun _ _ _ _ _ _ us hl => match us, hl with | [_, _], _ => rfl), PySem.W.mg_of X G a__fits_as_named⟩
  have F__is_inner := fun_mk (st := s__is_inner) l__is_inner c__is_inner k__is_inner
  have A__is_inner : At K mg "_is_inner" s__is_inner p__is_inner f__is_inner _ := ⟨F__is_inner, F__is_inner.binds (ps := p__is_inner) (fun _ _ _ _ _ _ us hl => match us, hl with | [_], _ => rfl), PySem.W.mg_of X G a__is_inner⟩
  have F__fit := fun_mk (st := s__fit) l__fit c__fit k__fit
  have A__fit : At K mg "_fit" s__fit p__fit f__fit _ := ⟨F__fit, F__fit.binds (ps := p__fit) (fun _ _ _ _ _ _ us hl => match us, hl with | [_, _], _ => rfl), PySem.W.mg_of X G a__fit⟩
  have F__fits := fun_mk (st := s__fits) l__fits c__fits k__fits
  have A__fits : At K mg "_fits" s__fits p__fits f__fits _ := ⟨F__fits, F__fits.binds (ps := p__fits) (fun _ _ _ _ _ _ us hl => match us, hl with | [_, _], _ => rfl), PySem.W.mg_of X G a__fits⟩
  have F_is_what := fun_mk (st := s_is_what) l_is_what c_is_what k_is_what
  have A_is_what : At K mg "is_what" s_is_what p_is_what f_is_what _ := ⟨F_is_what, F_is_what.binds (ps := p_is_what) (fun _ _ _ _ _ _ us hl => match us, hl with | [_], _ => rfl), PySem.W.mg_of X G a_is_what⟩
  have F_is_deed := fun_mk (st := s_is_deed) l_is_deed c_is_deed k_is_deed
  have A_is_deed : At K mg "is_deed" s_is_deed p_is_deed f_is_deed _ := ⟨F_is_deed, F_is_deed.binds (ps := p_is_deed) (fun _ _ _ _ _ _ us hl => match us, hl with | [_], _ => rfl), PySem.W.mg_of X G a_is_deed⟩
  have F_key_of := fun_mk (st := s_key_of) l_key_of c_key_of k_key_of
  have A_key_of : At K mg "key_of" s_key_of p_key_of f_key_of _ := ⟨F_key_of, F_key_of.binds (ps := p_key_of) (fun _ _ _ _ _ _ us hl => match us, hl with | [_], _ => rfl), PySem.W.mg_of X G a_key_of⟩
  have F_what_of := fun_mk (st := s_what_of) l_what_of c_what_of k_what_of
  have A_what_of : At K mg "what_of" s_what_of p_what_of f_what_of _ := ⟨F_what_of, F_what_of.binds (ps := p_what_of) (fun _ _ _ _ _ _ us hl => match us, hl with | [_], _ => rfl), PySem.W.mg_of X G a_what_of⟩
  have F_doc_named := fun_mk (st := s_doc_named) l_doc_named c_doc_named k_doc_named
  have A_doc_named : At K mg "doc_named" s_doc_named p_doc_named f_doc_named _ := ⟨F_doc_named, F_doc_named.binds (ps := p_doc_named) (fun _ _ _ _ _ _ us hl => match us, hl with | [_, _], _ => rfl), PySem.W.mg_of X G a_doc_named⟩
  have F_doc_of := fun_mk (st := s_doc_of) l_doc_of c_doc_of k_doc_of
  have A_doc_of : At K mg "doc_of" s_doc_of p_doc_of f_doc_of _ := ⟨F_doc_of, F_doc_of.binds (ps := p_doc_of) (fun _ _ _ _ _ _ us hl => match us, hl with | [_], _ => rfl), PySem.W.mg_of X G a_doc_of⟩
  have F__law_feed := fun_mk (st := s__law_feed) l__law_feed c__law_feed k__law_feed
  have A__law_feed : At K mg "_law_feed" s__law_feed p__law_feed f__law_feed _ := ⟨F__law_feed, F__law_feed.binds (ps := p__law_feed) (fun _ _ _ _ _ _ us hl => match us, hl with | [_], _ => rfl), PySem.W.mg_of X G a__law_feed⟩
  have F__law_draw := fun_mk (st := s__law_draw) l__law_draw c__law_draw k__law_draw
  have A__law_draw : At K mg "_law_draw" s__law_draw p__law_draw f__law_draw _ := ⟨F__law_draw, F__law_draw.binds (ps := p__law_draw) (fun _ _ _ _ _ _ us hl => match us, hl with | [_, _], _ => rfl), PySem.W.mg_of X G a__law_draw⟩
  have F__law_odd := fun_mk (st := s__law_odd) l__law_odd c__law_odd k__law_odd
  have A__law_odd : At K mg "_law_odd" s__law_odd p__law_odd f__law_odd _ := ⟨F__law_odd, F__law_odd.binds (ps := p__law_odd) (fun _ _ _ _ _ _ us hl => match us, hl with | [_], _ => rfl), PySem.W.mg_of X G a__law_odd⟩
  have F__law_bent := fun_mk (st := s__law_bent) l__law_bent c__law_bent k__law_bent
  have A__law_bent : At K mg "_law_bent" s__law_bent p__law_bent f__law_bent _ := ⟨F__law_bent, F__law_bent.binds (ps := p__law_bent) (fun _ _ _ _ _ _ us hl => match us, hl with | [_, _], _ => rfl), PySem.W.mg_of X G a__law_bent⟩
  have F__law_whole := fun_mk (st := s__law_whole) l__law_whole c__law_whole k__law_whole
  have A__law_whole : At K mg "_law_whole" s__law_whole p__law_whole f__law_whole _ := ⟨F__law_whole, F__law_whole.binds (ps := p__law_whole) (fun _ _ _ _ _ _ us hl => match us, hl with | [_], _ => rfl), PySem.W.mg_of X G a__law_whole⟩
  have F__law_counted := fun_mk (st := s__law_counted) l__law_counted c__law_counted k__law_counted
  have A__law_counted : At K mg "_law_counted" s__law_counted p__law_counted f__law_counted _ := ⟨F__law_counted, F__law_counted.binds (ps := p__law_counted) (fun _ _ _ _ _ _ us hl => match us, hl with | [_], _ => rfl), PySem.W.mg_of X G a__law_counted⟩
  have F__law_worded := fun_mk (st := s__law_worded) l__law_worded c__law_worded k__law_worded
  have A__law_worded : At K mg "_law_worded" s__law_worded p__law_worded f__law_worded _ := ⟨F__law_worded, F__law_worded.binds (ps := p__law_worded) (fun _ _ _ _ _ _ us hl => match us, hl with | [_], _ => rfl), PySem.W.mg_of X G a__law_worded⟩
  have F__law_texted := fun_mk (st := s__law_texted) l__law_texted c__law_texted k__law_texted
  have A__law_texted : At K mg "_law_texted" s__law_texted p__law_texted f__law_texted _ := ⟨F__law_texted, F__law_texted.binds (ps := p__law_texted) (fun _ _ _ _ _ _ us hl => match us, hl with | [_, _], _ => rfl), PySem.W.mg_of X G a__law_texted⟩
  have F__law_keyed := fun_mk (st := s__law_keyed) l__law_keyed c__law_keyed k__law_keyed
  have A__law_keyed : At K mg "_law_keyed" s__law_keyed p__law_keyed f__law_keyed _ := ⟨F__law_keyed, F__law_keyed.binds (ps := p__law_keyed) (fun _ _ _ _ _ _ us hl => match us, hl with | [_], _ => rfl), PySem.W.mg_of X G a__law_keyed⟩
  have F__law_named := fun_mk (st := s__law_named) l__law_named c__law_named k__law_named
  have A__law_named : At K mg "_law_named" s__law_named p__law_named f__law_named _ := ⟨F__law_named, F__law_named.binds (ps := p__law_named) (fun _ _ _ _ _ _ us hl => match us, hl with | [_], _ => rfl), PySem.W.mg_of X G a__law_named⟩
  have F__law_all_named := fun_mk (st := s__law_all_named) l__law_all_named c__law_all_named k__law_all_named
  have A__law_all_named : At K mg "_law_all_named" s__law_all_named p__law_all_named f__law_all_named _ := ⟨F__law_all_named, F__law_all_named.binds (ps := p__law_all_named) (fun _ _ _ _ _ _ us hl => match us, hl with | [_], _ => rfl), PySem.W.mg_of X G a__law_all_named⟩
  have F__law_leveled := fun_mk (st := s__law_leveled) l__law_leveled c__law_leveled k__law_leveled
  have A__law_leveled : At K mg "_law_leveled" s__law_leveled p__law_leveled f__law_leveled _ := ⟨F__law_leveled, F__law_leveled.binds (ps := p__law_leveled) (fun _ _ _ _ _ _ us hl => match us, hl with | [_], _ => rfl), PySem.W.mg_of X G a__law_leveled⟩
  have F__law_versioned := fun_mk (st := s__law_versioned) l__law_versioned c__law_versioned k__law_versioned
  have A__law_versioned : At K mg "_law_versioned" s__law_versioned p__law_versioned f__law_versioned _ := ⟨F__law_versioned, F__law_versioned.binds (ps := p__law_versioned) (fun _ _ _ _ _ _ us hl => match us, hl with | [_], _ => rfl), PySem.W.mg_of X G a__law_versioned⟩
  have F__law_inner := fun_mk (st := s__law_inner) l__law_inner c__law_inner k__law_inner
  have A__law_inner : At K mg "_law_inner" s__law_inner p__law_inner f__law_inner _ := ⟨F__law_inner, F__law_inner.binds (ps := p__law_inner) (fun _ _ _ _ _ _ us hl => match us, hl with | [_], _ => rfl), PySem.W.mg_of X G a__law_inner⟩
  have F__law_part_is := fun_mk (st := s__law_part_is) l__law_part_is c__law_part_is k__law_part_is
  have A__law_part_is : At K mg "_law_part_is" s__law_part_is p__law_part_is f__law_part_is _ := ⟨F__law_part_is, F__law_part_is.binds (ps := p__law_part_is) (fun _ _ _ _ _ _ us hl => match us, hl with | [_, _], _ => rfl), PySem.W.mg_of X G a__law_part_is⟩
  have F__law_whatted := fun_mk (st := s__law_whatted) l__law_whatted c__law_whatted k__law_whatted
  have A__law_whatted : At K mg "_law_whatted" s__law_whatted p__law_whatted f__law_whatted _ := ⟨F__law_whatted, F__law_whatted.binds (ps := p__law_whatted) (fun _ _ _ _ _ _ us hl => match us, hl with | [_], _ => rfl), PySem.W.mg_of X G a__law_whatted⟩
  have F__law_deeded := fun_mk (st := s__law_deeded) l__law_deeded c__law_deeded k__law_deeded
  have A__law_deeded : At K mg "_law_deeded" s__law_deeded p__law_deeded f__law_deeded _ := ⟨F__law_deeded, F__law_deeded.binds (ps := p__law_deeded) (fun _ _ _ _ _ _ us hl => match us, hl with | [_], _ => rfl), PySem.W.mg_of X G a__law_deeded⟩
  have F__law_fixed := fun_mk (st := s__law_fixed) l__law_fixed c__law_fixed k__law_fixed
  have A__law_fixed : At K mg "_law_fixed" s__law_fixed p__law_fixed f__law_fixed _ := ⟨F__law_fixed, F__law_fixed.binds (ps := p__law_fixed) (fun _ _ _ _ _ _ us hl => match us, hl with | [], _ => rfl), PySem.W.mg_of X G a__law_fixed⟩
  have F__law_others := fun_mk (st := s__law_others) l__law_others c__law_others k__law_others
  have A__law_others : At K mg "_law_others" s__law_others p__law_others f__law_others _ := ⟨F__law_others, F__law_others.binds (ps := p__law_others) (fun _ _ _ _ _ _ us hl => match us, hl with | [], _ => rfl), PySem.W.mg_of X G a__law_others⟩
  have F__law_near := fun_mk (st := s__law_near) l__law_near c__law_near k__law_near
  have A__law_near : At K mg "_law_near" s__law_near p__law_near f__law_near _ := ⟨F__law_near, F__law_near.binds (ps := p__law_near) (fun _ _ _ _ _ _ us hl => match us, hl with | [_, _], _ => rfl), PySem.W.mg_of X G a__law_near⟩
  have F_law := fun_mk (st := s_law) l_law c_law k_law
  have A_law : At K mg "law" s_law p_law fa _ := ⟨F_law, F_law.binds (ps := p_law) (fun _ _ _ _ _ _ us hl => match us, hl with | [_], _ => rfl), PySem.W.mg_of X G a_law⟩
  have Z_isinstance := PySem.W.mg_none_of X G z_isinstance
  have Z_bool := PySem.W.mg_none_of X G z_bool
  have Z_int := PySem.W.mg_none_of X G z_int
  have Z_all := PySem.W.mg_none_of X G z_all
  have Z_len := PySem.W.mg_none_of X G z_len
  have Z_str := PySem.W.mg_none_of X G z_str
  have Z_ord := PySem.W.mg_none_of X G z_ord
  have Z_tuple := PySem.W.mg_none_of X G z_tuple
  have Z_range := PySem.W.mg_none_of X G z_range
  have Z_zip := PySem.W.mg_none_of X G z_zip
  have Z_list := PySem.W.mg_none_of X G z_list
  have Z_repr := PySem.W.mg_none_of X G z_repr
  have C__HUNDREDTHS := PySem.W.mg_of X G g__HUNDREDTHS
  have C_LEVELS : CstT K mg "LEVELS" l_LEVELS k_LEVELS _ := CstT.of (PySem.W.mg_of X G g_LEVELS) h_LEVELS s_LEVELS v_LEVELS
  have C_INNERS : CstD K w mg "INNERS" T_INNERS k_INNERS := CstD.of (PySem.W.mg_of X G g_INNERS) h_INNERS y_INNERS w_INNERS e_INNERS
  have C_SORTS : CstT K mg "SORTS" l_SORTS k_SORTS _ := CstT.of (PySem.W.mg_of X G g_SORTS) h_SORTS s_SORTS v_SORTS
  have C_FORMS : CstD K w mg "FORMS" T_FORMS k_FORMS := CstD.of (PySem.W.mg_of X G g_FORMS) h_FORMS y_FORMS w_FORMS e_FORMS
  refine ⟨PySem.W.fnOf "law" "law" (defArgs s_law) (defBody s_law) (defScope s_law) .none kV_law dc_law pm_law an_law cd_law ct_law, fun s v => .of_eq rfl, fun base _ _ => ?_⟩
  have R_is_whole : FnG P w K mg base CX0 1 f_is_whole _ p_is_whole (toSp K sp_is_whole) := ok_is_whole A_is_whole (z_isinstance := Z_isinstance) (z_bool := Z_bool) (z_int := Z_int)
  have R_is_number : FnG P w K mg base CX0 2 f_is_number _ p_is_number (toSp K sp_is_number) := ok_is_number A_is_number (a_is_whole := A_is_whole) (G_is_whole := R_is_whole)
  have R_is_small_letter : FnG P w K mg base CX0 1 f_is_small_letter _ p_is_small_letter (toSp K sp_is_small_letter) := ok_is_small_letter A_is_small_letter
  have R_is_word : FnG P w K mg base CX0 2 f_is_word _ p_is_word (toSp K sp_is_word) := ok_is_word A_is_word (a_is_small_letter := A_is_small_letter) (G_is_small_letter := R_is_small_letter) (z_all := Z_all) (z_len := Z_len) (z_isinstance := Z_isinstance) (z_str := Z_str)
  have R_is_sign : FnG P w K mg base CX0 1 f_is_sign _ p_is_sign (toSp K sp_is_sign) := ok_is_sign A_is_sign (z_ord := Z_ord) (c__HUNDREDTHS := C__HUNDREDTHS)
  have R_is_text_to : FnG P w K mg base CX0 2 f_is_text_to _ p_is_text_to (toSp K sp_is_text_to) := ok_is_text_to A_is_text_to (a_is_sign := A_is_sign) (G_is_sign := R_is_sign) (z_all := Z_all) (z_len := Z_len) (z_isinstance := Z_isinstance) (z_str := Z_str)
  have R_is_signs : FnG P w K mg base CX0 3 f_is_signs _ p_is_signs (toSp K sp_is_signs) := ok_is_signs A_is_signs (a_is_text_to := A_is_text_to) (G_is_text_to := R_is_text_to)
  have R_is_said : FnG P w K mg base CX0 3 f_is_said _ p_is_said (toSp K sp_is_said) := ok_is_said A_is_said (a_is_text_to := A_is_text_to) (G_is_text_to := R_is_text_to)
  have R_is_value : FnG P w K mg base CX0 4 f_is_value _ p_is_value (toSp K sp_is_value) := ok_is_value A_is_value (a_is_signs := A_is_signs) (G_is_signs := R_is_signs) (a_is_whole := A_is_whole) (G_is_whole := R_is_whole)
  have R_is_pair : FnG P w K mg base CX0 1 f_is_pair _ p_is_pair (toSp K sp_is_pair) := ok_is_pair A_is_pair (z_len := Z_len) (z_isinstance := Z_isinstance) (z_tuple := Z_tuple)
  have R_is_key : FnG P w K mg base CX0 3 f_is_key _ p_is_key (toSp K sp_is_key) := ok_is_key A_is_key (a_is_number := A_is_number) (G_is_number := R_is_number) (a_is_word := A_is_word) (G_is_word := R_is_word) (a_is_pair := A_is_pair) (G_is_pair := R_is_pair)
  have R_is_name : FnG P w K mg base CX0 4 f_is_name _ p_is_name (toSp K sp_is_name) := ok_is_name A_is_name (a_is_number := A_is_number) (G_is_number := R_is_number) (a_is_key := A_is_key) (G_is_key := R_is_key) (a_is_pair := A_is_pair) (G_is_pair := R_is_pair)
  have R_rises : FnG P w K mg base CX0 1 f_rises _ p_rises (toSp K sp_rises) := ok_rises A_rises (z_all := Z_all) (z_range := Z_range) (z_len := Z_len)
  have R_are_names : FnG P w K mg base CX0 5 f_are_names _ p_are_names (toSp K sp_are_names) := ok_are_names A_are_names (a_rises := A_rises) (G_rises := R_rises) (a_is_name := A_is_name) (G_is_name := R_is_name) (z_all := Z_all) (z_len := Z_len) (z_isinstance := Z_isinstance) (z_tuple := Z_tuple)
  have R_is_level : FnG P w K mg base CX0 1 f_is_level _ p_is_level (toSp K sp_is_level) := ok_is_level A_is_level (z_isinstance := Z_isinstance) (z_str := Z_str) (c_LEVELS := C_LEVELS)
  have R_is_share : FnG P w K mg base CX0 4 f_is_share _ p_is_share (toSp K sp_is_share) := ok_is_share A_is_share (a_is_key := A_is_key) (G_is_key := R_is_key)
  have R_is_version : FnG P w K mg base CX0 5 f_is_version _ p_is_version (toSp K sp_is_version) := ok_is_version A_is_version (a_rises := A_rises) (G_rises := R_rises) (a_is_share := A_is_share) (G_is_share := R_is_share) (z_all := Z_all) (z_isinstance := Z_isinstance) (z_tuple := Z_tuple)
  have R__begins_with_text : FnG P w K mg base CX0 1 f__begins_with_text _ p__begins_with_text (toSp K sp__begins_with_text) := ok__begins_with_text A__begins_with_text (z_isinstance := Z_isinstance) (z_str := Z_str) (z_len := Z_len) (z_tuple := Z_tuple)
  have R__fits_plainly : FnG P w K mg base CX0 5 f__fits_plainly _ p__fits_plainly (toSp K sp__fits_plainly) := ok__fits_plainly A__fits_plainly (a_is_value := A_is_value) (G_is_value := R_is_value) (a_is_said := A_is_said) (G_is_said := R_is_said) (a_is_signs := A_is_signs) (G_is_signs := R_is_signs) (a_is_level := A_is_level) (G_is_level := R_is_level) (a_is_word := A_is_word) (G_is_word := R_is_word)
  have R__fits_as_named : FnG P w K mg base CX0 6 f__fits_as_named _ p__fits_as_named (toSp K sp__fits_as_named) := ok__fits_as_named A__fits_as_named (a_is_key := A_is_key) (G_is_key := R_is_key) (a_is_name := A_is_name) (G_is_name := R_is_name) (a_are_names := A_are_names) (G_are_names := R_are_names)
  have R0_fits : FnG P w K mg base CX0 7 f__fits _ p__fits (toSp K (spFits noInn okNoInn)) := step__fits (k := 6) (by decide) A__fits (sp__is_inner := fun _ _ _ => False) (a__fits_as_named := A__fits_as_named) (G__fits_as_named := R__fits_as_named) (a__fits_plainly := A__fits_plainly) (G__fits_plainly := R__fits_plainly) (a__is_inner := A__is_inner) (G__is_inner := none_any) (z_isinstance := Z_isinstance) (z_bool := Z_bool) (z_str := Z_str) (c_SORTS := C_SORTS) _ ar_fitsG (rd_fitsG _ fun d m Q h => absurd rfl h)
  have R0_fit : FnG P w K mg base CX0 8 f__fit _ p__fit (toSp K (spFit noInn okNoInn)) := step__fit (k := 7) (by decide) A__fit (sp__fits := spFits noInn okNoInn) (a__fits := A__fits) (G__fits := R0_fits) (z_all := Z_all) (z_zip := Z_zip) (z_len := Z_len) _ ar_fitG (rd_fitG _ fun k d m Q hk ok q => ⟨k, d, rfl, hk, ok, q⟩)
  have R__is_inner : FnG P w K mg base CX0 9 f__is_inner _ p__is_inner (toSp K sp__is_inner) := step__is_inner (k := 8) (by decide) A__is_inner (sp__fit := spFit noInn okNoInn) (a__fit := A__fit) (G__fit := R0_fit) (a__begins_with_text := A__begins_with_text) (G__begins_with_text := R__begins_with_text) (c_INNERS := C_INNERS) _ ar1 (rd__is_inner _ fun ds m Q h => h)
  have R__fits : FnG P w K mg base CX0 10 f__fits _ p__fits (toSp K sp__fits) := step__fits (k := 9) (by decide) A__fits (sp__is_inner := sp__is_inner) (a__fits_as_named := A__fits_as_named) (G__fits_as_named := R__fits_as_named) (a__fits_plainly := A__fits_plainly) (G__fits_plainly := R__fits_plainly) (a__is_inner := A__is_inner) (G__is_inner := R__is_inner) (z_isinstance := Z_isinstance) (z_bool := Z_bool) (z_str := Z_str) (c_SORTS := C_SORTS) _ ar_fitsG (rd_fitsG _ fun d m Q _ ok q => ⟨d, rfl, ok, q⟩)
  have R__fit : FnG P w K mg base CX0 11 f__fit _ p__fit (toSp K sp__fit) := step__fit (k := 10) (by decide) A__fit (sp__fits := sp__fits) (a__fits := A__fits) (G__fits := R__fits) (z_all := Z_all) (z_zip := Z_zip) (z_len := Z_len) _ ar_fitG (rd_fitG _ fun k d m Q hk ok q => ⟨k, d, rfl, hk, ok, q⟩)


  have R_is_what : FnG P w K mg base CX0 12 f_is_what _ p_is_what (toSp K sp_is_what) := ok_is_what A_is_what (a__fit := A__fit) (G__fit := R__fit) (a__begins_with_text := A__begins_with_text) (G__begins_with_text := R__begins_with_text) (c_FORMS := C_FORMS)
  have R_is_deed : FnG P w K mg base CX0 13 f_is_deed _ p_is_deed (toSp K sp_is_deed) := ok_is_deed A_is_deed (a_is_what := A_is_what) (G_is_what := R_is_what) (a_is_version := A_is_version) (G_is_version := R_is_version) (a_is_number := A_is_number) (G_is_number := R_is_number) (a_is_word := A_is_word) (G_is_word := R_is_word) (z_len := Z_len) (z_isinstance := Z_isinstance) (z_tuple := Z_tuple)
  have R_key_of : FnG P w K mg base CX0 1 f_key_of _ p_key_of (toSp K sp_key_of) := ok_key_of A_key_of
  have R_what_of : FnG P w K mg base CX0 1 f_what_of _ p_what_of (toSp K sp_what_of) := ok_what_of A_what_of
  have R_doc_named : FnG P w K mg base CX0 1 f_doc_named _ p_doc_named (toSp K sp_doc_named) := ok_doc_named A_doc_named
  have R_doc_of : FnG P w K mg base CX0 2 f_doc_of _ p_doc_of (toSp K sp_doc_of) := ok_doc_of A_doc_of (a_doc_named := A_doc_named) (G_doc_named := R_doc_named) (a_key_of := A_key_of) (G_key_of := R_key_of) (a_what_of := A_what_of) (G_what_of := R_what_of)
  have R__law_feed : FnG P w K mg base CX0 1 f__law_feed _ p__law_feed (toSp K sp__law_feed) := ok__law_feed A__law_feed (z_list := Z_list)
  have R__law_draw : FnG P w K mg base CX0 1 f__law_draw _ p__law_draw (toSp K sp__law_draw) := ok__law_draw A__law_draw (z_len := Z_len)
  have R__law_odd : FnG P w K mg base CX0 2 f__law_odd _ p__law_odd (toSp K sp__law_odd) := ok__law_odd A__law_odd (a__law_draw := A__law_draw) (G__law_draw := R__law_draw)
  have R__law_bent : FnG P w K mg base CX0 11 f__law_bent _ p__law_bent (toSp K sp__law_bent) := all_bent A__law_bent (fun k sp sp' hk ar rd G => step__law_bent (hk := hk) (sp := sp) (sp' := sp') (ar := ar) (rd := rd) (G__law_bent := G) A__law_bent (a__law_odd := A__law_odd) (G__law_odd := R__law_odd) (a__law_draw := A__law_draw) (G__law_draw := R__law_draw) (z_isinstance := Z_isinstance) (z_int := Z_int) (z_str := Z_str) (z_tuple := Z_tuple) (z_list := Z_list) (z_len := Z_len)) 8 (by decide)
  have R__law_whole : FnG P w K mg base CX0 1 f__law_whole _ p__law_whole (toSp K sp__law_whole) := ok__law_whole A__law_whole (z_isinstance := Z_isinstance) (z_bool := Z_bool) (z_int := Z_int)
  have R__law_counted : FnG P w K mg base CX0 2 f__law_counted _ p__law_counted (toSp K sp__law_counted) := ok__law_counted A__law_counted (a__law_whole := A__law_whole) (G__law_whole := R__law_whole)
  have R__law_worded : FnG P w K mg base CX0 1 f__law_worded _ p__law_worded (toSp K sp__law_worded) := ok__law_worded A__law_worded (z_ord := Z_ord) (z_len := Z_len) (z_isinstance := Z_isinstance) (z_str := Z_str)
  have R__law_texted : FnG P w K mg base CX0 1 f__law_texted _ p__law_texted (toSp K sp__law_texted) := ok__law_texted A__law_texted (z_ord := Z_ord) (z_len := Z_len) (z_isinstance := Z_isinstance) (z_str := Z_str)
  have R__law_keyed : FnG P w K mg base CX0 3 f__law_keyed _ p__law_keyed (toSp K sp__law_keyed) := ok__law_keyed A__law_keyed (a__law_counted := A__law_counted) (G__law_counted := R__law_counted) (a__law_worded := A__law_worded) (G__law_worded := R__law_worded) (z_len := Z_len) (z_isinstance := Z_isinstance) (z_tuple := Z_tuple)
  have R__law_named : FnG P w K mg base CX0 4 f__law_named _ p__law_named (toSp K sp__law_named) := ok__law_named A__law_named (a__law_counted := A__law_counted) (G__law_counted := R__law_counted) (a__law_keyed := A__law_keyed) (G__law_keyed := R__law_keyed) (z_len := Z_len) (z_isinstance := Z_isinstance) (z_tuple := Z_tuple)
  have R__law_all_named : FnG P w K mg base CX0 5 f__law_all_named _ p__law_all_named (toSp K sp__law_all_named) := ok__law_all_named A__law_all_named (a__law_named := A__law_named) (G__law_named := R__law_named) (z_range := Z_range) (z_len := Z_len) (z_isinstance := Z_isinstance) (z_tuple := Z_tuple)
  have R__law_leveled : FnG P w K mg base CX0 1 f__law_leveled _ p__law_leveled (toSp K sp__law_leveled) := ok__law_leveled A__law_leveled (z_isinstance := Z_isinstance) (z_str := Z_str)
  have R__law_versioned : FnG P w K mg base CX0 4 f__law_versioned _ p__law_versioned (toSp K sp__law_versioned) := ok__law_versioned A__law_versioned (a__law_keyed := A__law_keyed) (G__law_keyed := R__law_keyed) (z_range := Z_range) (z_len := Z_len) (z_isinstance := Z_isinstance) (z_tuple := Z_tuple)
  have R__law_inner : FnG P w K mg base CX0 6 f__law_inner _ p__law_inner (toSp K sp__law_inner) := ok__law_inner A__law_inner (a__law_texted := A__law_texted) (G__law_texted := R__law_texted) (a__law_named := A__law_named) (G__law_named := R__law_named) (a__law_all_named := A__law_all_named) (G__law_all_named := R__law_all_named) (z_len := Z_len) (z_isinstance := Z_isinstance) (z_str := Z_str) (z_tuple := Z_tuple)
  have R__law_part_is : FnG P w K mg base CX0 7 f__law_part_is _ p__law_part_is (toSp K sp__law_part_is) := ok__law_part_is A__law_part_is (a__law_worded := A__law_worded) (G__law_worded := R__law_worded) (a__law_leveled := A__law_leveled) (G__law_leveled := R__law_leveled) (a__law_inner := A__law_inner) (G__law_inner := R__law_inner) (a__law_texted := A__law_texted) (G__law_texted := R__law_texted) (a__law_whole := A__law_whole) (G__law_whole := R__law_whole) (a__law_all_named := A__law_all_named) (G__law_all_named := R__law_all_named) (a__law_named := A__law_named) (G__law_named := R__law_named) (a__law_keyed := A__law_keyed) (G__law_keyed := R__law_keyed) (z_isinstance := Z_isinstance) (z_str := Z_str) (z_bool := Z_bool)
  have R__law_whatted : FnG P w K mg base CX0 8 f__law_whatted _ p__law_whatted (toSp K sp__law_whatted) := ok__law_whatted A__law_whatted (a__law_part_is := A__law_part_is) (G__law_part_is := R__law_part_is) (z_range := Z_range) (z_len := Z_len) (z_isinstance := Z_isinstance) (z_str := Z_str) (z_tuple := Z_tuple)
  have R__law_deeded : FnG P w K mg base CX0 9 f__law_deeded _ p__law_deeded (toSp K sp__law_deeded) := ok__law_deeded A__law_deeded (a__law_whatted := A__law_whatted) (G__law_whatted := R__law_whatted) (a__law_versioned := A__law_versioned) (G__law_versioned := R__law_versioned) (a__law_counted := A__law_counted) (G__law_counted := R__law_counted) (a__law_worded := A__law_worded) (G__law_worded := R__law_worded) (z_len := Z_len) (z_isinstance := Z_isinstance) (z_tuple := Z_tuple)
  have R__law_fixed : FnG P w K mg base CX0 1 f__law_fixed _ p__law_fixed (toSp K sp__law_fixed) := ok__law_fixed A__law_fixed
  have R__law_others : FnG P w K mg base CX0 1 f__law_others _ p__law_others (toSp K sp__law_others) := ok__law_others A__law_others
  have R__law_near : FnG P w K mg base CX0 12 f__law_near _ p__law_near (toSp K sp__law_near) := ok__law_near A__law_near (a__law_draw := A__law_draw) (G__law_draw := R__law_draw) (a__law_bent := A__law_bent) (G__law_bent := R__law_bent) (z_list := Z_list)
  have R_law : FnG P w K mg base CX0 14 fa _ p_law (toSp K sp_law) := ok_law A_law (a_is_what := A_is_what) (G_is_what := R_is_what) (a_doc_of := A_doc_of) (G_doc_of := R_doc_of) (a_key_of := A_key_of) (G_key_of := R_key_of) (a_is_deed := A_is_deed) (G_is_deed := R_is_deed) (a__law_deeded := A__law_deeded) (G__law_deeded := R__law_deeded) (a__law_whatted := A__law_whatted) (G__law_whatted := R__law_whatted) (a__law_near := A__law_near) (G__law_near := R__law_near) (a__law_draw := A__law_draw) (G__law_draw := R__law_draw) (a__law_fixed := A__law_fixed) (G__law_fixed := R__law_fixed) (a__law_others := A__law_others) (G__law_others := R__law_others) (a__law_feed := A__law_feed) (G__law_feed := R__law_feed) (z_repr := Z_repr) (z_range := Z_range) (z_len := Z_len) (z_isinstance := Z_isinstance) (z_tuple := Z_tuple)
  exact R_law
end K02

set_option Elab.async false
set_option linter.all false
set_option maxRecDepth 100000
set_option maxHeartbeats 4000000
open PySem PySem.W PyProof.Rows
set_option maxHeartbeats 0 in
theorem PySem.Challenge.cw_coeditry_k02_whats_and_deeds_holds : PySem.Challenge.rw_coeditry_k02_whats_and_deeds.Holds := by
  w_on; o_law; k_head; (case hw => w_witness2)
  k_fill
  refine DL.walk_ofG (l := PySem.Challenge.rw_coeditry_k02_whats_and_deeds) (n := 63) (k := 14) (x := "_law_script") (sp := fun K => DL.toSp K K02.sp_law) rfl (by decide) rfl ⟨⟨rfl, by decide, by decide⟩, rfl⟩ (fun w h Y => PySem.W.kIn_of Y) ?F (fun K H a ns hl _ hS => DL.asked_of (fun ns m Q h1 h2 => ⟨ns, rfl, h1, h2⟩) K H a ns hl hS)
  case F =>
    intro w mg fa h KX G hmg
    refine' K02.all_mk KX G hmg ?a_is_whole ?l_is_whole ?c_is_whole ?k_is_whole ?a_is_number ?l_is_number ?c_is_number ?k_is_number ?a_is_small_letter ?l_is_small_letter ?c_is_small_letter ?k_is_small_letter ?a_is_word ?l_is_word ?c_is_word ?k_is_word ?a_is_sign ?l_is_sign ?c_is_sign ?k_is_sign ?a_is_text_to ?l_is_text_to ?c_is_text_to ?k_is_text_to ?a_is_signs ?l_is_signs ?c_is_signs ?k_is_signs ?a_is_said ?l_is_said ?c_is_said ?k_is_said ?a_is_value ?l_is_value ?c_is_value ?k_is_value ?a_is_pair ?l_is_pair ?c_is_pair ?k_is_pair ?a_is_key ?l_is_key ?c_is_key ?k_is_key ?a_is_name ?l_is_name ?c_is_name ?k_is_name ?a_rises ?l_rises ?c_rises ?k_rises ?a_are_names ?l_are_names ?c_are_names ?k_are_names ?a_is_level ?l_is_level ?c_is_level ?k_is_level ?a_is_share ?l_is_share ?c_is_share ?k_is_share ?a_is_version ?l_is_version ?c_is_version ?k_is_version ?a__begins_with_text ?l__begins_with_text ?c__begins_with_text ?k__begins_with_text ?a__fits_plainly ?l__fits_plainly ?c__fits_plainly ?k__fits_plainly ?a__fits_as_named ?l__fits_as_named ?c__fits_as_named ?k__fits_as_named ?a__is_inner ?l__is_inner ?c__is_inner ?k__is_inner ?a__fit ?l__fit ?c__fit ?k__fit ?a__fits ?l__fits ?c__fits ?k__fits ?a_is_what ?l_is_what ?c_is_what ?k_is_what ?a_is_deed ?l_is_deed ?c_is_deed ?k_is_deed ?a_key_of ?l_key_of ?c_key_of ?k_key_of ?a_what_of ?l_what_of ?c_what_of ?k_what_of ?a_doc_named ?l_doc_named ?c_doc_named ?k_doc_named ?a_doc_of ?l_doc_of ?c_doc_of ?k_doc_of ?a__law_feed ?l__law_feed ?c__law_feed ?k__law_feed ?a__law_draw ?l__law_draw ?c__law_draw ?k__law_draw ?a__law_odd ?l__law_odd ?c__law_odd ?k__law_odd ?a__law_bent ?l__law_bent ?c__law_bent ?k__law_bent ?a__law_whole ?l__law_whole ?c__law_whole ?k__law_whole ?a__law_counted ?l__law_counted ?c__law_counted ?k__law_counted ?a__law_worded ?l__law_worded ?c__law_worded ?k__law_worded ?a__law_texted ?l__law_texted ?c__law_texted ?k__law_texted ?a__law_keyed ?l__law_keyed ?c__law_keyed ?k__law_keyed ?a__law_named ?l__law_named ?c__law_named ?k__law_named ?a__law_all_named ?l__law_all_named ?c__law_all_named ?k__law_all_named ?a__law_leveled ?l__law_leveled ?c__law_leveled ?k__law_leveled ?a__law_versioned ?l__law_versioned ?c__law_versioned ?k__law_versioned ?a__law_inner ?l__law_inner ?c__law_inner ?k__law_inner ?a__law_part_is ?l__law_part_is ?c__law_part_is ?k__law_part_is ?a__law_whatted ?l__law_whatted ?c__law_whatted ?k__law_whatted ?a__law_deeded ?l__law_deeded ?c__law_deeded ?k__law_deeded ?a__law_fixed ?l__law_fixed ?c__law_fixed ?k__law_fixed ?a__law_others ?l__law_others ?c__law_others ?k__law_others ?a__law_near ?l__law_near ?c__law_near ?k__law_near ?a_law ?l_law ?c_law ?k_law ?z_isinstance ?z_bool ?z_int ?z_all ?z_len ?z_str ?z_ord ?z_tuple ?z_range ?z_zip ?z_list ?z_repr ?g__HUNDREDTHS ?g_LEVELS ?h_LEVELS ?s_LEVELS ?v_LEVELS ?g_INNERS ?h_INNERS ?y_INNERS ?w_INNERS ?e_INNERS ?g_SORTS ?h_SORTS ?s_SORTS ?v_SORTS ?g_FORMS ?h_FORMS ?y_FORMS ?w_FORMS ?e_FORMS
    (case a_is_whole => k_is)
    (case l_is_whole => k_is)
    (case c_is_whole => k_is)
    (case k_is_whole => k_is)
    (case a_is_number => k_is)
    (case l_is_number => k_is)
    (case c_is_number => k_is)
    (case k_is_number => k_is)
    (case a_is_small_letter => k_is)
    (case l_is_small_letter => k_is)
    (case c_is_small_letter => k_is)
    (case k_is_small_letter => k_is)
    (case a_is_word => k_is)
    (case l_is_word => k_is)
    (case c_is_word => k_is)
    (case k_is_word => k_is)
    (case a_is_sign => k_is)
    (case l_is_sign => k_is)
    (case c_is_sign => k_is)
    (case k_is_sign => k_is)
    (case a_is_text_to => k_is)
    (case l_is_text_to => k_is)
    (case c_is_text_to => k_is)
    (case k_is_text_to => k_is)
    (case a_is_signs => k_is)
    (case l_is_signs => k_is)
    (case c_is_signs => k_is)
    (case k_is_signs => k_is)
    (case a_is_said => k_is)
    (case l_is_said => k_is)
    (case c_is_said => k_is)
    (case k_is_said => k_is)
    (case a_is_value => k_is)
    (case l_is_value => k_is)
    (case c_is_value => k_is)
    (case k_is_value => k_is)
    (case a_is_pair => k_is)
    (case l_is_pair => k_is)
    (case c_is_pair => k_is)
    (case k_is_pair => k_is)
    (case a_is_key => k_is)
    (case l_is_key => k_is)
    (case c_is_key => k_is)
    (case k_is_key => k_is)
    (case a_is_name => k_is)
    (case l_is_name => k_is)
    (case c_is_name => k_is)
    (case k_is_name => k_is)
    (case a_rises => k_is)
    (case l_rises => k_is)
    (case c_rises => k_is)
    (case k_rises => k_is)
    (case a_are_names => k_is)
    (case l_are_names => k_is)
    (case c_are_names => k_is)
    (case k_are_names => k_is)
    (case a_is_level => k_is)
    (case l_is_level => k_is)
    (case c_is_level => k_is)
    (case k_is_level => k_is)
    (case a_is_share => k_is)
    (case l_is_share => k_is)
    (case c_is_share => k_is)
    (case k_is_share => k_is)
    (case a_is_version => k_is)
    (case l_is_version => k_is)
    (case c_is_version => k_is)
    (case k_is_version => k_is)
    (case a__begins_with_text => k_is)
    (case l__begins_with_text => k_is)
    (case c__begins_with_text => k_is)
    (case k__begins_with_text => k_is)
    (case a__fits_plainly => k_is)
    (case l__fits_plainly => k_is)
    (case c__fits_plainly => k_is)
    (case k__fits_plainly => k_is)
    (case a__fits_as_named => k_is)
    (case l__fits_as_named => k_is)
    (case c__fits_as_named => k_is)
    (case k__fits_as_named => k_is)
    (case a__is_inner => k_is)
    (case l__is_inner => k_is)
    (case c__is_inner => k_is)
    (case k__is_inner => k_is)
    (case a__fit => k_is)
    (case l__fit => k_is)
    (case c__fit => k_is)
    (case k__fit => k_is)
    (case a__fits => k_is)
    (case l__fits => k_is)
    (case c__fits => k_is)
    (case k__fits => k_is)
    (case a_is_what => k_is)
    (case l_is_what => k_is)
    (case c_is_what => k_is)
    (case k_is_what => k_is)
    (case a_is_deed => k_is)
    (case l_is_deed => k_is)
    (case c_is_deed => k_is)
    (case k_is_deed => k_is)
    (case a_key_of => k_is)
    (case l_key_of => k_is)
    (case c_key_of => k_is)
    (case k_key_of => k_is)
    (case a_what_of => k_is)
    (case l_what_of => k_is)
    (case c_what_of => k_is)
    (case k_what_of => k_is)
    (case a_doc_named => k_is)
    (case l_doc_named => k_is)
    (case c_doc_named => k_is)
    (case k_doc_named => k_is)
    (case a_doc_of => k_is)
    (case l_doc_of => k_is)
    (case c_doc_of => k_is)
    (case k_doc_of => k_is)
    (case a__law_feed => k_is)
    (case l__law_feed => k_is)
    (case c__law_feed => k_is)
    (case k__law_feed => k_is)
    (case a__law_draw => k_is)
    (case l__law_draw => k_is)
    (case c__law_draw => k_is)
    (case k__law_draw => k_is)
    (case a__law_odd => k_is)
    (case l__law_odd => k_is)
    (case c__law_odd => k_is)
    (case k__law_odd => k_is)
    (case a__law_bent => k_is)
    (case l__law_bent => k_is)
    (case c__law_bent => k_is)
    (case k__law_bent => k_is)
    (case a__law_whole => k_is)
    (case l__law_whole => k_is)
    (case c__law_whole => k_is)
    (case k__law_whole => k_is)
    (case a__law_counted => k_is)
    (case l__law_counted => k_is)
    (case c__law_counted => k_is)
    (case k__law_counted => k_is)
    (case a__law_worded => k_is)
    (case l__law_worded => k_is)
    (case c__law_worded => k_is)
    (case k__law_worded => k_is)
    (case a__law_texted => k_is)
    (case l__law_texted => k_is)
    (case c__law_texted => k_is)
    (case k__law_texted => k_is)
    (case a__law_keyed => k_is)
    (case l__law_keyed => k_is)
    (case c__law_keyed => k_is)
    (case k__law_keyed => k_is)
    (case a__law_named => k_is)
    (case l__law_named => k_is)
    (case c__law_named => k_is)
    (case k__law_named => k_is)
    (case a__law_all_named => k_is)
    (case l__law_all_named => k_is)
    (case c__law_all_named => k_is)
    (case k__law_all_named => k_is)
    (case a__law_leveled => k_is)
    (case l__law_leveled => k_is)
    (case c__law_leveled => k_is)
    (case k__law_leveled => k_is)
    (case a__law_versioned => k_is)
    (case l__law_versioned => k_is)
    (case c__law_versioned => k_is)
    (case k__law_versioned => k_is)
    (case a__law_inner => k_is)
    (case l__law_inner => k_is)
    (case c__law_inner => k_is)
    (case k__law_inner => k_is)
    (case a__law_part_is => k_is)
    (case l__law_part_is => k_is)
    (case c__law_part_is => k_is)
    (case k__law_part_is => k_is)
    (case a__law_whatted => k_is)
    (case l__law_whatted => k_is)
    (case c__law_whatted => k_is)
    (case k__law_whatted => k_is)
    (case a__law_deeded => k_is)
    (case l__law_deeded => k_is)
    (case c__law_deeded => k_is)
    (case k__law_deeded => k_is)
    (case a__law_fixed => k_is)
    (case l__law_fixed => k_is)
    (case c__law_fixed => k_is)
    (case k__law_fixed => k_is)
    (case a__law_others => k_is)
    (case l__law_others => k_is)
    (case c__law_others => k_is)
    (case k__law_others => k_is)
    (case a__law_near => k_is)
    (case l__law_near => k_is)
    (case c__law_near => k_is)
    (case k__law_near => k_is)
    (case a_law => k_is)
    (case l_law => k_is)
    (case c_law => k_is)
    (case k_law => k_is)
    (case z_isinstance => k_is)
    (case z_bool => k_is)
    (case z_int => k_is)
    (case z_all => k_is)
    (case z_len => k_is)
    (case z_str => k_is)
    (case z_ord => k_is)
    (case z_tuple => k_is)
    (case z_range => k_is)
    (case z_zip => k_is)
    (case z_list => k_is)
    (case z_repr => k_is)
    (case g__HUNDREDTHS => k_is)
    (case g_LEVELS => k_is)
    (case h_LEVELS => k_is)
    (case s_LEVELS => decide)
    (case v_LEVELS => exact DL.strs_of (by decide +kernel))
    (case g_INNERS => k_is)
    (case h_INNERS => k_is)
    (case y_INNERS => k_keys)
    (case w_INNERS => decide)
    (case e_INNERS => (refine' (DL.Ents.cons ?k1 rfl ?l1 ?z1 ?s1 (DL.Ents.cons ?k2 rfl ?l2 ?z2 ?s2 DL.Ents.nil)); (case k1 => rfl); (case l1 => k_is); (case z1 => decide); (case s1 => decide +kernel); (case k2 => rfl); (case l2 => k_is); (case z2 => decide); (case s2 => decide +kernel)))
    (case g_SORTS => k_is)
    (case h_SORTS => k_is)
    (case s_SORTS => decide)
    (case v_SORTS => exact DL.strs_of (by decide +kernel))
    (case g_FORMS => k_is)
    (case h_FORMS => k_is)
    (case y_FORMS => k_keys)
    (case w_FORMS => decide)
    (case e_FORMS => (refine' (DL.Ents.cons ?k1 rfl ?l1 ?z1 ?s1 (DL.Ents.cons ?k2 rfl ?l2 ?z2 ?s2 (DL.Ents.cons ?k3 rfl ?l3 ?z3 ?s3 (DL.Ents.cons ?k4 rfl ?l4 ?z4 ?s4 (DL.Ents.cons ?k5 rfl ?l5 ?z5 ?s5 (DL.Ents.cons ?k6 rfl ?l6 ?z6 ?s6 (DL.Ents.cons ?k7 rfl ?l7 ?z7 ?s7 (DL.Ents.cons ?k8 rfl ?l8 ?z8 ?s8 (DL.Ents.cons ?k9 rfl ?l9 ?z9 ?s9 (DL.Ents.cons ?k10 rfl ?l10 ?z10 ?s10 (DL.Ents.cons ?k11 rfl ?l11 ?z11 ?s11 (DL.Ents.cons ?k12 rfl ?l12 ?z12 ?s12 (DL.Ents.cons ?k13 rfl ?l13 ?z13 ?s13 (DL.Ents.cons ?k14 rfl ?l14 ?z14 ?s14 (DL.Ents.cons ?k15 rfl ?l15 ?z15 ?s15 (DL.Ents.cons ?k16 rfl ?l16 ?z16 ?s16 (DL.Ents.cons ?k17 rfl ?l17 ?z17 ?s17 (DL.Ents.cons ?k18 rfl ?l18 ?z18 ?s18 DL.Ents.nil)))))))))))))))))); (case k1 => rfl); (case l1 => k_is); (case z1 => decide); (case s1 => decide +kernel); (case k2 => rfl); (case l2 => k_is); (case z2 => decide); (case s2 => decide +kernel); (case k3 => rfl); (case l3 => k_is); (case z3 => decide); (case s3 => decide +kernel); (case k4 => rfl); (case l4 => k_is); (case z4 => decide); (case s4 => decide +kernel); (case k5 => rfl); (case l5 => k_is); (case z5 => decide); (case s5 => decide +kernel); (case k6 => rfl); (case l6 => k_is); (case z6 => decide); (case s6 => decide +kernel); (case k7 => rfl); (case l7 => k_is); (case z7 => decide); (case s7 => decide +kernel); (case k8 => rfl); (case l8 => k_is); (case z8 => decide); (case s8 => decide +kernel); (case k9 => rfl); (case l9 => k_is); (case z9 => decide); (case s9 => decide +kernel); (case k10 => rfl); (case l10 => k_is); (case z10 => decide); (case s10 => decide +kernel); (case k11 => rfl); (case l11 => k_is); (case z11 => decide); (case s11 => decide +kernel); (case k12 => rfl); (case l12 => k_is); (case z12 => decide); (case s12 => decide +kernel); (case k13 => rfl); (case l13 => k_is); (case z13 => decide); (case s13 => decide +kernel); (case k14 => rfl); (case l14 => k_is); (case z14 => decide); (case s14 => decide +kernel); (case k15 => rfl); (case l15 => k_is); (case z15 => decide); (case s15 => decide +kernel); (case k16 => rfl); (case l16 => k_is); (case z16 => decide); (case s16 => decide +kernel); (case k17 => rfl); (case l17 => k_is); (case z17 => decide); (case s17 => decide +kernel); (case k18 => rfl); (case l18 => k_is); (case z18 => decide); (case s18 => decide +kernel)))
