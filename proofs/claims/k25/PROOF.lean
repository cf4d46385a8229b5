import PyProof.Rows.All
import HandS.ForMost
import HandS.ForExc
import HandS.Wide
import HandS.WideBits
import HandS.ExcIs
import HandS.IsInst
import HandS.Style
import HandS.NoneIn
import HandS.Zip
import HandS.Rev
import HandS.EndBits
import HandS.Defaults
import HandS.MakeKw
import HandS.MakeKwOnly
import HandS.TryMany
import HandS.RaiseFrom
import HandS.SuiteRaise
import HandS.TryOnly
import HandS.WrittenGet
import HandS.AnyAll
import HandS.TupAny
import HandS.Conv
import HandS.SetKeys
import KE.GoesMore
import KE.GoesEnum
import PySem.Challenge.RW_hushlink_k25_limbs
set_option Elab.async false
set_option linter.all false
set_option maxRecDepth 100000
set_option maxHeartbeats 4000000
/-! FO: programs as plain functions of data, with objects. A value is a datum D; an object is a number, its fields stand in a store; a def is a function of a floor, arguments and a store; a local name holds a datum, an own (fresh, unshared) list, or a caught exception. -/
namespace L2.FO
open PySem PySem.Spec PyProof.Rows

inductive D where
  | none
  | bool (b : Bool)
  | int (i : Int)
  | str (s : Str)
  | list (ds : List D)
  | tuple (ds : List D)
  /-- the script -/
  | scr (ns : List Int)
  /-- an object -/
  | obj (n : Nat)
  /-- a dict -/
  | dic (ks : List Key) (ds : List D)
mutual
def toP : D → PyData
  | .none => .none
  | .bool b => .bool b
  | .int i => .int i
  | .str s => .str s
  | .list ds => .list (toPs ds)
  | .tuple ds => .tuple (toPs ds)
  | .scr _ => .dict []
  | .obj _ => .dict []
  | .dic _ _ => .dict []
def toPs : List D → List PyData
  | [] => []
  | d :: ds => toP d :: toPs ds
end
/-- an object: its class and fields, by places; a list that is shared and changes -/
inductive Rec where
  | ins (cls : Nat) (fs : List (Option D))
  | lst (ds : List D)
abbrev Store := List Rec
/-- what may be seen: the things that never change, and where the objects stand -/
structure Vw where
  h : Hp
  ad : List Addr
structure Le (G G' : Vw) : Prop where
  h : Same G.h G'.h
  ad : ∃ l, G'.ad = G.ad ++ l
theorem Le.refl (G : Vw) : Le G G := ⟨.refl _, [], (List.append_nil _).symm⟩
theorem Le.trans {G G' G2 : Vw} (a : Le G G') (b : Le G' G2) : Le G G2 := ⟨a.h.trans b.h, by
  obtain ⟨l, e⟩ := a.ad
  obtain ⟨m, e2⟩ := b.ad
  exact ⟨l ++ m, by rw [e2, e, List.append_assoc]⟩⟩
theorem Le.get {G G' : Vw} (s : Le G G') {n : Nat} {a : Addr} (e : G.ad[n]? = some a) : G'.ad[n]? = some a := by
  obtain ⟨l, e2⟩ := s.ad
  rw [e2, List.getElem?_append_left (List.getElem?_eq_some_iff.mp e).1, e]
theorem Le.len {G G' : Vw} (s : Le G G') : G.ad.length ≤ G'.ad.length := by
  obtain ⟨l, e2⟩ := s.ad
  rw [e2, List.length_append]
  omega

/-! ### a value stands for a datum -/
mutual
inductive Rp (K : PySem.W.Frag) (G : Vw) : V → D → Prop
  | non : Rp K G .non .none
  | bl (b : Bool) : Rp K G (.bl b) (.bool b)
  | int (i : Int) : Rp K G (.int i) (.int i)
  | str (x : Str) : Rp K G (.str x) (.str x)
  | lst {a : Addr} {xs : List V} {ds : List D} : Rd G.h a (.lst xs) → Rps K G xs ds → Rp K G (.ref a) (.list ds)
  | tup {a : Addr} {xs : List V} {ds : List D} : SqT K G.h a xs → Rps K G xs ds → Rp K G (.ref a) (.tuple ds)
  | scr {a : Addr} {ns : List Int} : SqL K G.h a (ns.map V.int) → Rp K G (.ref a) (.scr ns)
  | obj {a : Addr} {n : Nat} : G.ad[n]? = some a → Rp K G (.ref a) (.obj n)
  | dic {a : Addr} {ks : List Key} {vs : List V} {ds : List D} : Rd G.h a (.dK (ks.zip vs)) → ks.length = ds.length → Rps K G vs ds → Rp K G (.ref a) (.dic ks ds)
inductive Rps (K : PySem.W.Frag) (G : Vw) : List V → List D → Prop
  | nil : Rps K G [] []
  | cons {v : V} {vs : List V} {d : D} {ds : List D} : Rp K G v d → Rps K G vs ds → Rps K G (v :: vs) (d :: ds)
end

theorem Rd.same {H H' : Hp} {a : Addr} {u : HO} (s : Same H H') (h : Rd H a u) : Rd H' a u := by
  rcases h with h | ⟨o, h⟩
  · exact .inl (s _ _ h)
  · exact .inr ⟨o, s _ _ h⟩
theorem SqT.same {K : PySem.W.Frag} {H H' : Hp} {a : Addr} {xs : List V} (s : Same H H') (h : SqT K H a xs) : SqT K H' a xs := by
  rcases h with h | h
  · exact .inl (Rd.same s h)
  · exact .inr h
section
variable {K : PySem.W.Frag} {H : Hp} {G G' : Vw}
mutual
theorem Rp.same (s : Le G G') : ∀ {d : D} {v : V}, Rp K G v d → Rp K G' v d
  | _, _, .non => .non
  | _, _, .bl b => .bl b
  | _, _, .int i => .int i
  | _, _, .str x => .str x
  | _, _, .lst h hs => .lst (Rd.same s.h h) (Rps.same s hs)
  | _, _, .tup h hs => .tup (SqT.same s.h h) (Rps.same s hs)
  | _, _, .scr h => .scr (Same.seq s.h h)
  | _, _, .obj h => .obj (s.get h)
  | _, _, .dic h l hs => .dic (Rd.same s.h h) l (Rps.same s hs)
theorem Rps.same (s : Le G G') : ∀ {ds : List D} {vs : List V}, Rps K G vs ds → Rps K G' vs ds
  | _, _, .nil => .nil
  | _, _, .cons h hs => .cons (Rp.same s h) (Rps.same s hs)
end
mutual
theorem Rp.dp (s : Same G.h H) : ∀ {d : D} {v : V}, Rp K G v d → (toP d).canLay0 = true → Dp K H v (toP d)
  | _, _, .non, _ => .non
  | _, _, .bl b, _ => .bl b
  | _, _, .int i, _ => .int i
  | _, _, .str x, _ => .str x
  | _, _, .lst h hs, c => .lst (.inl (Rd.same s h)) (Rps.dp s hs c)
  | _, _, .tup h hs, c => .tup (SqT.same s h) (Rps.dp s hs c)
  | _, _, .scr h, c => absurd c Bool.false_ne_true
  | _, _, .obj h, c => absurd c Bool.false_ne_true
  | _, _, .dic _ _ _, c => absurd c Bool.false_ne_true
theorem Rps.dp (s : Same G.h H) : ∀ {ds : List D} {vs : List V}, Rps K G vs ds → PyData.canLayAll0 (toPs ds) = true → DpAll K H vs (toPs ds)
  | _, _, .nil, _ => .nil
  | d :: ds, _, .cons h hs, c => by
    have c' : ((toP d).canLay0 && PyData.canLayAll0 (toPs ds)) = true := c
    rw [Bool.and_eq_true] at c'
    exact .cons (Rp.dp s h c'.1) (Rps.dp s hs c'.2)
end
theorem shaped_lay {d : PyData} (h : SeqAt.shaped d = true) : d.canLay0 = true := by
  unfold SeqAt.shaped at h
  rw [Bool.and_eq_true] at h
  exact h.1
theorem Rps.length : ∀ {vs : List V} {ds : List D}, Rps K G vs ds → vs.length = ds.length
  | _, _, .nil => rfl
  | _, _, .cons _ hs => by rw [List.length_cons, List.length_cons, Rps.length hs]
theorem Rps.get : ∀ {vs : List V} {ds : List D} {i : Nat} {d : D}, Rps K G vs ds → ds[i]? = some d → ∃ v, vs[i]? = some v ∧ Rp K G v d
  | _, _, _, _, .nil, e => by simp at e
  | _, _, 0, _, .cons h _, e => by simp at e; subst e; exact ⟨_, rfl, h⟩
  | _, _, i + 1, d, .cons _ hs, e => by
    obtain ⟨v, h1, h2⟩ := Rps.get (i := i) (d := d) hs (by simpa using e)
    exact ⟨v, by simpa using h1, h2⟩
theorem Rps.append : ∀ {vs ws : List V} {ds es : List D}, Rps K G vs ds → Rps K G ws es → Rps K G (vs ++ ws) (ds ++ es)
  | _, _, _, _, .nil, h => h
  | _, _, _, _, .cons h hs, g => .cons h (Rps.append hs g)
theorem Rps.take : ∀ {vs : List V} {ds : List D} (n : Nat), Rps K G vs ds → Rps K G (vs.take n) (ds.take n)
  | _, _, 0, _ => .nil
  | _, _, _ + 1, .nil => .nil
  | _, _, n + 1, .cons h hs => .cons h (Rps.take n hs)
theorem Rps.drop : ∀ {vs : List V} {ds : List D} (n : Nat), Rps K G vs ds → Rps K G (vs.drop n) (ds.drop n)
  | _, _, 0, h => h
  | _, _, _ + 1, .nil => .nil
  | _, _, n + 1, .cons _ hs => Rps.drop n hs
theorem Rps.set {v : V} {d : D} (h : Rp K G v d) : ∀ {vs : List V} {ds : List D} (n : Nat), Rps K G vs ds → Rps K G (vs.set n v) (ds.set n d)
  | _, _, _, .nil => .nil
  | _, _, 0, .cons _ hs => .cons h hs
  | _, _, n + 1, .cons g hs => .cons g (Rps.set h n hs)
theorem Rps.reverse : ∀ {vs : List V} {ds : List D}, Rps K G vs ds → Rps K G vs.reverse ds.reverse
  | _, _, .nil => .nil
  | _, _, .cons h hs => by
    rw [List.reverse_cons, List.reverse_cons]
    exact (Rps.reverse hs).append (.cons h .nil)
theorem Rps.rep : ∀ {vs : List V} {ds : List D} (n : Nat), Rps K G vs ds → Rps K G (List.replicate n vs).flatten (List.replicate n ds).flatten
  | _, _, 0, _ => .nil
  | vs, ds, n + 1, h => by
    rw [List.replicate_succ, List.replicate_succ, List.flatten_cons, List.flatten_cons]
    exact h.append (Rps.rep n h)
/-- ints -/
theorem Rps.ints : ∀ {ns : List Int} {vs : List V}, Rps K G vs (ns.map D.int) → vs = ns.map V.int
  | [], _, .nil => rfl
  | n :: ns, _, .cons h hs => by
    cases h
    rw [Rps.ints hs]
    rfl
theorem Rps.of_ints : ∀ (ns : List Int), Rps K G (ns.map V.int) (ns.map D.int)
  | [] => .nil
  | n :: ns => .cons (.int n) (Rps.of_ints ns)
theorem Rps.bools : ∀ {ns : List Bool} {vs : List V}, Rps K G vs (ns.map D.bool) → vs = ns.map V.bl
  | [], _, .nil => rfl
  | n :: ns, _, .cons h hs => by
    cases h
    rw [Rps.bools hs]
    rfl
theorem Rps.strs : ∀ {ns : List Str} {vs : List V}, Rps K G vs (ns.map D.str) → vs = ns.map V.str
  | [], _, .nil => rfl
  | n :: ns, _, .cons h hs => by
    cases h
    rw [Rps.strs hs]
    rfl
/-- no list within: it stands in every heap -/
def scal : D → Bool
  | .none => true
  | .bool _ => true
  | .int _ => true
  | .str _ => true
  | _ => false
theorem Rp.scal {d : D} {v : V} (h : Rp K G v d) (s : FO.scal d = true) (G' : Vw) : Rp K G' v d := by
  cases h with
  | non => exact .non
  | bl b => exact .bl b
  | int i => exact .int i
  | str x => exact .str x
  | _ => exact absurd s Bool.false_ne_true
theorem Rps.scal : ∀ {ds : List D} {vs : List V}, Rps K G vs ds → ds.all FO.scal = true → ∀ G' : Vw, Rps K G' vs ds
  | _, _, .nil, _, _ => .nil
  | d :: ds, _, .cons h hs, s, G' => by
    rw [List.all_cons, Bool.and_eq_true] at s
    exact .cons (h.scal s.1 G') (Rps.scal hs s.2 G')
mutual
def old (n : Nat) : D → Bool
  | .list ds => olds n ds
  | .tuple ds => olds n ds
  | .dic _ ds => olds n ds
  | .obj m => decide (m < n)
  | _ => true
def olds (n : Nat) : List D → Bool
  | [] => true
  | d :: ds => old n d && olds n ds
end
mutual
theorem Rp.old {h : Hp} {l m : List Addr} {n : Nat} (hn : n ≤ l.length) : ∀ {d : D} {v : V}, Rp K ⟨h, l ++ m⟩ v d → FO.old n d = true → Rp K ⟨h, l⟩ v d
  | _, _, .non, _ => .non
  | _, _, .bl b, _ => .bl b
  | _, _, .int i, _ => .int i
  | _, _, .str x, _ => .str x
  | _, _, .lst h hs, o => .lst h (Rps.old hn hs o)
  | _, _, .tup h hs, o => .tup h (Rps.old hn hs o)
  | _, _, .scr h, _ => .scr h
  | _, _, .obj (n := k) e, o => .obj (by
    have o : decide (k < n) = true := o
    have hk : k < l.length := Nat.lt_of_lt_of_le (of_decide_eq_true o) hn
    have e : (l ++ m)[k]? = some _ := e
    rw [List.getElem?_append_left hk] at e
    exact e)
  | _, _, .dic h q hs, o => .dic h q (Rps.old hn hs o)
theorem Rps.old {h : Hp} {l m : List Addr} {n : Nat} (hn : n ≤ l.length) : ∀ {ds : List D} {vs : List V}, Rps K ⟨h, l ++ m⟩ vs ds → FO.olds n ds = true → Rps K ⟨h, l⟩ vs ds
  | _, _, .nil, _ => .nil
  | d :: ds, _, .cons a hs, o => by
    have o : (FO.old n d && FO.olds n ds) = true := o
    rw [Bool.and_eq_true] at o
    exact .cons (Rp.old hn a o.1) (Rps.old hn hs o.2)
end
end

/-! ### results, names -/
inductive Res (α : Type) where
  | ok (a : α)
  | ex (n : Nat)
  | bad
def Res.bind {α β : Type} (r : Res α) (k : α → Res β) : Res β := match r with
  | .ok a => k a
  | .ex n => .ex n
  | .bad => .bad
def Res.map {α β : Type} (f : α → β) (r : Res α) : Res β := r.bind fun a => .ok (f a)
/-- .. with the store that is left -/
inductive Rs (α : Type) where
  | ok (a : α) (S : Store)
  | ex (n : Nat) (S : Store)
  | bad
def Rs.bind {α β : Type} (r : Rs α) (k : α → Store → Rs β) : Rs β := match r with
  | .ok a S => k a S
  | .ex n S => .ex n S
  | .bad => .bad
inductive Sl where
  | no
  | val (d : D)
  | own (ds : List D)
  | exc (n : Nat)
/-- a body's state: its names, the store, the floor (objects below it stay as they are) -/
structure Env where
  sl : List Sl
  st : Store
  fl : Nat
def Env.set (e : Env) (i : Nat) (x : Sl) : Env := ⟨e.sl.set i x, e.st, e.fl⟩
abbrev Env.to (e : Env) (S : Store) : Env := ⟨e.sl, S, e.fl⟩

/-! ### the classes -/
structure CT where
  ca : Nat → Addr
  cnt : Nat
  fl : Nat → List Str
def cntS {α : Type} (l : List (Option α)) : Nat := (l.filter Option.isSome).length
/-- an object as it stands -/
def RecOk (K : PySem.W.Frag) (T : CT) (G : Vw) (H : Hp) (a : Addr) : Rec → Prop
  | .ins c rs => c < T.cnt ∧ rs.length = (T.fl c).length ∧ ∃ dx fs, H a = some (.ins (T.ca c) dx fs) ∧ fs.length ≤ cntS rs ∧ (∀ (i : Nat) (x : Str) (d : D), (T.fl c)[i]? = some x → rs[i]? = some (some d) → ∃ v, fs.lookup x = some v ∧ Rp K G v d) ∧
    (∀ (i : Nat) (x : Str), (T.fl c)[i]? = some x → rs[i]? = some none → fs.lookup x = none) ∧ (∀ x, x ∉ T.fl c → fs.lookup x = none)
  | .lst ds => ∃ vs, H a = some (.lst vs) ∧ Rps K G vs ds
structure OR (K : PySem.W.Frag) (T : CT) (G : Vw) (H : Hp) (S : Store) : Prop where
  ln : G.ad.length = S.length
  nd : G.ad.Nodup
  ok : ∀ (n : Nat) (a : Addr) (r : Rec), G.ad[n]? = some a → S[n]? = some r → RecOk K T G H a r
/-- from the floor on, no object is held to be without change -/
def NoF (fl : Nat) (G : Vw) : Prop := ∀ (n : Nat) (a : Addr), fl ≤ n → G.ad[n]? = some a → G.h a = none

/-! ### heaps that grow: (G, H) to (G', H'); G is what may be seen -/
structure Ext (G : Vw) (H : Hp) (G' : Vw) (H' : Hp) : Prop where
  hh : Same H H'
  gg : Same G.h G'.h
  ad : G'.ad = G.ad
  gh : Same G'.h H'
  fr : ∀ a o, G'.h a = some o → (∃ o', G.h a = some o') ∨ H a = none
theorem Ext.le {G G' : Vw} {H H' : Hp} (e : Ext G H G' H') : Le G G' := ⟨e.gg, [], by rw [e.ad, List.append_nil]⟩
/-- .. objects from the floor on may change, new ones may come -/
structure ExtM (fl : Nat) (G : Vw) (H : Hp) (G' : Vw) (H' : Hp) : Prop where
  hs : ∀ a o, H a = some o → (∀ n, fl ≤ n → G.ad[n]? ≠ some a) → H' a = some o
  hx : ∀ a, H a ≠ none → H' a ≠ none
  gg : Le G G'
  gh : Same G'.h H'
  fr : ∀ a o, G'.h a = some o → (∃ o', G.h a = some o') ∨ H a = none
  an : ∀ n a, G.ad.length ≤ n → G'.ad[n]? = some a → H a = none
section
variable {G G' G2 : Vw} {H H' H2 : Hp} {K : PySem.W.Frag} {T : CT} {S : Store} {fl : Nat}
theorem Ext.refl (s : Same G.h H) : Ext G H G H := ⟨.refl _, .refl _, rfl, s, fun _ o e => .inl ⟨o, e⟩⟩
theorem Ext.trans (a : Ext G H G' H') (b : Ext G' H' G2 H2) : Ext G H G2 H2 := ⟨a.hh.trans b.hh, a.gg.trans b.gg, b.ad.trans a.ad, b.gh, fun x o e => by
  rcases b.fr x o e with ⟨o', e'⟩ | e'
  · exact a.fr x o' e'
  · exact .inr (a.hh.free e')⟩
theorem Ext.m (a : Ext G H G' H') : ExtM fl G H G' H' := ⟨fun x o e _ => a.hh x o e, fun x e => by
  cases q : H x with
  | none => exact absurd q e
  | some o =>
    rw [a.hh x o q]
    exact Option.some_ne_none _, a.le, a.gh, a.fr, fun n x hn e => by
  rw [a.ad, List.getElem?_eq_none hn] at e
  exact absurd e.symm (Option.some_ne_none _)⟩
theorem ExtM.refl (s : Same G.h H) : ExtM fl G H G H := (Ext.refl s).m
theorem ExtM.trans (a : ExtM fl G H G' H') (b : ExtM fl G' H' G2 H2) : ExtM fl G H G2 H2 where
  hs x o e h := b.hs x o (a.hs x o e h) fun n hn q => by
    by_cases hl : n < G.ad.length
    · have q2 : G'.ad[n]? = some (G.ad[n]) := a.gg.get (List.getElem?_eq_getElem hl)
      rw [q2] at q
      exact h n hn (by rw [List.getElem?_eq_getElem hl]; exact q)
    · have := a.an n x (Nat.le_of_not_lt hl) q
      rw [e] at this
      cases this
  hx x e := b.hx x (a.hx x e)
  gg := a.gg.trans b.gg
  gh := b.gh
  fr x o e := by
    rcases b.fr x o e with ⟨o', e'⟩ | e'
    · exact a.fr x o' e'
    · right
      cases q : H x with
      | none => rfl
      | some o' => exact absurd e' (a.hx x (by rw [q]; intro z; cases z))
  an n x hn e := by
    by_cases hl : n < G'.ad.length
    · have q2 : G2.ad[n]? = some (G'.ad[n]) := b.gg.get (List.getElem?_eq_getElem hl)
      rw [q2] at e
      cases e
      exact a.an n _ hn (List.getElem?_eq_getElem hl)
    · have := b.an n x (Nat.le_of_not_lt hl) e
      cases q : H x with
      | none => rfl
      | some o' => exact absurd this (a.hx x (by rw [q]; intro z; cases z))
theorem ExtM.free (a : ExtM fl G H G' H') {x : Addr} (h : H' x = none) : H x = none := by
  cases q : H x with
  | none => rfl
  | some o' => exact absurd h (a.hx x (by rw [q]; intro z; cases z))
theorem RecOk.here {a : Addr} {r : Rec} (h : RecOk K T G H a r) : H a ≠ none := by
  cases r with
  | ins c rs =>
    obtain ⟨_, _, dx, fs, e, _⟩ := h
    rw [e]
    exact Option.some_ne_none _
  | lst ds =>
    obtain ⟨vs, e, _⟩ := h
    rw [e]
    exact Option.some_ne_none _
theorem OR.here (o : OR K T G H S) {n : Nat} {a : Addr} (h : G.ad[n]? = some a) : ∃ r, S[n]? = some r ∧ RecOk K T G H a r := by
  have hl : n < S.length := by
    rw [← o.ln]
    exact (List.getElem?_eq_some_iff.mp h).1
  exact ⟨_, List.getElem?_eq_getElem hl, o.ok n a _ h (List.getElem?_eq_getElem hl)⟩
theorem OR.at (o : OR K T G H S) {n : Nat} {r : Rec} (h : S[n]? = some r) : ∃ a, G.ad[n]? = some a ∧ RecOk K T G H a r := by
  have hl : n < G.ad.length := by
    rw [o.ln]
    exact (List.getElem?_eq_some_iff.mp h).1
  exact ⟨_, List.getElem?_eq_getElem hl, o.ok n _ r (List.getElem?_eq_getElem hl) h⟩
theorem OR.mem (o : OR K T G H S) {a : Addr} (h : a ∈ G.ad) : H a ≠ none := by
  obtain ⟨n, hn⟩ := List.mem_iff_getElem?.mp h
  obtain ⟨r, _, k⟩ := o.here hn
  exact k.here
theorem RecOk.mono {a : Addr} {r : Rec} (h : RecOk K T G H a r) (s : Le G G') (e : ∀ o, H a = some o → H' a = some o) : RecOk K T G' H' a r := by
  cases r with
  | ins c rs =>
    obtain ⟨h0, h00, dx, fs, h1, h2, h3, h4, h5⟩ := h
    exact ⟨h0, h00, dx, fs, e _ h1, h2, fun i x d q1 q2 => let ⟨v, q3, q4⟩ := h3 i x d q1 q2; ⟨v, q3, q4.same s⟩, h4, h5⟩
  | lst ds =>
    obtain ⟨vs, h1, h2⟩ := h
    exact ⟨vs, e _ h1, h2.same s⟩
theorem OR.ext (o : OR K T G H S) (e : Ext G H G' H') : OR K T G' H' S := ⟨by rw [e.ad]; exact o.ln, by rw [e.ad]; exact o.nd, fun n a r h1 h2 => by
  rw [e.ad] at h1
  exact (o.ok n a r h1 h2).mono e.le fun _ q => e.hh _ _ q⟩
theorem NoF.ext (o : OR K T G H S) (n0 : NoF fl G) (e : Ext G H G' H') : NoF fl G' := fun n a hn h => by
  rw [e.ad] at h
  cases q : G'.h a with
  | none => rfl
  | some u =>
    rcases e.fr a u q with ⟨u', q'⟩ | q'
    · rw [n0 n a hn h] at q'
      cases q'
    · exact absurd q' (o.mem (List.mem_of_getElem? h))
/-- all that came with new objects, without them -/
def Vw.cut (G : Vw) (l : List Addr) : Vw := ⟨G.h, l⟩
theorem ExtM.drop (o : OR K T G H S) (e : ExtM G.ad.length G H G' H') : Ext G H (G'.cut G.ad) H' := ⟨fun a u q => e.hs a u q fun n hn z => by
  rw [List.getElem?_eq_none hn] at z
  exact Option.some_ne_none _ z.symm, e.gg.h, rfl, e.gh, e.fr⟩
theorem Ext.new {p : Addr} {o : HO} (s : Same G.h H) (h : H p = none) : Ext G H ⟨upd G.h p o, G.ad⟩ (upd H p o) := by
  have g : G.h p = none := s.free h
  refine ⟨same_upd' h, same_upd' g, rfl, fun b u e => ?_, fun a u e => ?_⟩
  · have e : (upd G.h p o) b = some u := e
    by_cases hb : b = p
    · rw [hb, upd_same] at e ⊢
      exact e
    · rw [upd_ne hb] at e ⊢
      exact s b u e
  · have e : (upd G.h p o) a = some u := e
    by_cases hb : a = p
    · rw [hb]
      exact .inr h
    · rw [upd_ne hb] at e
      exact .inl ⟨u, e⟩
where
  same_upd' {H : Hp} {p : Addr} {o : HO} (h : H p = none) : Same H (upd H p o) := fun b x e => by
    rw [upd_ne (ne_of_none e h)]
    exact e
/-- only H grows -/
theorem Ext.newH {p : Addr} {o : HO} (s : Same G.h H) (h : H p = none) : Ext G H G (upd H p o) :=
  ⟨Ext.new.same_upd' h, .refl _, rfl, s.trans (Ext.new.same_upd' h), fun _ o e => .inl ⟨o, e⟩⟩
end

/-- what is to be shown of a result: every value that stands for it, in every heap grown so far -/
def Post {α ν : Type} (R : Vw → ν → α → Prop) (xw : Nat → Hp → Prop) (G : Vw) (H : Hp) (Q : ν → Hp → Prop) : Res α → Prop
  | .ok a => ∀ v G' H', Ext G H G' H' → R G' v a → Q v H'
  | .ex n => ∀ G' H', Ext G H G' H' → xw n H'
  | .bad => False
section
variable {α β ν μ : Type} {R : Vw → ν → α → Prop} {R2 : Vw → μ → β → Prop} {xw : Nat → Hp → Prop} {G G' : Vw} {H H' : Hp} {Q : ν → Hp → Prop} {Q2 : μ → Hp → Prop}
theorem Post.ext (e : Ext G H G' H') {r : Res α} (h : Post R xw G H Q r) : Post R xw G' H' Q r := by
  cases r with
  | ok a => exact fun v G2 H2 x rp => h v G2 H2 (e.trans x) rp
  | ex n => exact fun G2 H2 s => h G2 H2 (e.trans s)
  | bad => exact h
theorem Post.bind {r : Res α} {k : α → Res β} (h : Post R2 xw G H Q2 (r.bind k)) (j : ∀ a v G1 H1, Ext G H G1 H1 → R G1 v a → Post R2 xw G1 H1 Q2 (k a) → Q v H1) : Post R xw G H Q r := by
  cases r with
  | ok a => exact fun v G1 H1 e rp => j a v G1 H1 e rp (Post.ext e h)
  | ex n => exact h
  | bad => exact h
end

abbrev RpsR (K : PySem.W.Frag) : Vw → List V → List D → Prop := fun G => Rps K G
abbrev BoR : Vw → Bool → Bool → Prop := fun _ a b => a = b

/-- what the slots say -/
structure ES (K : PySem.W.Frag) (z : Addr × Nat) (G : Vw) (sl : List Sl) (σ : St) : Prop where
  val : ∀ (i : Nat) (d : D), sl[i]? = some (Sl.val d) → ∃ v : V, σ[i]? = some (some v) ∧ Rp K G v d
  exc : ∀ (i n : Nat), sl[i]? = some (Sl.exc n) → σ[i]? = some (some (V.ref z.1)) ∧ n = z.2
  len : sl.length = σ.length
theorem ES.same {K : PySem.W.Frag} {z : Addr × Nat} {G G' : Vw} {sl : List Sl} {σ : St} (e : ES K z G sl σ) (s : Le G G') : ES K z G' sl σ :=
  ⟨fun i d h => let ⟨v, a, b⟩ := e.val i d h; ⟨v, a, b.same s⟩, e.exc, e.len⟩

/-- the fixed part: what the written heap says of the classes of errors and of objects, and the wish about what is raised -/
structure Cf where
  xa : Nat → Addr
  ct : CT
  fl : Nat
  z : Addr × Nat
  W : WX
def Cf.xw (C : Cf) (σ : St) : Nat → Hp → Prop := fun n H => C.W (.ref (C.xa n)) none σ H
/-- slots and store -/
structure ER (K : PySem.W.Frag) (C : Cf) (G : Vw) (H : Hp) (env : Env) (σ : St) : Prop where
  es : ES K C.z G env.sl σ
  or : OR K C.ct G H env.st
  fl : C.fl ≤ env.st.length
  fe : env.fl = C.fl
theorem ER.ext {K : PySem.W.Frag} {C : Cf} {G G' : Vw} {H H' : Hp} {env : Env} {σ : St} (r : ER K C G H env σ) (e : Ext G H G' H') : ER K C G' H' env σ := ⟨r.es.same e.le, r.or.ext e, r.fl, r.fe⟩

/-! ### readings -/
def tX (K : PySem.W.Frag) (C : Cf) (f : Env → Res D) : TE := fun σ H Q => ∃ G env, Same G.h H ∧ ER K C G H env σ ∧ Post (Rp K) (C.xw σ) G H Q (f env)
def tXs (K : PySem.W.Frag) (C : Cf) (f : Env → Res (List D)) : TA := fun σ H Q => ∃ G env, Same G.h H ∧ ER K C G H env σ ∧ Post (RpsR K) (C.xw σ) G H Q (f env)
def tXb (K : PySem.W.Frag) (C : Cf) (f : Env → Res Bool) : TT := fun σ H Q => ∃ G env, Same G.h H ∧ ER K C G H env σ ∧ Post BoR (C.xw σ) G H Q (f env)
/-- a new list of the expression's own -/
def PostF (K : PySem.W.Frag) (xw : Nat → Hp → Prop) (G : Vw) (H : Hp) (Q : V → Hp → Prop) : Res (List D) → Prop
  | .ok ds => ∀ p vs G' H', Ext G H G' H' → H p = none → G'.h p = none → H' p = some (.lst vs) → Rps K G' vs ds → Q (.ref p) H'
  | .ex n => ∀ G' H', Ext G H G' H' → xw n H'
  | .bad => False
def tXf (K : PySem.W.Frag) (C : Cf) (f : Env → Res (List D)) : TE := fun σ H Q => ∃ G env, Same G.h H ∧ ER K C G H env σ ∧ PostF K (C.xw σ) G H Q (f env)
abbrev QE (X : Cx) (C : Cf) (e : Expr) (f : Env → Res D) : Prop := PE X e (tX X.K C f)
abbrev QA (X : Cx) (C : Cf) (es : List Expr) (f : Env → Res (List D)) : Prop := PA X es (tXs X.K C f)
abbrev QT (X : Cx) (C : Cf) (e : Expr) (f : Env → Res Bool) : Prop := PT X e (tXb X.K C f)
abbrev QF (X : Cx) (C : Cf) (e : Expr) (f : Env → Res (List D)) : Prop := PE X e (tXf X.K C f)
theorem pe_imp {X : Cx} {e : Expr} {t t' : TE} (h : PE X e t) (i : ∀ σ H Q, t' σ H Q → t σ H Q) : PE X e t' := ⟨fun pins s σ H Q I w => h.run pins s σ H Q I (i σ H Q w)⟩
theorem pt_imp {X : Cx} {e : Expr} {t t' : TT} (h : PT X e t) (i : ∀ σ H Q, t' σ H Q → t σ H Q) : PT X e t' := ⟨fun pins s σ H Q I w => h.run pins s σ H Q I (i σ H Q w)⟩
theorem pa_imp {X : Cx} {e : List Expr} {t t' : TA} (h : PA X e t) (i : ∀ σ H Q, t' σ H Q → t σ H Q) : PA X e t' := ⟨fun pos pins s σ H Q I w => h.run pos pins s σ H Q I (i σ H Q w)⟩
theorem ps_imp {X : Cx} {st : Stmt} {t t' : TS} (h : PS X st t) (i : ∀ D σ H, t' D σ H → t D σ H) : PS X st t' := ⟨fun pins s σ H D I w => h.run pins s σ H D I (i D σ H w)⟩
theorem pss_imp {X : Cx} {st : List Stmt} {t t' : TS} (h : PSs X st t) (i : ∀ D σ H, t' D σ H → t D σ H) : PSs X st t' := ⟨fun pins s σ H D I w => h.run pins s σ H D I (i D σ H w)⟩

/-- a fresh list is a list -/
theorem PostF.of {K : PySem.W.Frag} {xw : Nat → Hp → Prop} {G : Vw} {H : Hp} {Q : V → Hp → Prop} {r : Res (List D)} (h : Post (Rp K) xw G H Q (r.map .list)) : PostF K xw G H Q r := by
  cases r with
  | ok ds =>
    intro p vs G' H' e hp gp hl rp
    have h' : Post (Rp K) xw G H Q (.ok (.list ds)) := h
    have s1 : Same G'.h (upd G'.h p (.lst vs)) := Ext.new.same_upd' gp
    refine h' (.ref p) ⟨upd G'.h p (.lst vs), G'.ad⟩ H' ⟨e.hh, e.gg.trans s1, e.ad, fun b u q => ?_, fun a o q => ?_⟩ (.lst (.inl upd_same) (rp.same (G' := ⟨upd G'.h p (.lst vs), G'.ad⟩) ⟨s1, [], (List.append_nil _).symm⟩))
    · have q : (upd G'.h p (.lst vs)) b = some u := q
      by_cases hb : b = p
      · rw [hb, upd_same] at q
        cases q
        rw [hb]
        exact hl
      · rw [upd_ne hb] at q
        exact e.gh b u q
    · have q : (upd G'.h p (.lst vs)) a = some o := q
      by_cases hb : a = p
      · rw [hb]
        exact .inr hp
      · rw [upd_ne hb] at q
        exact e.fr a o q
  | ex n => exact h
  | bad => exact h
section
variable {X : Cx} {C : Cf} {e : Expr} {f : Env → Res (List D)}
theorem QF.toE (h : QF X C e f) : QE X C e (fun env => (f env).map .list) := pe_imp h fun σ H Q ⟨G, env, s, er, p⟩ => ⟨G, env, s, er, PostF.of p⟩
end
/-! ### expressions -/
section
variable {X : Cx} {C : Cf}
def eVar (i : Nat) : Env → Res D := fun env => match env.sl[i]? with
  | some (.val d) => .ok d
  | _ => .bad
theorem qv (i : Nat) {x : Str} {pos : Pos} (hN : X.N[i]? = some x := by rfl) (hv : Vis X.env.scope x := by first | exact Or.inl rfl | exact Or.inr (Or.inl rfl) | exact Or.inr (Or.inr rfl)) (hd : (x == ("__debug__" : Str)) = false := by decide)
    (hcd : (x == ("__classdict__" : Str)) = false := by decide) : QE X C (.Name x pos) (eVar i) := by
  refine pe_imp (pe_var hN hv hd hcd) fun σ H Q ⟨G, env, s, er, p⟩ => ?_
  unfold eVar at p
  split at p
  · rename_i d e
    obtain ⟨v, h1, h2⟩ := er.es.val i d e
    exact ⟨v, h1, p v G H (.refl s) h2⟩
  · exact p.elim
def eC (d : D) : Env → Res D := fun _ => .ok d
theorem qc {e : Expr} {v : V} {d : D} (h : PE X e (tC v)) (r : ∀ G, Rp X.K G v d) : QE X C e (eC d) :=
  pe_imp h fun σ H Q ⟨G, env, s, er, p⟩ => p v G H (.refl s) (r G)
theorem q_int {i j pos} : QE X C (.Constant (.int i) j pos) (eC (.int i)) := qc pe_int fun _ => .int i
theorem q_bl {b j pos} : QE X C (.Constant (.bool b) j pos) (eC (.bool b)) := qc pe_bl fun _ => .bl b
theorem q_non {j pos} : QE X C (.Constant .none j pos) (eC .none) := qc pe_non fun _ => .non
theorem q_str {x j pos} : QE X C (.Constant (.str x) j pos) (eC (.str x)) := qc pe_str fun _ => .str x
/-- a module's constant -/
theorem q_glob {x : Str} {v : V} {d : D} {u : Value} {pos : Pos} (hg : Gl X x) (hm : X.mg x = some u) (r : RelV v u) (rp : ∀ G, Rp X.K G v d) (hd : (x == ("__debug__" : Str)) = false := by decide) : QE X C (.Name x pos) (eC d) := qc (pe_glob hg hm r hd) rp

/-- an operation upon two values -/
def OpF (K : PySem.W.Frag) (g : D → D → Res D) (r : R2) : Prop := ∀ (x y : V) (dx dy : D) (G : Vw) (H : Hp) (Q : VK), Same G.h H → Rp K G x dx → Rp K G y dy → Post (Rp K) (fun _ _ => False) G H Q (g dx dy) → r x y H Q
def e2 (g : D → D → Res D) (fa fb : Env → Res D) : Env → Res D := fun env => (fa env).bind fun x => (fb env).bind fun y => g x y
/-- an operation never raises -/
def NoEx {α : Type} (r : Res α) : Prop := ∀ n, r ≠ .ex n
theorem Post.noex {α ν : Type} {R : Vw → ν → α → Prop} {xw xw' : Nat → Hp → Prop} {G : Vw} {H : Hp} {Q : ν → Hp → Prop} {r : Res α} (n : NoEx r) (h : Post R xw G H Q r) : Post R xw' G H Q r := by
  cases r with
  | ok a => exact h
  | ex k => exact absurd rfl (n k)
  | bad => exact h
theorem op2 {g : D → D → Res D} {r : R2} (ho : OpF X.K g r) (hn : ∀ x y, NoEx (g x y)) {fa fb : Env → Res D} {σ : St} {H : Hp} {Q : VK} (h : tX X.K C (e2 g fa fb) σ H Q) : tOp r (tX X.K C fa) (tX X.K C fb) σ H Q := by
  obtain ⟨G, env, s, er, p⟩ := h
  refine ⟨G, env, s, er, Post.bind p fun dx x G1 H1 e1 r1 p1 => ⟨G1, env, e1.gh, er.ext e1, Post.bind p1 fun dy y G2 H2 e2 r2 p2 => ?_⟩⟩
  exact ho x y dx dy G2 H2 Q e2.gh (r1.same e2.le) r2 (Post.noex (hn _ _) p2)
theorem q_bin {op : Operator} {g : D → D → Res D} {r : R2} {a b : Expr} {fa fb : Env → Res D} {pos : Pos} (hr : OpR X (binaryOp op) r) (ho : OpF X.K g r) (hn : ∀ x y, NoEx (g x y)) (ha : QE X C a fa) (hb : QE X C b fb) : QE X C (.BinOp a op b pos) (e2 g fa fb) :=
  pe_imp (pe_op hr ha hb) fun _ _ _ h => op2 ho hn h
theorem q_cmp {op : CmpOp} {g : D → D → Res D} {r : R2} {a b : Expr} {fa fb : Env → Res D} {pos : Pos} (hr : OpR X (compareOp op) r) (ho : OpF X.K g r) (hn : ∀ x y, NoEx (g x y)) (hm : behindInMarks op b = false) (ha : QE X C a fa) (hb : QE X C b fb) : QE X C (.Compare a [op] [b] pos) (e2 g fa fb) :=
  pe_imp (pe_cmpR hr ha hb hm) fun _ _ _ h => op2 ho hn h
/-! ints -/
def i2 (c : Int → Int → Bool) (f : Int → Int → D) : D → D → Res D := fun x y => match x, y with
  | .int i, .int j => if c i j = true then .ok (f i j) else .bad
  | _, _ => .bad
theorem i2_noex {c f} : ∀ x y, NoEx (i2 c f x y) := by
  intro x y n
  unfold i2
  split
  · split <;> intro h <;> cases h
  · intro h
    cases h
theorem i2_op {K : PySem.W.Frag} {c : Int → Int → Bool} {f : Int → Int → D} {CC : Int → Int → Prop} {g : Int → Int → V} (hc : ∀ i j, c i j = true → CC i j) (hr : ∀ i j (G : Vw), Rp K G (g i j) (f i j)) : OpF K (i2 c f) (rI CC g) := by
  intro x y dx dy G H Q s rx ry p
  unfold i2 at p
  split at p
  · rename_i i j
    cases rx
    cases ry
    split at p
    · rename_i h
      exact ⟨i, j, rfl, rfl, hc i j h, p _ G H (.refl s) (hr i j G)⟩
    · exact p.elim
  · exact p.elim
theorem i2_op0 {K : PySem.W.Frag} {f : Int → Int → D} {g : Int → Int → V} (hr : ∀ i j (G : Vw), Rp K G (g i j) (f i j)) : OpF K (i2 (fun _ _ => true) f) (rI0 g) := by
  intro x y dx dy G H Q s rx ry p
  unfold i2 at p
  split at p
  · rename_i i j
    cases rx
    cases ry
    rw [if_pos rfl] at p
    exact ⟨i, j, rfl, rfl, p _ G H (.refl s) (hr i j G)⟩
  · exact p.elim
def gAdd : D → D → Res D := i2 (fun _ _ => true) fun i j => .int (i + j)
def gSub : D → D → Res D := i2 (fun _ _ => true) fun i j => .int (i - j)
def gMul : D → D → Res D := i2 (fun i j => decide (Builtin.Int.intBits i + Builtin.Int.intBits j ≤ 134217728)) fun i j => .int (i * j)
def gDiv : D → D → Res D := i2 (fun _ j => decide (0 < j ∧ j.natAbs.log2 < 9000)) fun i j => .int (i / j)
def gMod : D → D → Res D := i2 (fun _ j => decide (0 < j)) fun i j => .int (i % j)
def gPow : D → D → Res D := i2 (fun i j => decide (0 ≤ j ∧ j.toNat ≤ 1000000 ∧ i.natAbs < 2 ^ 64)) fun i j => .int (i ^ j.toNat)
def gShl : D → D → Res D := i2 (fun i j => decide (0 ≤ j ∧ Builtin.Int.intBits i + j.toNat ≤ 134217728)) fun i j => .int (i * 2 ^ j.toNat)
def gShr : D → D → Res D := i2 (fun _ j => decide (0 ≤ j)) fun i j => .int (i / 2 ^ j.toNat)
def gAnd : D → D → Res D := i2 (fun _ _ => true) fun i j => .int (Builtin.bitAnd i j)
def gOr : D → D → Res D := i2 (fun _ _ => true) fun i j => .int (Builtin.bitOr i j)
def gXor : D → D → Res D := i2 (fun _ _ => true) fun i j => .int (Builtin.bitXor i j)
def gLt : D → D → Res D := i2 (fun _ _ => true) fun i j => .bool (decide (i < j))
def gLe : D → D → Res D := i2 (fun _ _ => true) fun i j => .bool (decide (i ≤ j))
def gGt : D → D → Res D := i2 (fun _ _ => true) fun i j => .bool (decide (j < i))
def gGe : D → D → Res D := i2 (fun _ _ => true) fun i j => .bool (decide (j ≤ i))
variable {a b : Expr} {fa fb : Env → Res D} {pos : Pos}
theorem q_add (ha : QE X C a fa) (hb : QE X C b fb) : QE X C (.BinOp a .Add b pos) (e2 gAdd fa fb) := q_bin op_add (i2_op0 fun i j _ => .int _) i2_noex ha hb
theorem q_sub (ha : QE X C a fa) (hb : QE X C b fb) : QE X C (.BinOp a .Sub b pos) (e2 gSub fa fb) := q_bin op_sub (i2_op0 fun i j _ => .int _) i2_noex ha hb
theorem q_mul (ha : QE X C a fa) (hb : QE X C b fb) : QE X C (.BinOp a .Mult b pos) (e2 gMul fa fb) := q_bin op_mulX (i2_op (fun i j h => (by
  have h2 : Builtin.Int.intBits i + Builtin.Int.intBits j ≤ 134217728 := of_decide_eq_true h
  show (Builtin.Int.intBits i : Int) + (Builtin.Int.intBits j : Int) ≤ 134217728
  omega)) fun i j _ => .int _) i2_noex ha hb
theorem q_div (ha : QE X C a fa) (hb : QE X C b fb) : QE X C (.BinOp a .FloorDiv b pos) (e2 gDiv fa fb) := q_bin op_fdivW (i2_op (fun i j h => show 0 < j ∧ j.natAbs.log2 < 9000 from of_decide_eq_true h) fun i j _ => .int _) i2_noex ha hb
theorem q_mod (ha : QE X C a fa) (hb : QE X C b fb) : QE X C (.BinOp a .Mod b pos) (e2 gMod fa fb) := q_bin op_mod (i2_op (fun _ _ h => of_decide_eq_true h) fun i j _ => .int _) i2_noex ha hb
theorem q_pow (ha : QE X C a fa) (hb : QE X C b fb) : QE X C (.BinOp a .Pow b pos) (e2 gPow fa fb) := q_bin op_pow (i2_op (fun i j h => show 0 ≤ j ∧ j ≤ 1000000 ∧ i.natAbs < 2 ^ 64 from (by have q := of_decide_eq_true h; exact ⟨q.1, by have := q.2.1; omega, q.2.2⟩)) fun i j _ => .int _) i2_noex ha hb
theorem q_shl (ha : QE X C a fa) (hb : QE X C b fb) : QE X C (.BinOp a .LShift b pos) (e2 gShl fa fb) := q_bin op_shlW (i2_op (fun _ _ h => (by
  have h2 := of_decide_eq_true h
  exact ⟨h2.1, by have e : (2 : Int) ^ 27 = 134217728 := by decide
                  rw [e]; have := h2.1; have := h2.2; omega⟩)) fun i j _ => .int _) i2_noex ha hb
theorem q_shr (ha : QE X C a fa) (hb : QE X C b fb) : QE X C (.BinOp a .RShift b pos) (e2 gShr fa fb) := q_bin op_shr (i2_op (fun _ _ h => of_decide_eq_true h) fun i j _ => .int _) i2_noex ha hb
theorem q_and (ha : QE X C a fa) (hb : QE X C b fb) : QE X C (.BinOp a .BitAnd b pos) (e2 gAnd fa fb) := q_bin op_and (i2_op0 fun i j _ => .int _) i2_noex ha hb
theorem q_or (ha : QE X C a fa) (hb : QE X C b fb) : QE X C (.BinOp a .BitOr b pos) (e2 gOr fa fb) := q_bin op_or (i2_op0 fun i j _ => .int _) i2_noex ha hb
theorem q_xor (ha : QE X C a fa) (hb : QE X C b fb) : QE X C (.BinOp a .BitXor b pos) (e2 gXor fa fb) := q_bin op_xor (i2_op0 fun i j _ => .int _) i2_noex ha hb
theorem q_lt (ha : QE X C a fa) (hb : QE X C b fb) : QE X C (.Compare a [.Lt] [b] pos) (e2 gLt fa fb) := q_cmp op_lt (i2_op0 fun i j _ => .bl _) i2_noex (nomark _) ha hb
theorem q_le (ha : QE X C a fa) (hb : QE X C b fb) : QE X C (.Compare a [.LtE] [b] pos) (e2 gLe fa fb) := q_cmp op_le (i2_op0 fun i j _ => .bl _) i2_noex (nomark _) ha hb
theorem q_gt (ha : QE X C a fa) (hb : QE X C b fb) : QE X C (.Compare a [.Gt] [b] pos) (e2 gGt fa fb) := q_cmp op_gt (i2_op0 fun i j _ => .bl _) i2_noex (nomark _) ha hb
theorem q_ge (ha : QE X C a fa) (hb : QE X C b fb) : QE X C (.Compare a [.GtE] [b] pos) (e2 gGe fa fb) := q_cmp op_ge (i2_op0 fun i j _ => .bl _) i2_noex (nomark _) ha hb
/-! == at any depth -/
def gEq : D → D → Res D := fun x y => if SeqAt.shaped (toP x) = true ∧ SeqAt.shaped (toP y) = true then .ok (.bool (PyData.eqv (toP x) (toP y))) else .bad
def gNe : D → D → Res D := fun x y => if SeqAt.shaped (toP x) = true ∧ SeqAt.shaped (toP y) = true then .ok (.bool (!PyData.eqv (toP x) (toP y))) else .bad
theorem gEq_noex : ∀ x y, NoEx (gEq x y) := by
  intro x y n
  unfold gEq
  split <;> intro h <;> cases h
theorem gNe_noex : ∀ x y, NoEx (gNe x y) := by
  intro x y n
  unfold gNe
  split <;> intro h <;> cases h
theorem gEq_op {K : PySem.W.Frag} : OpF K gEq (rEqD K) := by
  intro x y dx dy G H Q s rx ry p
  unfold gEq at p
  split at p
  · rename_i h
    exact ⟨toP dx, toP dy, rx.dp s (shaped_lay h.1), ry.dp s (shaped_lay h.2), h.1, h.2, p _ G H (.refl s) (.bl _)⟩
  · exact p.elim
theorem gNe_op {K : PySem.W.Frag} : OpF K gNe (rNeD K) := by
  intro x y dx dy G H Q s rx ry p
  unfold gNe at p
  split at p
  · rename_i h
    exact ⟨toP dx, toP dy, rx.dp s (shaped_lay h.1), ry.dp s (shaped_lay h.2), h.1, h.2, p _ G H (.refl s) (.bl _)⟩
  · exact p.elim
theorem roomU {k : Nat} {A : Around} (hr : Room k A) : A.units + 64 < cLine := by
  have := hr.un
  omega
theorem q_eq (hu : X.A.units + 64 < cLine) (ha : QE X C a fa) (hb : QE X C b fb) : QE X C (.Compare a [.Eq] [b] pos) (e2 gEq fa fb) := q_cmp (op_eqD hu) gEq_op gEq_noex (nomark _) ha hb
theorem q_ne (hu : X.A.units + 64 < cLine) (ha : QE X C a fa) (hb : QE X C b fb) : QE X C (.Compare a [.NotEq] [b] pos) (e2 gNe fa fb) := q_cmp (op_neD hu) gNe_op gNe_noex (nomark _) ha hb
def eChain (g g' : D → D → Res D) (fa fb fc : Env → Res D) : Env → Res D := fun env => (fa env).bind fun x => (fb env).bind fun y => (g x y).bind fun z => match z with
  | .bool true => (fc env).bind fun w => g' y w
  | .bool false => .ok (.bool false)
  | _ => .bad
theorem chain2 {g g' : D → D → Res D} {r r' : R2} (ho : OpF X.K g r) (hn : ∀ x y, NoEx (g x y)) (ho' : OpF X.K g' r') (hn' : ∀ x y, NoEx (g' x y)) {fa fb fc : Env → Res D} {σ : St} {H : Hp} {Q : VK} (h : tX X.K C (eChain g g' fa fb fc) σ H Q) : tChain r r' (tX X.K C fa) (tX X.K C fb) (tX X.K C fc) σ H Q := by
  obtain ⟨G, env, s, er, p⟩ := h
  refine ⟨G, env, s, er, Post.bind p fun dx x G1 H1 e1 r1 p1 => ⟨G1, env, e1.gh, er.ext e1, Post.bind p1 fun dy y G2 H2 e2 r2 p2 => ?_⟩⟩
  refine ho x y dx dy G2 H2 _ e2.gh (r1.same e2.le) r2 (Post.noex (hn _ _) (Post.bind p2 fun dz z G3 H3 e3 r3 p3 => ?_))
  split at p3
  · cases r3
    refine ⟨true, rfl, ?_⟩
    rw [if_pos rfl]
    refine ⟨G3, env, e3.gh, (er.ext (e1.trans e2)).ext e3, Post.bind p3 fun dw w G4 H4 e4 r4 p4 => ?_⟩
    exact ho' y w dy dw G4 H4 Q e4.gh ((r2.same e3.le).same e4.le) r4 (Post.noex (hn' _ _) p4)
  · cases r3
    refine ⟨false, rfl, ?_⟩
    rw [if_neg Bool.false_ne_true]
    exact p3 _ G3 H3 (.refl e3.gh) (.bl _)
  · exact p3.elim
theorem q_lele {c : Expr} {fc : Env → Res D} (ha : QE X C a fa) (hb : QE X C b fb) (hc : QE X C c fc) (hm : lastMarks [.LtE, .LtE] [b, c] = false := by with_unfolding_all rfl) : QE X C (.Compare a [.LtE, .LtE] [b, c] pos) (eChain gLe gLe fa fb fc) :=
  pe_imp (pe_chain op_le op_le ha hb hc hm) fun _ _ _ h => chain2 (i2_op0 fun i j _ => .bl _) i2_noex (i2_op0 fun i j _ => .bl _) i2_noex h
theorem q_lelt {c : Expr} {fc : Env → Res D} (ha : QE X C a fa) (hb : QE X C b fb) (hc : QE X C c fc) (hm : lastMarks [.LtE, .Lt] [b, c] = false := by with_unfolding_all rfl) : QE X C (.Compare a [.LtE, .Lt] [b, c] pos) (eChain gLe gLt fa fb fc) :=
  pe_imp (pe_chain op_le op_lt ha hb hc hm) fun _ _ _ h => chain2 (i2_op0 fun i j _ => .bl _) i2_noex (i2_op0 fun i j _ => .bl _) i2_noex h
/-! unary -/
def e1 (g : D → Res D) (fa : Env → Res D) : Env → Res D := fun env => (fa env).bind g
def gNeg : D → Res D := fun x => match x with
  | .int i => .ok (.int (-i))
  | _ => .bad
def gInv : D → Res D := fun x => match x with
  | .int i => .ok (.int (Builtin.bitNot i))
  | _ => .bad
theorem q_neg (ha : QE X C a fa) : QE X C (.UnaryOp .USub a pos) (e1 gNeg fa) :=
  pe_imp (pe_un un_neg ha) fun σ H Q ⟨G, env, s, er, p⟩ => ⟨G, env, s, er, Post.bind p fun d x G1 H1 e1 r1 p1 => by
    unfold gNeg at p1
    split at p1
    · cases r1
      exact ⟨_, rfl, p1 _ G1 H1 (.refl e1.gh) (.int _)⟩
    · exact p1.elim⟩
theorem q_inv (ha : QE X C a fa) : QE X C (.UnaryOp .Invert a pos) (e1 gInv fa) :=
  pe_imp (pe_un un_inv ha) fun σ H Q ⟨G, env, s, er, p⟩ => ⟨G, env, s, er, Post.bind p fun d x G1 H1 e1 r1 p1 => by
    unfold gInv at p1
    split at p1
    · cases r1
      exact ⟨_, rfl, p1 _ G1 H1 (.refl e1.gh) (.int _)⟩
    · exact p1.elim⟩
def gBits : D → Res D := fun x => match x with
  | .int i => .ok (.int (Builtin.Int.intBits i : Nat))
  | _ => .bad
theorem q_bits {o : Expr} {apos pos : Pos} (ho : QE X C o fa) (hbase : attributeBase o "bit_length" X.env (eval o X.env) = eval o X.env := by rfl) (hline : (apos.endLine == pos.line) = true := by rfl) : QE X C (.Call (.Attribute o "bit_length" apos) [] [] pos) (e1 gBits fa) :=
  pe_imp (pe_bits ho hbase hline) fun σ H Q ⟨G, env, s, er, p⟩ => ⟨G, env, s, er, Post.bind p fun d x G1 H1 e1 r1 p1 => by
    unfold gBits at p1
    split at p1
    · cases r1
      exact ⟨_, rfl, p1 _ G1 H1 (.refl e1.gh) (.int _)⟩
    · exact p1.elim⟩
/-! ### tests, and, or, not -/
def toB : D → Res Bool := fun d => match d with
  | .bool b => .ok b
  | _ => .bad
def eB (f : Env → Res D) : Env → Res Bool := fun env => (f env).bind toB
theorem toB_post {σ : St} {G : Vw} {H : Hp} {d : D} {x : V} {Q : Bool → Hp → Prop} (s : Same G.h H) (r : Rp X.K G x d) (p : Post BoR (C.xw σ) G H Q (toB d)) : ∃ k, x = .bl k ∧ Q k H := by
  unfold toB at p
  split at p
  · cases r
    exact ⟨_, rfl, p _ G H (.refl s) rfl⟩
  · exact p.elim
theorem test_of {f : Env → Res D} {σ : St} {H : Hp} {Q : Bool → Hp → Prop} (h : tXb X.K C (eB f) σ H Q) : tTest (tX X.K C f) σ H Q := by
  obtain ⟨G, env, s, er, p⟩ := h
  exact ⟨G, env, s, er, Post.bind p fun d x G1 H1 e1 r1 p1 => toB_post e1.gh r1 p1⟩
theorem qt_val {e : Expr} {f : Env → Res D} (h : QE X C e f) (he : ∀ whole, isTrue e X.env whole = (do let v ← whole; standAt e.pos; holding [v] (truthy v)) := by intro _; rfl) : QT X C e (eB f) := pt_imp (pt_val h he) fun _ _ _ h => test_of h
theorem qt_cmp {op : CmpOp} {g : D → D → Res D} {r : R2} (hr : OpR X (compareOp op) r) (ho : OpF X.K g r) (hn : ∀ x y, NoEx (g x y)) (hm : behindInMarks op b = false) (ha : QE X C a fa) (hb : QE X C b fb) : QT X C (.Compare a [op] [b] pos) (eB (e2 g fa fb)) :=
  pt_imp (pt_cmpR hr ha hb hm) fun σ H Q h => by
    have h2 := test_of h
    unfold tTest at h2 ⊢
    exact op2 ho hn h2
theorem qt_lt (ha : QE X C a fa) (hb : QE X C b fb) : QT X C (.Compare a [.Lt] [b] pos) (eB (e2 gLt fa fb)) := qt_cmp op_lt (i2_op0 fun i j _ => .bl _) i2_noex (nomark _) ha hb
theorem qt_le (ha : QE X C a fa) (hb : QE X C b fb) : QT X C (.Compare a [.LtE] [b] pos) (eB (e2 gLe fa fb)) := qt_cmp op_le (i2_op0 fun i j _ => .bl _) i2_noex (nomark _) ha hb
theorem qt_gt (ha : QE X C a fa) (hb : QE X C b fb) : QT X C (.Compare a [.Gt] [b] pos) (eB (e2 gGt fa fb)) := qt_cmp op_gt (i2_op0 fun i j _ => .bl _) i2_noex (nomark _) ha hb
theorem qt_ge (ha : QE X C a fa) (hb : QE X C b fb) : QT X C (.Compare a [.GtE] [b] pos) (eB (e2 gGe fa fb)) := qt_cmp op_ge (i2_op0 fun i j _ => .bl _) i2_noex (nomark _) ha hb
theorem qt_eq (hu : X.A.units + 64 < cLine) (ha : QE X C a fa) (hb : QE X C b fb) : QT X C (.Compare a [.Eq] [b] pos) (eB (e2 gEq fa fb)) := qt_cmp (op_eqD hu) gEq_op gEq_noex (nomark _) ha hb
theorem qt_ne (hu : X.A.units + 64 < cLine) (ha : QE X C a fa) (hb : QE X C b fb) : QT X C (.Compare a [.NotEq] [b] pos) (eB (e2 gNe fa fb)) := qt_cmp (op_neD hu) gNe_op gNe_noex (nomark _) ha hb
theorem qt_lele {c : Expr} {fc : Env → Res D} (ha : QE X C a fa) (hb : QE X C b fb) (hc : QE X C c fc) (hm : lastMarks [.LtE, .LtE] [b, c] = false := by with_unfolding_all rfl) : QT X C (.Compare a [.LtE, .LtE] [b, c] pos) (eB (eChain gLe gLe fa fb fc)) :=
  pt_imp (pt_chain op_le op_le ha hb hc hm) fun σ H Q h => by
    have h2 := test_of h
    unfold tTest at h2 ⊢
    exact chain2 (i2_op0 fun i j _ => .bl _) i2_noex (i2_op0 fun i j _ => .bl _) i2_noex h2
theorem qt_lelt {c : Expr} {fc : Env → Res D} (ha : QE X C a fa) (hb : QE X C b fb) (hc : QE X C c fc) (hm : lastMarks [.LtE, .Lt] [b, c] = false := by with_unfolding_all rfl) : QT X C (.Compare a [.LtE, .Lt] [b, c] pos) (eB (eChain gLe gLt fa fb fc)) :=
  pt_imp (pt_chain op_le op_lt ha hb hc hm) fun σ H Q h => by
    have h2 := test_of h
    unfold tTest at h2 ⊢
    exact chain2 (i2_op0 fun i j _ => .bl _) i2_noex (i2_op0 fun i j _ => .bl _) i2_noex h2
def bAnd (f g : Env → Res Bool) : Env → Res Bool := fun env => (f env).bind fun b => if b = true then g env else .ok false
def bOr (f g : Env → Res Bool) : Env → Res Bool := fun env => (f env).bind fun b => if b = true then .ok true else g env
def bNot (f : Env → Res Bool) : Env → Res Bool := fun env => (f env).bind fun b => .ok (!b)
abbrev QW (X : Cx) (C : Cf) (e : Expr) (f : Env → Res Bool) : Prop := PW X e (tXb X.K C f)
theorem pw_imp {e : Expr} {t t' : TT} (h : PW X e t) (i : ∀ σ H Q, t' σ H Q → t σ H Q) : PW X e t' := ⟨fun wh pins s σ H Q I w => h.run wh pins s σ H Q I (i σ H Q w)⟩
variable {rest : List Expr} {f g : Env → Res Bool}
theorem qw_and1 (ha : QT X C a f) : QW X C (.BoolOp .And [a] pos) f := pw_and1 ha
theorem qw_or1 (ha : QT X C a f) : QW X C (.BoolOp .Or [a] pos) f := pw_or1 ha
theorem qw_and (ha : QT X C a f) (hb : QW X C (.BoolOp .And (b :: rest) pos) g) : QW X C (.BoolOp .And (a :: b :: rest) pos) (bAnd f g) :=
  pw_imp (pw_and ha hb) fun σ H Q ⟨G, env, s, er, p⟩ => ⟨G, env, s, er, Post.bind p fun c x G1 H1 e1 r1 p1 => by
    cases r1
    split
    · rename_i h
      rw [if_pos h] at p1
      exact ⟨G1, env, e1.gh, er.ext e1, p1⟩
    · rename_i h
      rw [if_neg h] at p1
      exact p1 _ G1 H1 (.refl e1.gh) rfl⟩
theorem qw_or (ha : QT X C a f) (hb : QW X C (.BoolOp .Or (b :: rest) pos) g) : QW X C (.BoolOp .Or (a :: b :: rest) pos) (bOr f g) :=
  pw_imp (pw_or ha hb) fun σ H Q ⟨G, env, s, er, p⟩ => ⟨G, env, s, er, Post.bind p fun c x G1 H1 e1 r1 p1 => by
    cases r1
    split
    · rename_i h
      rw [if_pos h] at p1
      exact p1 _ G1 H1 (.refl e1.gh) rfl
    · rename_i h
      rw [if_neg h] at p1
      exact ⟨G1, env, e1.gh, er.ext e1, p1⟩⟩
theorem QW.t {e : Expr} (h : QW X C e f) : QT X C e f := h.pt
theorem qt_not (ha : QT X C a f) : QT X C (.UnaryOp .Not a pos) (bNot f) :=
  pt_imp (pt_not ha) fun σ H Q ⟨G, env, s, er, p⟩ => ⟨G, env, s, er, Post.bind p fun c x G1 H1 e1 r1 p1 => by
    cases r1
    exact p1 _ G1 H1 (.refl e1.gh) rfl⟩
/-- .. as values (bools) -/
def eAnd (f g : Env → Res D) : Env → Res D := fun env => (f env).bind fun d => match d with
  | .bool true => g env
  | .bool false => .ok (.bool false)
  | _ => .bad
def eOr (f g : Env → Res D) : Env → Res D := fun env => (f env).bind fun d => match d with
  | .bool true => .ok (.bool true)
  | .bool false => g env
  | _ => .bad
def eNot (f : Env → Res D) : Env → Res D := fun env => (f env).bind fun d => match d with
  | .bool b => .ok (.bool (!b))
  | _ => .bad
theorem q_one {op : BoolOp} (h : QE X C a fa) : QE X C (.BoolOp op [a] pos) fa := pe_one h
theorem q_and' (ha : QE X C a fa) (hb : QE X C (.BoolOp .And (b :: rest) pos) fb) : QE X C (.BoolOp .And (a :: b :: rest) pos) (eAnd fa fb) :=
  pe_imp (pe_and ha hb) fun σ H Q ⟨G, env, s, er, p⟩ => ⟨G, env, s, er, Post.bind p fun c x G1 H1 e1 r1 p1 => by
    split at p1
    · cases r1
      refine ⟨true, rfl, ?_⟩
      rw [if_pos rfl]
      exact ⟨G1, env, e1.gh, er.ext e1, p1⟩
    · cases r1
      refine ⟨false, rfl, ?_⟩
      rw [if_neg Bool.false_ne_true]
      exact p1 _ G1 H1 (.refl e1.gh) (.bl _)
    · exact p1.elim⟩
theorem q_or' (ha : QE X C a fa) (hb : QE X C (.BoolOp .Or (b :: rest) pos) fb) : QE X C (.BoolOp .Or (a :: b :: rest) pos) (eOr fa fb) :=
  pe_imp (pe_or ha hb) fun σ H Q ⟨G, env, s, er, p⟩ => ⟨G, env, s, er, Post.bind p fun c x G1 H1 e1 r1 p1 => by
    split at p1
    · cases r1
      refine ⟨true, rfl, ?_⟩
      rw [if_pos rfl]
      exact p1 _ G1 H1 (.refl e1.gh) (.bl _)
    · cases r1
      refine ⟨false, rfl, ?_⟩
      rw [if_neg Bool.false_ne_true]
      exact ⟨G1, env, e1.gh, er.ext e1, p1⟩
    · exact p1.elim⟩
theorem q_not' (ha : QE X C a fa) : QE X C (.UnaryOp .Not a pos) (eNot fa) :=
  pe_imp (pe_not ha) fun σ H Q ⟨G, env, s, er, p⟩ => ⟨G, env, s, er, Post.bind p fun c x G1 H1 e1 r1 p1 => by
    split at p1
    · cases r1
      exact ⟨_, rfl, p1 _ G1 H1 (.refl e1.gh) (.bl _)⟩
    · exact p1.elim⟩
def eIf (c : Env → Res Bool) (f g : Env → Res D) : Env → Res D := fun env => (c env).bind fun b => if b = true then f env else g env
theorem q_ifExp {c : Expr} {t : Env → Res Bool} (hc : QT X C c t) (ha : QE X C a fa) (hb : QE X C b fb) : QE X C (.IfExp c a b pos) (eIf t fa fb) :=
  pe_imp (pe_ifExp hc ha hb) fun σ H Q ⟨G, env, s, er, p⟩ => ⟨G, env, s, er, Post.bind p fun c x G1 H1 e1 r1 p1 => by
    cases r1
    split
    · rename_i h
      rw [if_pos h] at p1
      exact ⟨G1, env, e1.gh, er.ext e1, p1⟩
    · rename_i h
      rw [if_neg h] at p1
      exact ⟨G1, env, e1.gh, er.ext e1, p1⟩⟩
/-! ### argument lists -/
def asNil : Env → Res (List D) := fun _ => .ok []
def asCons (f : Env → Res D) (g : Env → Res (List D)) : Env → Res (List D) := fun env => (f env).bind fun d => (g env).bind fun ds => .ok (d :: ds)
theorem qa_nil : QA X C [] asNil := pa_imp pa_nil fun σ H Q ⟨G, env, s, er, p⟩ => p [] G H (.refl s) .nil
theorem qa_cons {e : Expr} {es : List Expr} {f : Env → Res D} {g : Env → Res (List D)} (he : QE X C e f) (hs : QA X C es g) (hst : starEach (e :: es) X.env = (false, eval e X.env) :: starEach es X.env := by rfl) : QA X C (e :: es) (asCons f g) :=
  pa_imp (pa_cons he hs hst) fun σ H Q ⟨G, env, s, er, p⟩ => ⟨G, env, s, er, Post.bind p fun d x G1 H1 e1 r1 p1 => ⟨G1, env, e1.gh, er.ext e1, Post.bind p1 fun ds xs G2 H2 e2 r2 p2 => p2 (x :: xs) G2 H2 (.refl e2.gh) (.cons (r1.same e2.le) r2)⟩⟩
end
end L2.FO

set_option Elab.async false
set_option linter.all false
set_option maxRecDepth 100000
set_option maxHeartbeats 4000000
namespace L2.FO
open PySem PySem.Spec PyProof.Rows
theorem same_upd {H : Hp} {p : Addr} {o : HO} (h : H p = none) : Same H (upd H p o) := fun b x e => by
  rw [upd_ne (ne_of_none e h)]
  exact e
section
variable {K : PySem.W.Frag} {α ν : Type} {R : Vw → ν → α → Prop} {xw : Nat → Hp → Prop} {G G' : Vw} {H H' : Hp} {Q : ν → Hp → Prop} {Q2 : V → Hp → Prop}
theorem PostF.ext (e : Ext G H G' H') {r : Res (List D)} (h : PostF K xw G H Q2 r) : PostF K xw G' H' Q2 r := by
  cases r with
  | ok a => exact fun p vs G2 H2 x hp gp hl rp => h p vs G2 H2 (e.trans x) (e.hh.free hp) gp hl rp
  | ex n => exact fun G2 H2 s => h G2 H2 (e.trans s)
  | bad => exact h
theorem PostF.bind {r : Res α} {k : α → Res (List D)} (h : PostF K xw G H Q2 (r.bind k)) (j : ∀ a v G1 H1, Ext G H G1 H1 → R G1 v a → PostF K xw G1 H1 Q2 (k a) → Q v H1) : Post R xw G H Q r := by
  cases r with
  | ok a => exact fun v G1 H1 e rp => j a v G1 H1 e rp (PostF.ext e h)
  | ex n => exact h
  | bad => exact h
/-- a new list is laid -/
theorem PostF.new {ds : List D} {vs : List V} (s : Same G.h H) (h : PostF K xw G H Q2 (.ok ds)) (r : Rps K G vs ds) {p : Addr} (hp : H p = none) : Q2 (.ref p) (upd H p (.lst vs)) :=
  h p vs G _ (Ext.newH s hp) hp (s.free hp) upd_same r
theorem Post.tup {ds : List D} {vs : List V} {Q : VK} (s : Same G.h H) (h : Post (Rp K) xw G H Q (.ok (.tuple ds))) (r : Rps K G vs ds) {p : Addr} (hp : H p = none) : Q (.ref p) (upd H p (.tup vs)) :=
  h _ _ _ (Ext.new s hp) (.tup (.inl (.inl upd_same)) (r.same (G' := ⟨upd G.h p (.tup vs), G.ad⟩) ⟨same_upd (s.free hp), [], (List.append_nil _).symm⟩))
end

/-- a length within the line -/
def fit (ds : List D) : Res (List D) := if ds.length ≤ 16777216 then .ok ds else .bad
theorem fit_ok {ds es : List D} : fit ds = .ok es → ds = es ∧ ds.length ≤ sizeLine := by
  unfold fit
  split
  · rename_i h
    intro e
    cases e
    exact ⟨rfl, by rw [sizeLine_eq]; exact h⟩
  · intro e
    cases e
theorem fit_postF {K : PySem.W.Frag} {xw : Nat → Hp → Prop} {G : Vw} {H : Hp} {Q : VK} {ds : List D} (h : PostF K xw G H Q (fit ds)) : PostF K xw G H Q (.ok ds) ∧ ds.length ≤ sizeLine := by
  unfold fit at h
  split at h
  · rename_i hl
    exact ⟨h, by rw [sizeLine_eq]; exact hl⟩
  · exact h.elim
section
variable {X : Cx} {C : Cf} {a b e : Expr} {es : List Expr} {fa fb f : Env → Res D} {fs : Env → Res (List D)} {pos : Pos}
/-! ### displays -/
def eFit (fs : Env → Res (List D)) : Env → Res (List D) := fun env => (fs env).bind fit
theorem qf_list (h : QA X C es fs) : QF X C (.List es pos) (eFit fs) :=
  pe_imp (pe_lst h) fun σ H Q ⟨G, env, s, er, p⟩ => ⟨G, env, s, er, PostF.bind p fun ds vs G1 H1 e1 r1 p1 => by
    obtain ⟨p2, hl⟩ := fit_postF p1
    exact ⟨by rw [r1.length]; exact hl, fun q hq => PostF.new e1.gh p2 r1 hq⟩⟩
def eTup (fs : Env → Res (List D)) : Env → Res D := fun env => (fs env).bind fun ds => (fit ds).bind fun ds => .ok (.tuple ds)
theorem q_tup {x1} (h : QA X C es fs) : QE X C (.Tuple es x1 pos) (eTup fs) :=
  pe_imp (pe_tup h) fun σ H Q ⟨G, env, s, er, p⟩ => ⟨G, env, s, er, Post.bind p fun ds vs G1 H1 e1 r1 p1 => by
    cases hf : fit ds with
    | ok ds' =>
      obtain ⟨rfl, hl⟩ := fit_ok hf
      rw [hf] at p1
      exact ⟨by rw [r1.length]; exact hl, fun q hq => Post.tup e1.gh p1 r1 hq⟩
    | ex n =>
      unfold fit at hf
      split at hf <;> cases hf
    | bad =>
      rw [hf] at p1
      exact p1.elim⟩
/-! ### calls of built-ins -/
theorem q_callB {id : String} {r : List V → Hp → VK → Prop} {x : Str} {p : Pos} {g : List D → Res D} (hc : CallR X (.builtin id) r)
    (ho : ∀ (vs : List V) (ds : List D) (G : Vw) (H : Hp) (Q : VK), Same G.h H → Rps X.K G vs ds → Post (Rp X.K) (fun _ _ => False) G H Q (g ds) → r vs H Q) (hn' : ∀ ds, NoEx (g ds))
    (hg : Gl X x) (hm : X.mg x = none) (hv : bootBuiltins x = some (.builtin id)) (ha : QA X C (e :: es) fs) (hn : x ≠ "__name__" := by decide) (hdb : (x == ("__debug__" : Str)) = false := by decide)
    (he : starEach (e :: es) X.env = (false, eval e X.env) :: starEach es X.env := by rfl) (hpl : (backTo pos (starEach es X.env)).any (·.1) = false := by rfl) : QE X C (.Call (.Name x p) (e :: es) [] pos) (fun env => (fs env).bind g) :=
  pe_imp (pe_callB hc hg hm hv ha hn hdb he hpl) fun σ H Q ⟨G, env, s, er, p⟩ => ⟨G, env, s, er, Post.bind p fun ds vs G1 H1 e1 r1 p1 => ho vs ds G1 H1 Q e1.gh r1 (Post.noex (hn' _) p1)⟩
theorem q_callTy {T : String} {r : List V → Hp → VK → Prop} {x : Str} {p : Pos} {g : List D → Res D} (hc : CallR X (.type T) r)
    (ho : ∀ (vs : List V) (ds : List D) (G : Vw) (H : Hp) (Q : VK), Same G.h H → Rps X.K G vs ds → Post (Rp X.K) (fun _ _ => False) G H Q (g ds) → r vs H Q) (hn' : ∀ ds, NoEx (g ds))
    (hg : Gl X x) (hm : X.mg x = none) (hv : bootBuiltins x = some (.type T)) (ha : QA X C (e :: es) fs) (hn : x ≠ "__name__" := by decide) (hdb : (x == ("__debug__" : Str)) = false := by decide)
    (he : starEach (e :: es) X.env = (false, eval e X.env) :: starEach es X.env := by rfl) (hpl : (backTo pos (starEach es X.env)).any (·.1) = false := by rfl) : QE X C (.Call (.Name x p) (e :: es) [] pos) (fun env => (fs env).bind g) :=
  pe_imp (pe_callTy hc hg hm hv ha hn hdb he hpl) fun σ H Q ⟨G, env, s, er, p⟩ => ⟨G, env, s, er, Post.bind p fun ds vs G1 H1 e1 r1 p1 => ho vs ds G1 H1 Q e1.gh r1 (Post.noex (hn' _) p1)⟩
/-- by cases: no way raises -/
local macro_rules | `(tactic| walk_at "fl_noex") => `(tactic| (intro ds n; split <;> first | (intro h; cases h) | (split <;> (intro h; cases h))))
def gLen : List D → Res D := fun ds => match ds with
  | [.list xs] => .ok (.int xs.length)
  | [.tuple xs] => .ok (.int xs.length)
  | [.scr ns] => .ok (.int ns.length)
  | [.str z] => if z.length ≤ 16777216 then .ok (.int z.length) else .bad
  | _ => .bad
theorem gLen_noex : ∀ ds, NoEx (gLen ds) := by
  unfold gLen
  walk_at "fl_noex"
theorem q_len {p : Pos} (hg : Gl X "len") (hm : X.mg "len" = none) (ha : QA X C (e :: es) fs) (he : starEach (e :: es) X.env = (false, eval e X.env) :: starEach es X.env := by rfl) (hpl : (backTo pos (starEach es X.env)).any (·.1) = false := by rfl) :
    QE X C (.Call (.Name "len" p) (e :: es) [] pos) (fun env => (fs env).bind gLen) :=
  q_callB call_len (fun vs ds G H Q s r p => by
    unfold gLen at p
    split at p
    · cases r with
      | cons r1 r2 =>
        cases r2
        cases r1 with
        | lst h hs =>
          refine ⟨_, _, rfl, .inl ⟨_, .inl (Rd.same s h), rfl⟩, ?_⟩
          rw [hs.length]
          exact p _ G H (.refl s) (.int _)
    · cases r with
      | cons r1 r2 =>
        cases r2
        cases r1 with
        | tup h hs =>
          refine ⟨_, _, rfl, .inr ⟨_, SqT.same s h, rfl⟩, ?_⟩
          rw [hs.length]
          exact p _ G H (.refl s) (.int _)
    · cases r with
      | cons r1 r2 =>
        cases r2
        cases r1 with
        | scr h =>
          refine ⟨_, _, rfl, .inl ⟨_, Same.seq s h, rfl⟩, ?_⟩
          rw [List.length_map]
          exact p _ G H (.refl s) (.int _)
    · split at p
      · rename_i hl
        cases r with
        | cons r1 r2 =>
          cases r2
          cases r1
          exact ⟨_, _, rfl, ⟨by rw [sizeLine_eq]; exact hl, rfl⟩, p _ G H (.refl s) (.int _)⟩
      · exact p.elim
    · exact p.elim) gLen_noex hg hm PySem.boot_len ha (by decide) (by decide) he hpl
def gAbs : List D → Res D := fun ds => match ds with
  | [.int i] => .ok (.int (if i < 0 then -i else i))
  | _ => .bad
theorem gAbs_noex : ∀ ds, NoEx (gAbs ds) := by
  unfold gAbs
  walk_at "fl_noex"
theorem q_abs {p : Pos} (hg : Gl X "abs") (hm : X.mg "abs" = none) (ha : QA X C (e :: es) fs) (he : starEach (e :: es) X.env = (false, eval e X.env) :: starEach es X.env := by rfl) (hpl : (backTo pos (starEach es X.env)).any (·.1) = false := by rfl) :
    QE X C (.Call (.Name "abs" p) (e :: es) [] pos) (fun env => (fs env).bind gAbs) :=
  q_callB call_abs (fun vs ds G H Q s r p => by
    unfold gAbs at p
    split at p
    · cases r with
      | cons r1 r2 =>
        cases r2
        cases r1
        exact ⟨_, rfl, p _ G H (.refl s) (.int _)⟩
    · exact p.elim) gAbs_noex hg hm boot_abs ha (by decide) (by decide) he hpl
def gMin : List D → Res D := fun ds => match ds with
  | [.int i, .int j] => .ok (.int (if j < i then j else i))
  | _ => .bad
def gMax : List D → Res D := fun ds => match ds with
  | [.int i, .int j] => .ok (.int (if j > i then j else i))
  | _ => .bad
theorem gMin_noex : ∀ ds, NoEx (gMin ds) := by
  unfold gMin
  walk_at "fl_noex"
theorem gMax_noex : ∀ ds, NoEx (gMax ds) := by
  unfold gMax
  walk_at "fl_noex"
theorem q_min {p : Pos} (hc : X.calm = true) (hg : Gl X "min") (hm : X.mg "min" = none) (ha : QA X C (e :: es) fs) (he : starEach (e :: es) X.env = (false, eval e X.env) :: starEach es X.env := by rfl) (hpl : (backTo pos (starEach es X.env)).any (·.1) = false := by rfl) :
    QE X C (.Call (.Name "min" p) (e :: es) [] pos) (fun env => (fs env).bind gMin) :=
  q_callB (call_min2 hc) (fun vs ds G H Q s r p => by
    unfold gMin at p
    split at p
    · cases r with
      | cons r1 r2 =>
        cases r2 with
        | cons r2 r3 =>
          cases r3
          cases r1
          cases r2
          exact ⟨_, _, rfl, p _ G H (.refl s) (.int _)⟩
    · exact p.elim) gMin_noex hg hm boot_min ha (by decide) (by decide) he hpl
theorem q_max {p : Pos} (hc : X.calm = true) (hg : Gl X "max") (hm : X.mg "max" = none) (ha : QA X C (e :: es) fs) (he : starEach (e :: es) X.env = (false, eval e X.env) :: starEach es X.env := by rfl) (hpl : (backTo pos (starEach es X.env)).any (·.1) = false := by rfl) :
    QE X C (.Call (.Name "max" p) (e :: es) [] pos) (fun env => (fs env).bind gMax) :=
  q_callB (call_max2 hc) (fun vs ds G H Q s r p => by
    unfold gMax at p
    split at p
    · cases r with
      | cons r1 r2 =>
        cases r2 with
        | cons r2 r3 =>
          cases r3
          cases r1
          cases r2
          exact ⟨_, _, rfl, p _ G H (.refl s) (.int _)⟩
    · exact p.elim) gMax_noex hg hm boot_max ha (by decide) (by decide) he hpl
/-- the ints of a list of data -/
def intsD : List D → Option (List Int)
  | [] => some []
  | .int i :: ds => (intsD ds).map (i :: ·)
  | _ :: _ => none
theorem intsD_map : ∀ (ns : List Int), intsD (ns.map D.int) = some ns
  | [] => rfl
  | n :: ns => by
    show (intsD (ns.map D.int)).map (n :: ·) = _
    rw [intsD_map ns]
    rfl
theorem intsD_eq : ∀ {ds : List D} {ns : List Int}, intsD ds = some ns → ds = ns.map D.int
  | [], _, e => by cases e; rfl
  | .int i :: ds, ns, e => by
    have e' : (intsD ds).map (i :: ·) = some ns := e
    cases h : intsD ds with
    | none => rw [h] at e'; cases e'
    | some ms =>
      rw [h] at e'
      cases e'
      rw [intsD_eq h]
      rfl
  | .none :: _, _, e => nomatch e
  | .bool _ :: _, _, e => nomatch e
  | .str _ :: _, _, e => nomatch e
  | .list _ :: _, _, e => nomatch e
  | .tuple _ :: _, _, e => nomatch e
  | .scr _ :: _, _, e => nomatch e
  | .obj _ :: _, _, e => nomatch e
  | .dic _ _ :: _, _, e => nomatch e
def boolsD : List D → Option (List Bool)
  | [] => some []
  | .bool i :: ds => (boolsD ds).map (i :: ·)
  | _ :: _ => none
theorem boolsD_map : ∀ (ns : List Bool), boolsD (ns.map D.bool) = some ns
  | [] => rfl
  | n :: ns => by
    show (boolsD (ns.map D.bool)).map (n :: ·) = _
    rw [boolsD_map ns]
    rfl
theorem boolsD_eq : ∀ {ds : List D} {ns : List Bool}, boolsD ds = some ns → ds = ns.map D.bool
  | [], _, e => by cases e; rfl
  | .bool i :: ds, ns, e => by
    have e' : (boolsD ds).map (i :: ·) = some ns := e
    cases h : boolsD ds with
    | none => rw [h] at e'; cases e'
    | some ms =>
      rw [h] at e'
      cases e'
      rw [boolsD_eq h]
      rfl
  | .none :: _, _, e => nomatch e
  | .int _ :: _, _, e => nomatch e
  | .str _ :: _, _, e => nomatch e
  | .list _ :: _, _, e => nomatch e
  | .tuple _ :: _, _, e => nomatch e
  | .scr _ :: _, _, e => nomatch e
  | .obj _ :: _, _, e => nomatch e
  | .dic _ _ :: _, _, e => nomatch e
def gSum : List D → Res D := fun ds => match ds with
  | [.list xs] => (match intsD xs with
    | some ns => .ok (.int ns.sum)
    | none => .bad)
  | _ => .bad
theorem gSum_noex : ∀ ds, NoEx (gSum ds) := by
  unfold gSum
  walk_at "fl_noex"
theorem q_sum {p : Pos} (hc : X.calm = true) (hg : Gl X "sum") (hm : X.mg "sum" = none) (ha : QA X C (e :: es) fs) (he : starEach (e :: es) X.env = (false, eval e X.env) :: starEach es X.env := by rfl) (hpl : (backTo pos (starEach es X.env)).any (·.1) = false := by rfl) :
    QE X C (.Call (.Name "sum" p) (e :: es) [] pos) (fun env => (fs env).bind gSum) :=
  q_callB (cr_sum hc) (fun vs ds G H Q s r p => by
    unfold gSum at p
    split at p
    · split at p
      · rename_i ns hns
        cases r with
        | cons r1 r2 =>
          cases r2
          cases r1 with
          | lst h hs =>
            have e1 := intsD_eq hns
            subst e1
            have e2 := hs.ints
            subst e2
            exact ⟨_, ns, rfl, .inl (Rd.same s h), p _ G H (.refl s) (.int _)⟩
      · exact p.elim
    · exact p.elim) gSum_noex hg hm (by decide +kernel) ha (by decide) (by decide) he hpl
def gAll : List D → Res D := fun ds => match ds with
  | [.list xs] => (match boolsD xs with
    | some ns => .ok (.bool (ns.all id))
    | none => .bad)
  | _ => .bad
theorem gAll_noex : ∀ ds, NoEx (gAll ds) := by
  unfold gAll
  walk_at "fl_noex"
theorem q_all {p : Pos} (hc : X.calm = true) (hg : Gl X "all") (hm : X.mg "all" = none) (ha : QA X C (e :: es) fs) (he : starEach (e :: es) X.env = (false, eval e X.env) :: starEach es X.env := by rfl) (hpl : (backTo pos (starEach es X.env)).any (·.1) = false := by rfl) :
    QE X C (.Call (.Name "all" p) (e :: es) [] pos) (fun env => (fs env).bind gAll) :=
  q_callB (cr_all hc) (fun vs ds G H Q s r p => by
    unfold gAll at p
    split at p
    · split at p
      · rename_i ns hns
        cases r with
        | cons r1 r2 =>
          cases r2
          cases r1 with
          | lst h hs =>
            have e1 := boolsD_eq hns
            subst e1
            have e2 := hs.bools
            subst e2
            exact ⟨_, ns, rfl, .inl (Rd.same s h), p _ G H (.refl s) (.bl _)⟩
      · exact p.elim
    · exact p.elim) gAll_noex hg hm (by decide +kernel) ha (by decide) (by decide) he hpl
/-- int(i) of an int -/
def gInt : List D → Res D := fun ds => match ds with
  | [.int i] => .ok (.int i)
  | _ => .bad
theorem gInt_noex : ∀ ds, NoEx (gInt ds) := by
  unfold gInt
  walk_at "fl_noex"
theorem call_int_i : CallR X (.type "int") (fun xs H Q => ∃ i, xs = [.int i] ∧ Q (.int i) H) := by
  intro pins s σ H xs us Q I r h
  obtain ⟨i, rfl, q⟩ := h
  obtain ⟨u, rfl, ⟨t, rfl⟩⟩ := vals1 r
  exact call_int_int ⟨.int i, H, I, ⟨_, rfl⟩, q⟩
theorem q_int_of {p : Pos} (hg : Gl X "int") (hm : X.mg "int" = none) (ha : QA X C (e :: es) fs) (he : starEach (e :: es) X.env = (false, eval e X.env) :: starEach es X.env := by rfl) (hpl : (backTo pos (starEach es X.env)).any (·.1) = false := by rfl) :
    QE X C (.Call (.Name "int" p) (e :: es) [] pos) (fun env => (fs env).bind gInt) :=
  q_callTy call_int_i (fun vs ds G H Q s r p => by
    unfold gInt at p
    split at p
    · cases r with
      | cons r1 r2 =>
        cases r2
        cases r1
        exact ⟨_, rfl, p _ G H (.refl s) (.int _)⟩
    · exact p.elim) gInt_noex hg hm boot_int ha (by decide) (by decide) he hpl
/-- list(x) -/
def gList : List D → Res (List D) := fun ds => match ds with
  | [.list xs] => .ok xs
  | [.tuple xs] => .ok xs
  | [.scr ns] => .ok (ns.map D.int)
  | _ => .bad
theorem qf_listOf {p : Pos} (hg : Gl X "list") (hm : X.mg "list" = none) (ha : QA X C (e :: es) fs) (he : starEach (e :: es) X.env = (false, eval e X.env) :: starEach es X.env := by rfl) (hpl : (backTo pos (starEach es X.env)).any (·.1) = false := by rfl) :
    QF X C (.Call (.Name "list" p) (e :: es) [] pos) (fun env => (fs env).bind gList) :=
  pe_imp (pe_callTy call_list_of hg hm boot_list ha (by decide) (by decide) he hpl) fun σ H Q ⟨G, env, s, er, p⟩ => ⟨G, env, s, er, PostF.bind p fun ds vs G1 H1 e1 r1 p1 => by
    unfold gList at p1
    split at p1
    · cases r1 with
      | cons r1 r2 =>
        cases r2
        cases r1 with
        | lst h hs => exact ⟨_, _, rfl, .inl (.inl (Rd.same e1.gh h)), fun q hq => PostF.new e1.gh p1 hs hq⟩
    · cases r1 with
      | cons r1 r2 =>
        cases r2
        cases r1 with
        | tup h hs => exact ⟨_, _, rfl, .inr (SqT.same e1.gh h), fun q hq => PostF.new e1.gh p1 hs hq⟩
    · cases r1 with
      | cons r1 r2 =>
        cases r2
        cases r1 with
        | scr h =>
          exact ⟨_, _, rfl, .inl (Same.seq e1.gh h), fun q hq => PostF.new e1.gh p1 (Rps.of_ints _) hq⟩
    · exact p1.elim⟩
/-- tuple(x) -/
def gTuple : List D → Res D := fun ds => match ds with
  | [.list xs] => .ok (.tuple xs)
  | [.tuple xs] => .ok (.tuple xs)
  | _ => .bad
theorem q_tupleOf {p : Pos} (hg : Gl X "tuple") (hm : X.mg "tuple" = none) (ha : QA X C (e :: es) fs) (he : starEach (e :: es) X.env = (false, eval e X.env) :: starEach es X.env := by rfl) (hpl : (backTo pos (starEach es X.env)).any (·.1) = false := by rfl) :
    QE X C (.Call (.Name "tuple" p) (e :: es) [] pos) (fun env => (fs env).bind gTuple) :=
  pe_imp (pe_callTy call_tuple_of hg hm boot_tuple ha (by decide) (by decide) he hpl) fun σ H Q ⟨G, env, s, er, p⟩ => ⟨G, env, s, er, Post.bind p fun ds vs G1 H1 e1 r1 p1 => by
    unfold gTuple at p1
    split at p1
    · cases r1 with
      | cons r1 r2 =>
        cases r2
        cases r1 with
        | lst h hs => exact ⟨_, _, rfl, .inl ⟨.inl (Rd.same e1.gh h), fun q hq => Post.tup e1.gh p1 hs hq⟩⟩
    · cases r1 with
      | cons r1 r2 =>
        cases r2
        cases r1 with
        | tup h hs => exact ⟨_, _, rfl, .inr ⟨SqT.same e1.gh h, p1 _ _ _ (.refl e1.gh) (.tup h hs)⟩⟩
    · exact p1.elim⟩
/-! ### isinstance -/
/-- a plain kind of value -/
def pln : D → Bool
  | .obj _ => false
  | .dic _ _ => false
  | _ => true
def tyNm : D → String := fun d => match d with
  | .none => "NoneType"
  | .bool _ => "bool"
  | .int _ => "int"
  | .str _ => "str"
  | .list _ => "list"
  | .tuple _ => "tuple"
  | .scr _ => "list"
  | .obj _ => "object"
  | .dic _ _ => "dict"
theorem kitT {d : D} {v : V} {u : Value} {pins : List (Addr × Obj)} {σ : St} {G : Vw} {H : Hp} {s : Shared} (I : Inv X pins σ H s) (sg : Same G.h H) (rv : RelV v u) (r : Rp X.K G v d) (hp : pln d = true) :
    ∃ (T : String) (P : Heap → Prop), PySem.W.KitX X.K u (.type T) P ∧ P s.heap ∧ u ≠ .builtin "__main__.__loader__#opaque" ∧ T = tyNm d := by
  cases r with
  | non =>
    cases rv
    exact ⟨_, _, PySem.W.kitx_none, True.intro, (fun z => nomatch z), rfl⟩
  | bl b =>
    cases rv
    exact ⟨_, _, PySem.W.kitx_bool, True.intro, (fun z => nomatch z), rfl⟩
  | int i =>
    obtain ⟨t, rfl⟩ := rv
    exact ⟨_, _, PySem.W.kitx_int, True.intro, (fun z => nomatch z), rfl⟩
  | str x =>
    obtain ⟨t, rfl⟩ := rv
    exact ⟨_, _, PySem.W.kitx_str, True.intro, (fun z => nomatch z), rfl⟩
  | lst h hs =>
    cases rv
    obtain ⟨_, its, n, _, h1⟩ := (Rd.same sg h).ok I.hok
    exact ⟨_, _, PySem.W.kitx_list, ⟨_, h1, rfl⟩, (fun z => nomatch z), rfl⟩
  | tup h hs =>
    cases rv
    obtain ⟨its, _, ⟨o, h1, h2, _⟩, _⟩ := I.tuple (SqT.same sg h)
    exact ⟨_, _, PySem.W.kitx_tuple, ⟨o, h1, h2⟩, (fun z => nomatch z), rfl⟩
  | scr h =>
    cases rv
    obtain ⟨its, _, ⟨o, n, h1, h2, _⟩, _⟩ := I.list (Same.seq sg h)
    exact ⟨_, _, PySem.W.kitx_list, ⟨o, h1, h2⟩, (fun z => nomatch z), rfl⟩
  | obj _ => cases hp
  | dic _ _ _ => cases hp
def isInt : D → Bool := fun d => match d with
  | .int _ => true
  | .bool _ => true
  | _ => false
def isBool : D → Bool := fun d => match d with
  | .bool _ => true
  | _ => false
def isList : D → Bool := fun d => match d with
  | .list _ => true
  | .scr _ => true
  | _ => false
def isTuple : D → Bool := fun d => match d with
  | .tuple _ => true
  | _ => false
def isStr : D → Bool := fun d => match d with
  | .str _ => true
  | _ => false
def KitOf (T : String) (f : D → Bool) : Prop := ∀ d : D, pln d = true → kitB (tyNm d) T = some (f d)
theorem kit_int : KitOf "int" isInt := fun d h => by cases d <;> first | (cases h; done) | (simp only [tyNm, isInt]; decide +kernel)
theorem kit_bool : KitOf "bool" isBool := fun d h => by cases d <;> first | (cases h; done) | (simp only [tyNm, isBool]; decide +kernel)
theorem kit_list : KitOf "list" isList := fun d h => by cases d <;> first | (cases h; done) | (simp only [tyNm, isList]; decide +kernel)
theorem kit_tuple : KitOf "tuple" isTuple := fun d h => by cases d <;> first | (cases h; done) | (simp only [tyNm, isTuple]; decide +kernel)
theorem kit_str : KitOf "str" isStr := fun d h => by cases d <;> first | (cases h; done) | (simp only [tyNm, isStr]; decide +kernel)
def rIsF (K : PySem.W.Frag) (T : String) (f : D → Bool) : List V → Hp → VK → Prop := fun xs H Q => ∃ x d G, xs = [x, .ty T] ∧ Same G.h H ∧ Rp K G x d ∧ pln d = true ∧ Q (.bl (f d)) H
theorem call_isF {T : String} {f : D → Bool} (k : KitOf T f) : CallR X (.builtin "isinstance") (rIsF X.K T f) := by
  intro pins s σ H xs us Q I r h
  obtain ⟨x, d, G, rfl, sg, rp, hp, q⟩ := h
  obtain ⟨u1, u2, rfl, r1, r2⟩ := vals2 r
  cases (show u2 = Value.type T from r2)
  obtain ⟨T', P, Z, p, hx, eT⟩ := kitT I sg r1 rp hp
  have e := k d hp
  rw [← eT] at e
  exact PySem.W.kia_one Z I.kIn p (kit_ty e) hx fun tk => ⟨.bl (f d), H, I.tok tk, rfl, q⟩
def eIsi (f : D → Bool) (fa : Env → Res D) : Env → Res D := fun env => (fa env).bind fun d => if pln d = true then .ok (.bool (f d)) else .bad
theorem q_isi {T : String} {g : D → Bool} {x : Str} {p p2 : Pos} (k : KitOf T g) (hg : Gl X "isinstance") (hm : X.mg "isinstance" = none) (hgT : Gl X x) (hmT : X.mg x = none) (hvT : bootBuiltins x = some (.type T)) (ha : QE X C e fa)
    (hnT : x ≠ "__name__" := by decide) (hdT : (x == ("__debug__" : Str)) = false := by decide)
    (he : starEach (e :: [.Name x p2]) X.env = (false, eval e X.env) :: starEach [.Name x p2] X.env := by rfl) (he2 : starEach [.Name x p2] X.env = (false, eval (.Name x p2) X.env) :: starEach [] X.env := by rfl) (hpl : (backTo pos (starEach [.Name x p2] X.env)).any (·.1) = false := by rfl) :
    QE X C (.Call (.Name "isinstance" p) [e, .Name x p2] [] pos) (eIsi g fa) :=
  pe_imp (pe_callB (call_isF k) hg hm boot_isinstance (pa_cons ha (pa_cons (pe_bltn hgT hmT hvT (v := .ty T) rfl hnT hdT) pa_nil he2) he) (by decide) (by decide) he hpl) fun σ H Q ⟨G, env, s, er, p⟩ => ⟨G, env, s, er, Post.bind p fun d v G1 H1 e1 r1 p1 => by
    split at p1
    · rename_i h
      exact ⟨v, d, G1, rfl, e1.gh, r1, h, p1 _ _ _ (.refl e1.gh) (.bl _)⟩
    · exact p1.elim⟩
/-! ### subscripts, slices -/
def gIx : D → D → Res D := fun x y => match x, y with
  | .list xs, .int i => (match atI xs i with
    | some d => .ok d
    | none => .bad)
  | .tuple xs, .int i => (match atI xs i with
    | some d => .ok d
    | none => .bad)
  | .scr ns, .int i => (match atI ns i with
    | some n => .ok (.int n)
    | none => .bad)
  | .str z, .int i => if z.length ≤ 16777216 then (match atI z.cps.toList i with
    | some c => .ok (.str ⟨#[c]⟩)
    | none => .bad) else .bad
  | _, _ => .bad
theorem gIx_noex : ∀ x y, NoEx (gIx x y) := by
  intro x y n
  unfold gIx
  split
  · split <;> intro h <;> cases h
  · split <;> intro h <;> cases h
  · split <;> intro h <;> cases h
  · split
    · split <;> intro h <;> cases h
    · intro h
      cases h
  · intro h
    cases h
theorem Rps.atI {K : PySem.W.Frag} {G : Vw} {vs : List V} {ds : List D} {i : Int} {d : D} (r : Rps K G vs ds) (h : L2.atI ds i = some d) : ∃ v, L2.atI vs i = some v ∧ Rp K G v d := by
  unfold L2.atI at h ⊢
  rw [r.length]
  cases e : ixN ds.length i with
  | none => rw [e] at h; cases h
  | some j =>
    rw [e] at h
    exact r.get h
theorem atI_map {α β : Type} {f : α → β} {xs : List α} {i : Int} : L2.atI (xs.map f) i = (L2.atI xs i).map f := by
  unfold L2.atI
  rw [List.length_map]
  cases ixN xs.length i with
  | none => rfl
  | some j =>
    show (xs.map f)[j]? = (xs[j]?).map f
    rw [List.getElem?_map]
theorem gIx_op {K : PySem.W.Frag} : OpF K gIx (rIx K) := by
  intro x y dx dy G H Q s rx ry p
  unfold gIx at p
  split at p
  · cases rx with
    | lst h hs =>
      cases ry
      split at p
      · rename_i d hd
        obtain ⟨v, hv, rv⟩ := hs.atI hd
        exact .inl ⟨_, _, _, v, rfl, rfl, .inl (Rd.same s h), hv, p v G H (.refl s) rv⟩
      · exact p.elim
  · cases rx with
    | tup h hs =>
      cases ry
      split at p
      · rename_i d hd
        obtain ⟨v, hv, rv⟩ := hs.atI hd
        exact .inr (.inl ⟨_, _, _, v, rfl, rfl, SqT.same s h, hv, p v G H (.refl s) rv⟩)
      · exact p.elim
  · cases rx with
    | scr h =>
      cases ry
      split at p
      · rename_i n hd
        exact .inl ⟨_, _, _, _, rfl, rfl, Same.seq s h, by rw [atI_map, hd] <;> rfl, p _ G H (.refl s) (.int n)⟩
      · exact p.elim
  · cases rx
    cases ry
    split at p
    · rename_i hz
      split at p
      · rename_i c hc
        exact .inr (.inr ⟨_, _, c, rfl, rfl, by rw [sizeLine_eq]; exact hz, hc, p _ G H (.refl s) (.str _)⟩)
      · exact p.elim
    · exact p.elim
  · exact p.elim
theorem q_ix (ha : QE X C a fa) (hb : QE X C b fb) (hs : PlainIx b) : QE X C (.Subscript a b pos) (e2 gIx fa fb) := pe_imp (pe_ix ix_seq ha hb hs) fun _ _ _ h => op2 gIx_op gIx_noex h
def cutD (ds : List D) (lo hi : Option Int) : List D := (ds.drop (HT.sIx ds.length 0 lo)).take (HT.sIx ds.length ds.length hi - HT.sIx ds.length 0 lo)
theorem Rps.cut {K : PySem.W.Frag} {G : Vw} {vs : List V} {ds : List D} (lo hi : Option Int) (r : Rps K G vs ds) : Rps K G (cutV vs lo hi) (cutD ds lo hi) := by
  unfold cutV cutD
  rw [r.length]
  exact (r.drop _).take _
/-- a slice's part -/
def eNo : Env → Res (Option Int) := fun _ => .ok none
def eSo (f : Env → Res D) : Env → Res (Option Int) := fun env => (f env).bind fun d => match d with
  | .int i => .ok (some i)
  | _ => .bad
abbrev OpR' : Vw → Option Int → Option Int → Prop := fun _ a b => a = b
def tXo (K : PySem.W.Frag) (C : Cf) (f : Env → Res (Option Int)) : TO := fun σ H Q => ∃ G env, Same G.h H ∧ ER K C G H env σ ∧ Post OpR' (C.xw σ) G H Q (f env)
abbrev QO (X : Cx) (C : Cf) (e : Option Expr) (f : Env → Res (Option Int)) : Prop := PO X e (tXo X.K C f)
theorem po_imp {e : Option Expr} {t t' : TO} (h : PO X e t) (i : ∀ σ H Q, t' σ H Q → t σ H Q) : PO X e t' := ⟨fun pins s σ H Q I w => h.run pins s σ H Q I (i σ H Q w)⟩
theorem qo_no : QO X C none eNo := po_imp po_none fun σ H Q ⟨G, env, s, er, p⟩ => p _ G H (.refl s) rfl
theorem qo_so (h : QE X C e f) : QO X C (some e) (eSo f) := po_imp (po_some h) fun σ H Q ⟨G, env, s, er, p⟩ => ⟨G, env, s, er, Post.bind p fun d v G1 H1 e1 r1 p1 => by
  split at p1
  · cases r1
    exact ⟨_, rfl, p1 _ _ _ (.refl e1.gh) rfl⟩
  · exact p1.elim⟩
def eSlice (fa : Env → Res D) (fl fh : Env → Res (Option Int)) : Env → Res (List D) := fun env => (fa env).bind fun d => (fl env).bind fun lo => (fh env).bind fun hi => match d with
  | .list ds => .ok (cutD ds lo hi)
  | .scr ns => .ok (cutD (ns.map D.int) lo hi)
  | _ => .bad
theorem qf_slice {lo hi : Option Expr} {p2 : Pos} {fl fh : Env → Res (Option Int)} (ha : QE X C a fa) (hl : QO X C lo fl) (hh : QO X C hi fh) : QF X C (.Subscript a (.Slice lo hi none p2) pos) (eSlice fa fl fh) :=
  pe_imp (pe_slice sl_list ha hl hh) fun σ H Q ⟨G, env, s, er, p⟩ => ⟨G, env, s, er, PostF.bind p fun d x G1 H1 e1 r1 p1 => ⟨G1, env, e1.gh, er.ext e1, PostF.bind p1 fun lo l G2 H2 e2 r2 p2 => ⟨G2, env, e2.gh, (er.ext e1).ext e2, PostF.bind p2 fun hi u G3 H3 e3 r3 p3 => by
    cases r2
    cases r3
    split at p3
    · cases r1 with
      | lst h hs => exact ⟨_, _, rfl, .inl (Rd.same ((e2.gg.trans e3.gg).trans e3.gh) h), fun q hq => PostF.new e3.gh p3 ((hs.same (e2.le.trans e3.le)).cut _ _) hq⟩
    · cases r1 with
      | scr h =>
        exact ⟨_, _, rfl, Same.seq ((e2.gg.trans e3.gg).trans e3.gh) h, fun q hq => PostF.new e3.gh p3 ((Rps.of_ints _).cut _ _) hq⟩
    · exact p3.elim⟩⟩⟩
def eRev (fa : Env → Res D) : Env → Res (List D) := fun env => (fa env).bind fun d => match d with
  | .list ds => .ok ds.reverse
  | _ => .bad
theorem qf_rev {k : Nat} {p1 p2 p3 : Pos} (ha : QE X C a fa) : QF X C (.Subscript a (.Slice none none (some (.UnaryOp .USub (.Constant (.int 1) k p1) p2)) p3) pos) (eRev fa) :=
  pe_imp (pe_revL ha) fun σ H Q ⟨G, env, s, er, p⟩ => ⟨G, env, s, er, PostF.bind p fun d x G1 H1 e1 r1 p1 => by
    split at p1
    · cases r1 with
      | lst h hs => exact ⟨_, _, rfl, .inl (Rd.same e1.gh h), fun q hq => PostF.new e1.gh p1 hs.reverse hq⟩
    · exact p1.elim⟩
/-! ### list + list, list * int -/
theorem Inv.lstR {pins : List (Addr × Obj)} {σ : St} {H : Hp} {s : Shared} {l : Addr} {xs : List V} (I : Inv X pins σ H s) (h : Rd H l (.lst xs)) : xs.length ≤ sizeLine ∧ ∃ (its : List Value) (n : Nat), Vals xs its ∧ xs.length = its.length ∧ s.heap.get? l = some { cls := .type "list", data := .seq its.toArray n } := by
  obtain ⟨z, its, n, r, e⟩ := h.ok I.hok
  exact ⟨z, its, n, r, r.length, e⟩
def rCatR : R2 := fun x y H Q => ∃ l b xs zs, x = .ref l ∧ y = .ref b ∧ Rd H l (.lst xs) ∧ Rd H b (.lst zs) ∧ xs.length + zs.length ≤ sizeLine ∧ ∀ p, H p = none → Q (.ref p) (upd H p (.lst (xs ++ zs)))
theorem op_catR : OpR X (binaryOp .Add) rCatR := by
  intro pins s σ H x y v u Q I rx ry h
  obtain ⟨l, b, xs, zs, rfl, rfl, hH, hB, hz, q⟩ := h
  cases rx
  cases ry
  obtain ⟨z, its, n, r, hl, e⟩ := Inv.lstR I hH
  obtain ⟨z2, its2, n2, r2, hl2, e2⟩ := Inv.lstR I hB
  refine PySem.P.add_list e e2 ?_ (by rw [List.size_toArray, List.size_toArray]; omega)
  have ea : its.toArray ++ its2.toArray = (its ++ its2).toArray := by simp
  rw [ea]
  exact ⟨.ref _, _, I.lnew (t' := s.toks) (r.append r2) (by rw [List.length_append]; omega), rfl, q _ I.fresh⟩
/-- a + b, lists: a new list -/
def gCat : D → D → Res (List D) := fun x y => match x, y with
  | .list xs, .list ys => fit (xs ++ ys)
  | _, _ => .bad
def e2F (g : D → D → Res (List D)) (fa fb : Env → Res D) : Env → Res (List D) := fun env => (fa env).bind fun x => (fb env).bind fun y => g x y
theorem qf_cat (ha : QE X C a fa) (hb : QE X C b fb) : QF X C (.BinOp a .Add b pos) (e2F gCat fa fb) :=
  pe_imp (pe_op op_catR ha hb) fun σ H Q ⟨G, env, s, er, p⟩ => ⟨G, env, s, er, PostF.bind p fun dx x G1 H1 e1 r1 p1 => ⟨G1, env, e1.gh, er.ext e1, PostF.bind p1 fun dy y G2 H2 e2 r2 p2 => by
    unfold gCat at p2
    split at p2
    · obtain ⟨p3, hl⟩ := fit_postF p2
      cases r1 with
      | lst h hs =>
        cases r2 with
        | lst h2 hs2 =>
          rw [List.length_append] at hl
          have hs' := hs.same e2.le
          exact ⟨_, _, _, _, rfl, rfl, Rd.same (e2.gg.trans e2.gh) h, Rd.same e2.gh h2, by rw [hs.length, hs2.length]; exact hl, fun q hq => PostF.new e2.gh p3 (hs'.append hs2) hq⟩
    · exact p2.elim⟩⟩
/-- strings -/
def gAddS : D → D → Res D := fun x y => match x, y with
  | .str i, .str j => if i.length + j.length ≤ 16777216 then .ok (.str (i ++ j)) else .bad
  | _, _ => .bad
theorem gAddS_noex : ∀ x y, NoEx (gAddS x y) := by
  intro x y n
  unfold gAddS
  split
  · split <;> intro h <;> cases h
  · intro h
    cases h
theorem q_addS (ha : QE X C a fa) (hb : QE X C b fb) : QE X C (.BinOp a .Add b pos) (e2 gAddS fa fb) := q_bin op_add_str (by
  intro x y dx dy G H Q s rx ry p
  unfold gAddS at p
  split at p
  · cases rx
    cases ry
    split at p
    · rename_i h
      exact ⟨_, _, rfl, rfl, by rw [sizeLine_eq]; exact h, p _ G H (.refl s) (.str _)⟩
    · exact p.elim
  · exact p.elim) gAddS_noex ha hb
/-- is None, is not None -/
def gIsN : D → D → Res D := fun x y => match y with
  | .none => .ok (.bool (match x with | .none => true | _ => false))
  | _ => .bad
def gNotN : D → D → Res D := fun x y => match y with
  | .none => .ok (.bool (match x with | .none => false | _ => true))
  | _ => .bad
theorem gIsN_noex : ∀ x y, NoEx (gIsN x y) := by
  intro x y n
  unfold gIsN
  split <;> intro h <;> cases h
theorem gNotN_noex : ∀ x y, NoEx (gNotN x y) := by
  intro x y n
  unfold gNotN
  split <;> intro h <;> cases h
theorem isN_op {K : PySem.W.Frag} : OpF K gIsN (fun x y H Q => y = .non ∧ Q (.bl (decide (x = .non))) H) := by
  intro x y dx dy G H Q s rx ry p
  unfold gIsN at p
  split at p
  · cases ry
    refine ⟨rfl, ?_⟩
    cases rx <;> exact p _ G H (.refl s) (.bl _)
  · exact p.elim
theorem notN_op {K : PySem.W.Frag} : OpF K gNotN (fun x y H Q => y = .non ∧ Q (.bl (!decide (x = .non))) H) := by
  intro x y dx dy G H Q s rx ry p
  unfold gNotN at p
  split at p
  · cases ry
    refine ⟨rfl, ?_⟩
    cases rx <;> exact p _ G H (.refl s) (.bl _)
  · exact p.elim
theorem q_isN (ha : QE X C a fa) (hb : QE X C b fb) : QE X C (.Compare a [.Is] [b] pos) (e2 gIsN fa fb) := q_cmp op_isN isN_op gIsN_noex (nomark _) ha hb
theorem q_notN (ha : QE X C a fa) (hb : QE X C b fb) : QE X C (.Compare a [.IsNot] [b] pos) (e2 gNotN fa fb) := q_cmp op_notN notN_op gNotN_noex (nomark _) ha hb
theorem qt_isN (ha : QE X C a fa) (hb : QE X C b fb) : QT X C (.Compare a [.Is] [b] pos) (eB (e2 gIsN fa fb)) := qt_cmp op_isN isN_op gIsN_noex (nomark _) ha hb
theorem qt_notN (ha : QE X C a fa) (hb : QE X C b fb) : QT X C (.Compare a [.IsNot] [b] pos) (eB (e2 gNotN fa fb)) := qt_cmp op_notN notN_op gNotN_noex (nomark _) ha hb
/-- [e] * n: the list is the display's own -/
def gRep : D → D → Res (List D) := fun x y => match x, y with
  | .list xs, .int k => if (-k).toNat ≤ 1000000000 ∧ k.toNat ≤ 1000000000 ∧ xs.length * k.toNat ≤ 16777216 then .ok (List.replicate k.toNat xs).flatten else .bad
  | _, _ => .bad
def e2FF (fa : Env → Res (List D)) (fb : Env → Res D) : Env → Res (List D) := fun env => (fa env).bind fun x => (fb env).bind fun y => gRep (.list x) y
theorem qf_rep {ff : Env → Res (List D)} (ha : QF X C a ff) (hb : QE X C b fb) : QF X C (.BinOp a .Mult b pos) (e2FF ff fb) :=
  pe_imp (pe_op op_rep ha hb) fun σ H Q ⟨G, env, s, er, p⟩ => ⟨G, env, s, er, by
    unfold e2FF at p
    cases hf : ff env with
    | bad =>
      rw [hf] at p
      exact p
    | ex n =>
      rw [hf] at p
      exact p
    | ok ds =>
      rw [hf] at p
      have p' : PostF X.K (C.xw σ) G H Q ((fb env).bind fun y => gRep (.list ds) y) := p
      intro l vs G1 H1 e1 hp gp hl r1
      refine ⟨G1, env, e1.gh, er.ext e1, PostF.bind (PostF.ext e1 p') fun dy y G2 H2 e2 r2 p2 => ?_⟩
      unfold gRep at p2
      split at p2
      · rename_i k ex
        cases ex
        cases r2
        split at p2
        · rename_i h
          have e63 : (2 : Int) ^ 63 = 9223372036854775808 := by decide
          exact ⟨l, k, vs, rfl, rfl, e2.hh _ _ hl, by rw [e63]; have := h.1; omega, by rw [e63]; have := h.2.1; omega, by rw [r1.length, sizeLine_eq]; exact h.2.2, fun q hq => PostF.new e2.gh p2 ((r1.same e2.le).rep _) hq⟩
        · exact p2.elim
      · exact p2.elim⟩
end
end L2.FO

set_option Elab.async false
set_option linter.all false
set_option maxRecDepth 100000
set_option maxHeartbeats 4000000
namespace L2.FO
open PySem PySem.Spec PyProof.Rows
/-! ### slots -/
def setV (σ : St) : List Nat → List V → St
  | i :: is, v :: vs => setV (σ.set i (some v)) is vs
  | _, _ => σ
def setE (e : List Sl) : List Nat → List D → List Sl
  | i :: is, d :: ds => setE (e.set i (.val d)) is ds
  | _, _ => e
abbrev Env.setE (e : Env) (is : List Nat) (ds : List D) : Env := ⟨FO.setE e.sl is ds, e.st, e.fl⟩
theorem setV_length : ∀ (is : List Nat) (vs : List V) (σ : St), (setV σ is vs).length = σ.length
  | [], _, _ => rfl
  | _ :: _, [], _ => rfl
  | i :: is, v :: vs, σ => by
    show (setV (σ.set i (some v)) is vs).length = _
    rw [setV_length is vs, List.length_set]
theorem ES.set {K : PySem.W.Frag} {z : Addr × Nat} {G : Vw} {env : List Sl} {σ : St} {v : V} {d : D} (e : ES K z G env σ) (r : Rp K G v d) (i : Nat) : ES K z G (env.set i (.val d)) (σ.set i (some v)) := by
  refine ⟨fun j d' h => ?_, fun j n h => ?_, by rw [List.length_set, List.length_set]; exact e.len⟩
  · by_cases hj : i = j
    · subst hj
      have hi : i < env.length := by
        have := (List.getElem?_eq_some_iff.mp h).1
        rwa [List.length_set] at this
      rw [List.getElem?_set_self hi] at h
      cases h
      exact ⟨v, List.getElem?_set_self (by rw [← e.len]; exact hi), r⟩
    · rw [List.getElem?_set_ne hj] at h
      rw [List.getElem?_set_ne hj]
      exact e.val j d' h
  · by_cases hj : i = j
    · subst hj
      have hi : i < env.length := by
        have := (List.getElem?_eq_some_iff.mp h).1
        rwa [List.length_set] at this
      rw [List.getElem?_set_self hi] at h
      cases h
    · rw [List.getElem?_set_ne hj] at h
      rw [List.getElem?_set_ne hj]
      exact e.exc j n h
theorem ES.setAll {K : PySem.W.Frag} {z : Addr × Nat} {G : Vw} : ∀ {is : List Nat} {vs : List V} {ds : List D} {env : List Sl} {σ : St}, ES K z G env σ → Rps K G vs ds → ES K z G (setE env is ds) (setV σ is vs)
  | [], _, _, _, _, e, _ => e
  | _ :: _, _, _, _, _, e, .nil => e
  | i :: is, _, _, _, _, e, .cons h hs => ES.setAll (is := is) (e.set h i) hs
theorem ER.setAll {K : PySem.W.Frag} {C : Cf} {G : Vw} {H : Hp} {is : List Nat} {vs : List V} {ds : List D} {env : Env} {σ : St} (e : ER K C G H env σ) (r : Rps K G vs ds) : ER K C G H (env.setE is ds) (setV σ is vs) := ⟨e.es.setAll r, e.or, e.fl, e.fe⟩
/-! ### targets -/
inductive Tg where
  | nm (i : Nat)
  | tp (is : List Nat)
  | ul (is : List Nat)
def Tg.is : Tg → List Nat
  | .nm i => [i]
  | .tp is => is
  | .ul is => is
def Tg.parts : Tg → D → Option (List D)
  | .nm _, d => some [d]
  | .tp is, .tuple ds => if ds.length = is.length then some ds else none
  | .ul is, .list ds => if ds.length = is.length then some ds else none
  | _, _ => none
def gNames : List Nat → TGs
  | [] => gNil
  | i :: is => gCons (gName i) (gNames is)
def Tg.g (K : PySem.W.Frag) : Tg → TG
  | .nm i => gName i
  | .tp is => gTup K is.length (gNames is)
  | .ul is => gUnl K is.length (gNames is)
theorem gNames_run : ∀ {is : List Nat} {vs : List V} {σ : St} {H : Hp} {Q : St → Hp → Prop}, vs.length = is.length → Q (setV σ is vs) H → gNames is vs σ H Q
  | [], [], _, _, _, _, q => ⟨rfl, q⟩
  | i :: is, v :: vs, σ, H, Q, h, q => ⟨v, vs, rfl, gNames_run (is := is) (by simpa using h) q⟩
  | [], _ :: _, _, _, _, h, _ => by simp at h
  | _ :: _, [], _, _, _, h, _ => by simp at h
theorem Tg.run {K : PySem.W.Frag} {G : Vw} {H : Hp} {tg : Tg} {v : V} {d : D} {ds : List D} {σ : St} {Q : St → Hp → Prop} (s : Same G.h H) (r : Rp K G v d) (hp : tg.parts d = some ds) (q : ∀ vs, Rps K G vs ds → Q (setV σ tg.is vs) H) : tg.g K v σ H Q := by
  cases tg with
  | nm i =>
    cases hp
    exact q [v] (.cons r .nil)
  | tp is =>
    cases r <;> first | (cases hp; done) | skip
    rename_i h hs
    unfold Tg.parts at hp
    dsimp only at hp
    split at hp
    · rename_i hl
      cases hp
      exact ⟨_, _, rfl, SqT.same s h, hs.length.trans hl, gNames_run (hs.length.trans hl) (q _ hs)⟩
    · cases hp
  | ul is =>
    cases r <;> first | (cases hp; done) | skip
    rename_i h hs
    unfold Tg.parts at hp
    dsimp only at hp
    split at hp
    · rename_i hl
      cases hp
      exact ⟨_, _, rfl, .inl (Rd.same s h), hs.length.trans hl, gNames_run (hs.length.trans hl) (q _ hs)⟩
    · cases hp
/-- a target in the program's text -/
abbrev QG (X : Cx) (tg : Expr) (t : Tg) : Prop := PG X tg (t.g X.K)
/-! ### what a loop goes over -/
structure Wk (K : PySem.W.Frag) (J : It) (G : Vw) (ds : List D) : Prop where
  go : ∀ i H, Same G.h H → i < ds.length → J.go i H
  yl : ∀ i H v H' d Gc, Le G Gc → Same Gc.h H → J.yld i H v H' → ds[i]? = some d → ∃ Gc', Ext Gc H Gc' H' ∧ Rp K Gc' v d
  st : ∀ i H, Same G.h H → i = ds.length → J.stop i H
abbrev WkR (K : PySem.W.Frag) : Vw → It → List D → Prop := fun G J ds => Wk K J G ds
def tXi (K : PySem.W.Frag) (C : Cf) (f : Env → Res (List D)) : TI := fun σ H R => ∃ G env, Same G.h H ∧ ER K C G H env σ ∧ Post (WkR K) (C.xw σ) G H R (f env)
abbrev QI (X : Cx) (C : Cf) (tg iter : Expr) (f : Env → Res (List D)) : Prop := PI X tg iter (tXi X.K C f)
theorem pi_imp {X : Cx} {tg iter : Expr} {t t' : TI} (h : PI X tg iter t) (i : ∀ σ H R, t' σ H R → t σ H R) : PI X tg iter t' := ⟨fun pins s σ H R I w => h.run pins s σ H R I (i σ H R w)⟩
section
variable {K : PySem.W.Frag} {G : Vw} {a b : Addr} {xs : List V} {ds : List D}
theorem wk_list (h : SqL K G.h a xs) (hs : Rps K G xs ds) : Wk K (Itl K a) G ds where
  go i H s hi := by
    have hx : i < xs.length := by rw [hs.length]; exact hi
    exact ⟨xs, xs[i], Same.seq s h, List.getElem?_eq_getElem hx⟩
  yl i H v H' d Gc s1 s2 y hd := by
    obtain ⟨rfl, hy⟩ := y
    obtain ⟨v', hv, rv⟩ := hs.get hd
    have e := (hy xs (Same.seq (s1.h.trans s2) h)).symm.trans hv
    cases e
    exact ⟨Gc, .refl s2, rv.same s1⟩
  st i H s hi := ⟨xs, Same.seq s h, by rw [hs.length]; exact Nat.le_of_eq hi.symm⟩
theorem wk_tup (h : SqT K G.h a xs) (hs : Rps K G xs ds) : Wk K (Itt K a) G ds where
  go i H s hi := by
    have hx : i < xs.length := by rw [hs.length]; exact hi
    exact ⟨xs, xs[i], SqT.same s h, List.getElem?_eq_getElem hx⟩
  yl i H v H' d Gc s1 s2 y hd := by
    obtain ⟨rfl, hy⟩ := y
    obtain ⟨v', hv, rv⟩ := hs.get hd
    have e := (hy xs (SqT.same (s1.h.trans s2) h)).symm.trans hv
    cases e
    exact ⟨Gc, .refl s2, rv.same s1⟩
  st i H s hi := ⟨xs, SqT.same s h, by rw [hs.length]; exact Nat.le_of_eq hi.symm⟩
def rngD (lo c : Int) (n : Nat) : List D := (List.range n).map fun i => .int (lo + (i : Nat) * c)
theorem rngD_length (lo c : Int) (n : Nat) : (rngD lo c n).length = n := by
  unfold rngD
  rw [List.length_map, List.length_range]
theorem rngD_get {lo c : Int} {n i : Nat} {d : D} (h : (rngD lo c n)[i]? = some d) : d = .int (lo + (i : Nat) * c) := by
  unfold rngD at h
  rw [List.getElem?_map] at h
  cases e : (List.range n)[i]? with
  | none => rw [e] at h; cases h
  | some j =>
    rw [e] at h
    have hj : j = i := by
      have := (List.getElem?_eq_some_iff.mp e)
      obtain ⟨h1, h2⟩ := this
      rw [List.getElem_range] at h2
      exact h2.symm
    cases h
    rw [hj]
theorem wk_rng {lo : Int} {n : Nat} : Wk K (Itr lo n) G (rngD lo 1 n) where
  go i H s hi := by
    rw [rngD_length] at hi
    exact hi
  yl i H v H' d Gc s1 s2 y hd := by
    obtain ⟨rfl, rfl⟩ := y
    have e := rngD_get hd
    subst e
    rw [Int.mul_one]
    exact ⟨Gc, .refl s2, .int _⟩
  st i H s hi := by
    rw [rngD_length] at hi
    exact Nat.le_of_eq hi.symm
theorem wk_rngC {lo c : Int} {n : Nat} : Wk K (Itc lo c n) G (rngD lo c n) where
  go i H s hi := by
    rw [rngD_length] at hi
    exact hi
  yl i H v H' d Gc s1 s2 y hd := by
    obtain ⟨rfl, rfl⟩ := y
    have e := rngD_get hd
    subst e
    exact ⟨Gc, .refl s2, .int _⟩
  st i H s hi := by
    rw [rngD_length] at hi
    exact Nat.le_of_eq hi.symm
def zipD (ds es : List D) : List D := (ds.zip es).map fun p => .tuple [p.1, p.2]
theorem zipD_length (ds es : List D) : (zipD ds es).length = min ds.length es.length := by
  unfold zipD
  rw [List.length_map, List.length_zip]
theorem zipD_get {ds es : List D} {i : Nat} {d : D} (h : (zipD ds es)[i]? = some d) : ∃ x y, ds[i]? = some x ∧ es[i]? = some y ∧ d = .tuple [x, y] := by
  unfold zipD at h
  rw [List.getElem?_map] at h
  cases e : (ds.zip es)[i]? with
  | none => rw [e] at h; cases h
  | some p =>
    rw [e] at h
    cases h
    obtain ⟨h1, h2⟩ := List.getElem?_zip_eq_some.mp e
    exact ⟨p.1, p.2, h1, h2, rfl⟩
theorem wk_zip {ys : List V} {es : List D} (h : Rd G.h a (.lst xs)) (hs : Rps K G xs ds) (h2 : Rd G.h b (.lst ys)) (hs2 : Rps K G ys es) : Wk K (Itz K a b) G (zipD ds es) where
  go i H s hi := by
    rw [zipD_length] at hi
    have hx : i < xs.length := by rw [hs.length]; omega
    have hy : i < ys.length := by rw [hs2.length]; omega
    exact ⟨xs, ys, xs[i], ys[i], .inl (Rd.same s h), .inl (Rd.same s h2), List.getElem?_eq_getElem hx, List.getElem?_eq_getElem hy⟩
  yl i H v H' d Gc s1 s2 y hd := by
    obtain ⟨T, x, y', rfl, hT, rfl, f1, f2⟩ := y
    obtain ⟨dx, dy, g1, g2, rfl⟩ := zipD_get hd
    obtain ⟨v1, hv1, r1⟩ := hs.get g1
    obtain ⟨v2, hv2, r2⟩ := hs2.get g2
    have e1 := (f1 xs (.inl (Rd.same (s1.h.trans s2) h))).symm.trans hv1
    have e2 := (f2 ys (.inl (Rd.same (s1.h.trans s2) h2))).symm.trans hv2
    cases e1
    cases e2
    have sg := s1.trans (Ext.new (o := HO.tup [x, y']) s2 hT).le
    exact ⟨_, Ext.new s2 hT, .tup (.inl (.inl upd_same)) (.cons (r1.same sg) (.cons (r2.same sg) .nil))⟩
  st i H s hi := by
    rw [zipD_length] at hi
    exact ⟨xs, ys, .inl (Rd.same s h), .inl (Rd.same s h2), by rw [hs.length, hs2.length]; omega⟩
def enumD (ds : List D) : List D := ds.mapIdx fun i d => .tuple [.int (i : Nat), d]
theorem wk_enum (h : Rd G.h a (.lst xs)) (hs : Rps K G xs ds) : Wk K (Ite K a) G (enumD ds) where
  go i H s hi := by
    have hi' : i < ds.length := by
      unfold enumD at hi
      rwa [List.length_mapIdx] at hi
    have hx : i < xs.length := by rw [hs.length]; exact hi'
    exact ⟨xs, xs[i], .inl (Rd.same s h), List.getElem?_eq_getElem hx⟩
  yl i H v H' d Gc s1 s2 y hd := by
    obtain ⟨T, x, rfl, hT, rfl, f1⟩ := y
    unfold enumD at hd
    rw [List.getElem?_mapIdx] at hd
    cases e : ds[i]? with
    | none => rw [e] at hd; cases hd
    | some dx =>
      rw [e] at hd
      cases hd
      obtain ⟨v1, hv1, r1⟩ := hs.get e
      have e1 := (f1 xs (.inl (Rd.same (s1.h.trans s2) h))).symm.trans hv1
      cases e1
      have sg := s1.trans (Ext.new (o := HO.tup [.int (i : Nat), x]) s2 hT).le
      exact ⟨_, Ext.new s2 hT, .tup (.inl (.inl upd_same)) (.cons (.int _) (.cons (r1.same sg) .nil))⟩
  st i H s hi := by
    unfold enumD at hi
    rw [List.length_mapIdx] at hi
    exact ⟨xs, .inl (Rd.same s h), by rw [hs.length]; exact Nat.le_of_eq hi.symm⟩
end
section
variable {X : Cx} {C : Cf} {tg e e' e'' : Expr} {f f' f'' : Env → Res D} {fs : Env → Res (List D)} {p pos tpos : Pos} {elts : List Expr} {kk : Nat}
/-- over a list -/
def iL (f : Env → Res D) : Env → Res (List D) := fun env => (f env).bind fun d => match d with
  | .list ds => .ok ds
  | .scr ns => .ok (ns.map D.int)
  | _ => .bad
def iT (f : Env → Res D) : Env → Res (List D) := fun env => (f env).bind fun d => match d with
  | .tuple ds => .ok ds
  | _ => .bad
theorem qi_list (h : QE X C e f) : QI X C tg e (iL f) := pi_imp (pi_list h) fun σ H R ⟨G, env, s, er, p⟩ => ⟨G, env, s, er, Post.bind p fun d v G1 H1 e1 r1 p1 => by
  split at p1
  · cases r1 with
    | lst h hs => exact ⟨_, rfl, ⟨_, .inl (Rd.same e1.gh h)⟩, p1 _ _ _ (.refl e1.gh) (wk_list (.inl h) hs)⟩
  · cases r1 with
    | scr h =>
      exact ⟨_, rfl, ⟨_, Same.seq e1.gh h⟩, p1 _ _ _ (.refl e1.gh) (wk_list h (Rps.of_ints _))⟩
  · exact p1.elim⟩
theorem qi_tup (h : QE X C e f) : QI X C tg e (iT f) := pi_imp (pi_tup h) fun σ H R ⟨G, env, s, er, p⟩ => ⟨G, env, s, er, Post.bind p fun d v G1 H1 e1 r1 p1 => by
  split at p1
  · cases r1 with
    | tup h hs => exact ⟨_, rfl, ⟨_, SqT.same e1.gh h⟩, p1 _ _ _ (.refl e1.gh) (wk_tup h hs)⟩
  · exact p1.elim⟩
noncomputable def iR1 (fs : Env → Res (List D)) : Env → Res (List D) := fun env => (fs env).bind fun ds => match ds with
  | [.int j] => @ite _ ((-j).toNat ≤ 1000000000 ∧ j.toNat ≤ 1000000000) (Classical.propDecidable _) (.ok (rngD 0 1 j.toNat)) .bad
  | _ => .bad
noncomputable def iR2 (fs : Env → Res (List D)) : Env → Res (List D) := fun env => (fs env).bind fun ds => match ds with
  | [.int i, .int j] => @ite _ ((-i).toNat ≤ 1000000000 ∧ i.toNat ≤ 1000000000 ∧ (-j).toNat ≤ 1000000000 ∧ j.toNat ≤ 1000000000) (Classical.propDecidable _) (.ok (rngD i 1 (j - i).toNat)) .bad
  | _ => .bad
noncomputable def iR3 (fs : Env → Res (List D)) : Env → Res (List D) := fun env => (fs env).bind fun ds => match ds with
  | [.int i, .int j, .int c] => @ite _ (c ≠ 0 ∧ c.natAbs < 1073741824 ∧ Builtin.Range.small i j c = true ∧ 0 ≤ Builtin.Range.rangeSize i j c) (Classical.propDecidable _) (.ok (rngD i c (Builtin.Range.rangeSize i j c).toNat)) .bad
  | _ => .bad
theorem qi_range1 (hg : Gl X "range") (hm : X.mg "range" = none) (ha : QA X C [e] fs) (hs : starEach [e] X.env = [(false, eval e X.env)] := by rfl) : QI X C tg (.Call (.Name "range" p) [e] [] pos) (iR1 fs) :=
  pi_imp (pi_range1 hg hm ha hs) fun σ H R ⟨G, env, s, er, p⟩ => ⟨G, env, s, er, Post.bind p fun ds vs G1 H1 e1 r1 p1 => by
    split at p1
    · split at p1
      · rename_i h
        cases r1 with
        | cons r1 r2 =>
          cases r2
          cases r1
          have e62 : (2 : Int) ^ 62 = 4611686018427387904 := by decide
          exact ⟨_, rfl, by rw [e62]; omega, by rw [e62]; omega, p1 _ _ _ (.refl e1.gh) wk_rng⟩
      · exact p1.elim
    · exact p1.elim⟩
theorem qi_range2 (hg : Gl X "range") (hm : X.mg "range" = none) (ha : QA X C [e, e'] fs) (hs : starEach [e, e'] X.env = [(false, eval e X.env), (false, eval e' X.env)] := by rfl) (hs2 : starEach [e'] X.env = [(false, eval e' X.env)] := by rfl) :
    QI X C tg (.Call (.Name "range" p) [e, e'] [] pos) (iR2 fs) :=
  pi_imp (pi_range2 hg hm ha hs hs2) fun σ H R ⟨G, env, s, er, p⟩ => ⟨G, env, s, er, Post.bind p fun ds vs G1 H1 e1 r1 p1 => by
    split at p1
    · split at p1
      · rename_i h
        cases r1 with
        | cons r1 r2 =>
          cases r2 with
          | cons r2 r3 =>
            cases r3
            cases r1
            cases r2
            have e62 : (2 : Int) ^ 62 = 4611686018427387904 := by decide
            exact ⟨_, _, rfl, by rw [e62]; omega, p1 _ _ _ (.refl e1.gh) wk_rng⟩
      · exact p1.elim
    · exact p1.elim⟩
theorem qi_range3 (hg : Gl X "range") (hm : X.mg "range" = none) (ha : QA X C [e, e', e''] fs) (hs : starEach [e, e', e''] X.env = (false, eval e X.env) :: starEach [e', e''] X.env := by rfl) (hpl : (backTo pos (starEach [e', e''] X.env)).any (·.1) = false := by rfl) :
    QI X C tg (.Call (.Name "range" p) [e, e', e''] [] pos) (iR3 fs) :=
  pi_imp (pi_range3 hg hm ha hs hpl) fun σ H R ⟨G, env, s, er, p⟩ => ⟨G, env, s, er, Post.bind p fun ds vs G1 H1 e1 r1 p1 => by
    split at p1
    · split at p1
      · rename_i h
        cases r1 with
        | cons r1 r2 =>
          cases r2 with
          | cons r2 r3 =>
            cases r3 with
            | cons r3 r4 =>
              cases r4
              cases r1
              cases r2
              cases r3
              exact ⟨_, _, _, _, rfl, ⟨h.1, h.2.1, h.2.2.1, (Int.toNat_of_nonneg h.2.2.2).symm⟩, p1 _ _ _ (.refl e1.gh) wk_rngC⟩
      · exact p1.elim
    · exact p1.elim⟩
def iZ (fs : Env → Res (List D)) : Env → Res (List D) := fun env => (fs env).bind fun ds => match ds with
  | [.list xs, .list ys] => .ok (zipD xs ys)
  | _ => .bad
theorem qi_zip (hg : Gl X "zip") (hm : X.mg "zip" = none) (ha : QA X C [e, e'] fs) (hs : starEach [e, e'] X.env = (false, eval e X.env) :: starEach [e'] X.env := by rfl) (hpl : (backTo pos (starEach [e'] X.env)).any (·.1) = false := by rfl) :
    QI X C (.Tuple elts kk tpos) (.Call (.Name "zip" p) [e, e'] [] pos) (iZ fs) :=
  pi_imp (pi_zip hg hm ha hs hpl) fun σ H R ⟨G, env, s, er, p⟩ => ⟨G, env, s, er, Post.bind p fun ds vs G1 H1 e1 r1 p1 => by
    split at p1
    · cases r1 with
      | cons r1 r2 =>
        cases r2 with
        | cons r2 r3 =>
          cases r3
          cases r1 with
          | lst h hs =>
            cases r2 with
            | lst h2 hs2 => exact ⟨_, _, _, _, rfl, .inl (Rd.same e1.gh h), .inl (Rd.same e1.gh h2), p1 _ _ _ (.refl e1.gh) (wk_zip h hs h2 hs2)⟩
    · exact p1.elim⟩
def iE (fs : Env → Res (List D)) : Env → Res (List D) := fun env => (fs env).bind fun ds => match ds with
  | [.list xs] => .ok (enumD xs)
  | _ => .bad
theorem qi_enum (hg : Gl X "enumerate") (hm : X.mg "enumerate" = none) (ha : QA X C [e] fs) (hs : starEach [e] X.env = [(false, eval e X.env)] := by rfl) : QI X C (.Tuple elts kk tpos) (.Call (.Name "enumerate" p) [e] [] pos) (iE fs) :=
  pi_imp (pi_enum hg hm ha hs) fun σ H R ⟨G, env, s, er, p⟩ => ⟨G, env, s, er, Post.bind p fun ds vs G1 H1 e1 r1 p1 => by
    split at p1
    · cases r1 with
      | cons r1 r2 =>
        cases r2
        cases r1 with
        | lst h hs => exact ⟨_, _, rfl, .inl (Rd.same e1.gh h), p1 _ _ _ (.refl e1.gh) (wk_enum h hs)⟩
    · exact p1.elim⟩
end
/-! ### comprehensions -/
def Res.nox {α : Type} : Res α → Res α
  | .ok a => .ok a
  | _ => .bad
theorem nox_post {α ν : Type} {R : Vw → ν → α → Prop} {xw xw' : Nat → Hp → Prop} {G : Vw} {H : Hp} {Q : ν → Hp → Prop} {r : Res α} (h : Post R xw G H Q r.nox) : Post R xw' G H Q r := by
  cases r with
  | ok a => exact h
  | ex n => exact h.elim
  | bad => exact h
def compR (t : Tg) (c : Env → Res Bool) (f : Env → Res D) (env : Env) : List D → Res (List D)
  | [] => .ok []
  | d :: ds => match t.parts d with
    | none => .bad
    | some ps => (c (env.setE t.is ps)).nox.bind fun b => if b = true then (f (env.setE t.is ps)).nox.bind fun y => (compR t c f env ds).bind fun ys => .ok (y :: ys) else compR t c f env ds
def eComp (t : Tg) (fi : Env → Res (List D)) (c : Env → Res Bool) (f : Env → Res D) : Env → Res (List D) := fun env => (fi env).bind fun ds => (compR t c f env ds).bind fit
def cYes : Env → Res Bool := fun _ => .ok true
theorem wipe_set {i : Nat} {x : Option V} : ∀ {vs : List Nat} {σ : St}, i ∈ vs → wipe (σ.set i x) vs = wipe σ vs
  | v :: vs, σ, h => by
    unfold wipe
    by_cases hv : i ∈ vs
    · rw [wipe_set hv]
    · have e : i = v := by
        rcases List.mem_cons.mp h with e | e
        · exact e
        · exact absurd e hv
      subst e
      have aux : ∀ (ws : List Nat), i ∉ ws → ∀ σ : St, wipe (σ.set i x) ws = (wipe σ ws).set i x := by
        intro ws
        induction ws with
        | nil => intro _ σ; rfl
        | cons w ws ih =>
          intro hn σ
          have h1 : i ≠ w := fun e => hn (e ▸ List.mem_cons_self)
          have h2 : i ∉ ws := fun e => hn (List.mem_cons_of_mem _ e)
          unfold wipe
          rw [ih h2 σ, List.set_comm _ _ h1]
      rw [aux vs hv σ, List.set_set]
theorem wipe_setV {vs : List Nat} : ∀ {is : List Nat} {ws : List V} {σ : St}, (∀ i ∈ is, i ∈ vs) → wipe (setV σ is ws) vs = wipe σ vs
  | [], _, _, _ => rfl
  | _ :: _, [], _, _ => rfl
  | i :: is, w :: ws, σ, h => by
    show wipe (setV (σ.set i (some w)) is ws) vs = _
    rw [wipe_setV (is := is) fun j hj => h j (List.mem_cons_of_mem _ hj), wipe_set (h i List.mem_cons_self)]
theorem wipe_wipe : ∀ {us vs : List Nat} {σ : St}, (∀ i ∈ us, i ∈ vs) → wipe (wipe σ us) vs = wipe σ vs
  | [], _, _, _ => rfl
  | u :: us, vs, σ, h => by
    show wipe ((wipe σ us).set u none) vs = _
    rw [wipe_set (h u List.mem_cons_self), wipe_wipe fun i hi => h i (List.mem_cons_of_mem _ hi)]
theorem wipe_get : ∀ {vs : List Nat} {σ : St} {i : Nat}, i ∉ vs → (wipe σ vs)[i]? = σ[i]?
  | [], _, _, _ => rfl
  | v :: vs, σ, i, h => by
    show ((wipe σ vs).set v none)[i]? = _
    rw [List.getElem?_set_ne (fun (e : v = i) => h (by rw [← e]; exact List.mem_cons_self)), wipe_get fun e => h (List.mem_cons_of_mem _ e)]
theorem setV_get : ∀ {is : List Nat} {ws : List V} {σ : St} {i : Nat}, i ∉ is → (setV σ is ws)[i]? = σ[i]?
  | [], _, _, _, _ => rfl
  | _ :: _, [], _, _, _ => rfl
  | j :: is, w :: ws, σ, i, h => by
    show (setV (σ.set j (some w)) is ws)[i]? = _
    rw [setV_get (is := is) fun e => h (List.mem_cons_of_mem _ e), List.getElem?_set_ne (fun (e : j = i) => h (by rw [← e]; exact List.mem_cons_self))]
/-- two slots' lists that agree outside -/
theorem setV_in : ∀ {is : List Nat} {ws : List V} {σ τ : St} {i : Nat}, σ.length = τ.length → ws.length = is.length → i ∈ is → (setV σ is ws)[i]? = (setV τ is ws)[i]?
  | j :: is, w :: ws, σ, τ, i, hl, hw, h => by
    show (setV (σ.set j (some w)) is ws)[i]? = (setV (τ.set j (some w)) is ws)[i]?
    by_cases hi : i ∈ is
    · exact setV_in (is := is) (by rw [List.length_set, List.length_set]; exact hl) (by simpa using hw) hi
    · have e : i = j := by
        rcases List.mem_cons.mp h with e | e
        · exact e
        · exact absurd e hi
      subst e
      rw [setV_get hi, setV_get hi]
      by_cases hb : i < σ.length
      · rw [List.getElem?_set_self hb, List.getElem?_set_self (by rw [← hl]; exact hb)]
      · rw [List.getElem?_eq_none (by rw [List.length_set]; omega), List.getElem?_eq_none (by rw [List.length_set]; omega)]
  | _ :: _, [], _, _, _, _, hw, _ => by simp at hw
  | [], _, _, _, _, _, _, h => absurd h (by simp)
theorem setV_wipe {is vs : List Nat} {ws : List V} {σ : St} (h1 : ∀ i ∈ vs, i ∈ is) (hw : ws.length = is.length) : setV (wipe σ vs) is ws = setV σ is ws := by
  apply List.ext_getElem?
  intro i
  by_cases hi : i ∈ is
  · exact setV_in (wipe_length σ vs) hw hi
  · rw [setV_get hi, setV_get hi, wipe_get fun e => hi (h1 i e)]
theorem parts_len {t : Tg} {d : D} {ds : List D} (h : t.parts d = some ds) : ds.length = t.is.length := by
  cases t with
  | nm i => cases h; rfl
  | tp is =>
    cases d <;> first | (cases h; done) | skip
    unfold Tg.parts at h
    dsimp only at h
    split at h
    · rename_i hl
      cases h
      exact hl
    · cases h
  | ul is =>
    cases d <;> first | (cases h; done) | skip
    unfold Tg.parts at h
    dsimp only at h
    split at h
    · rename_i hl
      cases h
      exact hl
    · cases h
section
variable {X : Cx} {C : Cf} {elt tg iter : Expr} {ifs : List Expr} {scope : Scope} {own : List (Str × Nat)} {pos : Pos} {t : Tg} {fi : Env → Res (List D)} {c : Env → Res Bool} {f : Env → Res D}
def Cf.quiet (C : Cf) : Cf := { C with W := fun _ _ _ _ => False }
theorem Ext.upd_own {G1 Gc : Vw} {H1 H' : Hp} {Dn : Addr} {o : HO} (x : Ext G1 H1 Gc H') (hD : H1 Dn = none) (gD : Gc.h Dn = none) : Ext G1 H1 Gc (upd H' Dn o) :=
  ⟨fun b u q => by
    have hb : b ≠ Dn := fun z => by rw [z, hD] at q; cases q
    rw [upd_ne hb]
    exact x.hh b u q, x.gg, x.ad, fun b u q => by
    have hb : b ≠ Dn := fun z => by rw [z, gD] at q; cases q
    rw [upd_ne hb]
    exact x.gh b u q, x.fr⟩
theorem Ext.keepN {Gc G3 : Vw} {H' H3 : Hp} {Dn : Addr} {o : HO} (x : Ext Gc H' G3 H3) (gD : Gc.h Dn = none) (hl : H' Dn = some o) : G3.h Dn = none := by
  cases q : G3.h Dn with
  | none => rfl
  | some u =>
    rcases x.fr Dn u q with ⟨o', q'⟩ | q'
    · rw [gD] at q'; cases q'
    · rw [hl] at q'; cases q'
theorem lc_post {σ : St} {H : Hp} {Q : VK} (hv : ∀ i ∈ own.map (·.2), i ∈ t.is) (hv2 : ∀ i ∈ t.is, i ∈ own.map (·.2)) 
    (h : tXf X.K C (eComp t fi c f) σ H Q) : tLc (tXi X.K C fi) (t.g X.K) (tXb X.K C.quiet c) (tX X.K C.quiet f) (own.map (·.2)) σ H Q := by
  obtain ⟨G, env, s, er, p⟩ := h
  refine ⟨G, env, s, er, PostF.bind p fun ds J G1 H1 e1 wk p1 => ?_⟩
  intro Dn hD
  -- the words behind i turns
  let word (i : Nat) (H' : Hp) : Prop := ∃ Gc acc da, Ext G1 H1 Gc H' ∧ Gc.h Dn = none ∧ H' Dn = some (.lst acc) ∧ Rps X.K Gc acc da ∧
    PostF X.K (C.xw σ) G1 H1 Q ((compR t c f env (ds.drop i)).bind fun ys => fit (da ++ ys))
  have w0 : word 0 (upd H1 Dn (.lst [])) := ⟨G1, [], [], Ext.newH e1.gh hD, e1.gh.free hD, upd_same, .nil, p1⟩
  refine ⟨fun i m H' => m = ds.length - i ∧ i ≤ ds.length ∧ word i H', ⟨_, rfl, Nat.zero_le _, w0⟩, ?_⟩
  rintro i m H' ⟨rfl, hi, Gc, acc, da, x1, gD, hDl, rda, pp⟩
  by_cases hlt : i < ds.length
  · refine .inr ⟨wk.go i H' (x1.gg.trans x1.gh) hlt, word (i + 1), fun H'' w => ⟨ds.length - (i + 1), by omega, rfl, hlt, w⟩, fun x H2 hy => ?_⟩
    obtain ⟨d, hd⟩ : ∃ d, ds[i]? = some d := ⟨_, List.getElem?_eq_getElem hlt⟩
    have hdrop : ds.drop i = d :: ds.drop (i + 1) := by
      rw [List.drop_eq_getElem_cons hlt]
      congr 1
      rw [List.getElem?_eq_getElem hlt] at hd
      exact Option.some.inj hd
    obtain ⟨Gd, eg, rd⟩ := wk.yl i H' x H2 d Gc x1.le x1.gh hy hd
    rw [hdrop] at pp
    unfold compR at pp
    cases hp : t.parts d with
    | none =>
      rw [hp] at pp
      exact pp.elim
    | some ps =>
      rw [hp] at pp
      dsimp only at pp
      refine Tg.run eg.gh rd hp fun ws rw_ => ?_
      have hwl : ws.length = t.is.length := rw_.length.trans (parts_len hp)
      rw [setV_wipe hv hwl]
      refine ⟨wipe_setV hv2, ?_⟩
      have er' : ER X.K C Gd H2 (env.setE t.is ps) (setV σ t.is ws) := (er.ext ((e1.trans x1).trans eg)).setAll rw_
      refine ⟨Gd, _, eg.gh, ⟨er'.es, er'.or, er'.fl, er'.fe⟩, ?_⟩
      cases hc : c (env.setE t.is ps) with
      | bad =>
        rw [hc] at pp
        exact pp.elim
      | ex n =>
        rw [hc] at pp
        exact pp.elim
      | ok b =>
        rw [hc] at pp
        have pp : PostF X.K (C.xw σ) G1 H1 Q ((if b = true then (f (env.setE t.is ps)).nox.bind fun y => (compR t c f env (ds.drop (i + 1))).bind fun ys => .ok (y :: ys) else compR t c f env (ds.drop (i + 1))).bind fun ys => fit (da ++ ys)) := pp
        intro b' G3 H3 e3 eb
        have eb' : b = b' := eb.symm
        subst eb'
        cases b with
        | false =>
          rw [if_neg Bool.false_ne_true] at pp ⊢
          have ee := eg.trans e3
          exact ⟨G3, acc, da, x1.trans ee, ee.keepN gD hDl, ee.hh _ _ hDl, rda.same ee.le, pp⟩
        | true =>
          rw [if_pos rfl] at pp ⊢
          have er3 := er'.ext e3
          refine ⟨G3, _, e3.gh, ⟨er3.es, er3.or, er3.fl, er3.fe⟩, ?_⟩
          cases hf : f (env.setE t.is ps) with
          | bad =>
            rw [hf] at pp
            exact pp.elim
          | ex n =>
            rw [hf] at pp
            exact pp.elim
          | ok y =>
            rw [hf] at pp
            have pp : PostF X.K (C.xw σ) G1 H1 Q (((compR t c f env (ds.drop (i + 1))).bind fun ys => .ok (y :: ys)).bind fun ys => fit (da ++ ys)) := pp
            intro yv G4 H4 e4 ry
            have ee := (eg.trans e3).trans e4
            have hD4 : H4 Dn = some (.lst acc) := ee.hh _ _ hDl
            have gD4 : G4.h Dn = none := ee.keepN gD hDl
            have pp2 : PostF X.K (C.xw σ) G1 H1 Q ((compR t c f env (ds.drop (i + 1))).bind fun ys => fit ((da ++ [y]) ++ ys)) := by
              cases hr : compR t c f env (ds.drop (i + 1)) with
              | bad => rw [hr] at pp; exact pp.elim
              | ex n => rw [hr] at pp; exact pp
              | ok ys =>
                rw [hr] at pp
                have pp : PostF X.K (C.xw σ) G1 H1 Q (fit (da ++ (y :: ys))) := pp
                show PostF X.K (C.xw σ) G1 H1 Q (fit ((da ++ [y]) ++ ys))
                rw [List.append_assoc]
                exact pp
            have hz : acc.length < sizeLine := by
              rw [rda.length]
              cases hr : compR t c f env (ds.drop (i + 1)) with
              | bad => rw [hr] at pp2; exact pp2.elim
              | ex n => exact absurd hr (compR_noex _ n)
              | ok ys =>
                rw [hr] at pp2
                have pp2 : PostF X.K (C.xw σ) G1 H1 Q (fit ((da ++ [y]) ++ ys)) := pp2
                have := (fit_postF pp2).2
                simp only [List.length_append, List.length_cons, List.length_nil] at this
                omega
            exact ⟨acc, hD4, hz, G4, acc ++ [yv], da ++ [y], (x1.trans ee).upd_own hD gD4, gD4, upd_same, (rda.same ee.le).append (.cons ry .nil), pp2⟩
  · have ei : i = ds.length := by omega
    subst ei
    refine .inl ⟨wk.st _ H' (x1.gg.trans x1.gh) rfl, ?_⟩
    rw [List.drop_length] at pp
    have pp : PostF X.K (C.xw σ) G1 H1 Q (fit (da ++ [])) := pp
    rw [List.append_nil] at pp
    exact (fit_postF pp).1 Dn acc Gc H' x1 hD gD hDl rda
where
  compR_noex : ∀ (ds : List D) {env : Env} (n : Nat), compR t c f env ds ≠ .ex n
    | [], _, n, h => by cases h
    | d :: ds, env, n, h => by
      unfold compR at h
      split at h
      · cases h
      · rename_i ps hp
        cases hc : c (env.setE t.is ps) with
        | bad => rw [hc] at h; cases h
        | ex m => rw [hc] at h; cases h
        | ok b =>
          rw [hc] at h
          have h : (if b = true then (f (env.setE t.is ps)).nox.bind fun y => (compR t c f env ds).bind fun ys => Res.ok (y :: ys) else compR t c f env ds) = .ex n := h
          split at h
          · cases hf : f (env.setE t.is ps) with
            | bad => rw [hf] at h; cases h
            | ex m => rw [hf] at h; cases h
            | ok y =>
              rw [hf] at h
              have h : ((compR t c f env ds).bind fun ys => Res.ok (y :: ys)) = .ex n := h
              cases hr : compR t c f env ds with
              | bad => rw [hr] at h; cases h
              | ok ys => rw [hr] at h; cases h
              | ex m =>
                rw [hr] at h
                cases h
                exact compR_noex ds _ hr
          · exact compR_noex ds _ h
end
end L2.FO

set_option Elab.async false
set_option linter.all false
set_option maxRecDepth 100000
set_option maxHeartbeats 4000000
namespace L2.FO
open PySem PySem.Spec PyProof.Rows
/-! ### comprehensions in the text -/
section
variable {X : Cx} {C : Cf} {elt tg iter e : Expr} {ifs : List Expr} {scope : Scope} {own : List (Str × Nat)} {pos : Pos} {t : Tg} {fi : Env → Res (List D)} {c : Env → Res Bool} {f : Env → Res D}
abbrev QTs (X : Cx) (C : Cf) (es : List Expr) (f : Env → Res Bool) : Prop := PTs X es (tXb X.K C f)
theorem qts_nil : QTs X C [] cYes := ⟨fun pins s σ H Q I ⟨G, env, sg, er, p⟩ => pts_nil.run pins s σ H Q I (p true G H (.refl sg) rfl)⟩
theorem qts_one (h : QT X C e c) : QTs X C [e] c := pts_one h
theorem qf_comp (hc : X.calm = true) (hN : X.N.Nodup) (hi : QI X C tg iter fi) (ok : BlkOk X.N X.env.scope scope own)
    (hg : ∀ (s : Shared) (H : Hp) (Cc : Addr) (cl : List (Str × Addr)) (fp : List Addr), QG (X.blk s H scope (compEnvC scope cl Cc X.env) fp) tg t) (ht : ∀ (s : Shared) (H : Hp) (Cc : Addr) (cl : List (Str × Addr)) (fp : List Addr), QTs (X.blk s H scope (compEnvC scope cl Cc X.env) fp) C.quiet ifs c)
    (he : ∀ (s : Shared) (H : Hp) (Cc : Addr) (cl : List (Str × Addr)) (fp : List Addr), QE (X.blk s H scope (compEnvC scope cl Cc X.env) fp) C.quiet elt f) (hv : ∀ i ∈ own.map (·.2), i ∈ t.is) (hv2 : ∀ i ∈ t.is, i ∈ own.map (·.2)) (hs : ∀ x, foldedSetIterable iter X.env x = pure x := by intro _; rfl) :
    QF X C (.ListComp elt [⟨tg, iter, ifs, 0⟩] scope pos) (eComp t fi c f) := pe_imp (pe_lc hc hN hi ok hg ht he hs) fun _ _ _ h => lc_post hv hv2 h
end
/-! ### state of a def's body -/
structure SR (K : PySem.W.Frag) (C : Cf) (G0 : Vw) (H0 : Hp) (G : Vw) (H : Hp) (env : Env) (σ : St) : Prop where
  er : ER K C G H env σ
  nf : NoF C.fl G
  gh : Same G.h H
  ex : ExtM C.fl G0 H0 G H
  own : ∀ (i : Nat) (ds : List D), env.sl[i]? = some (Sl.own ds) → ∃ (a : Addr) (vs : List V), σ[i]? = some (some (V.ref a)) ∧ H a = some (.lst vs) ∧ G.h a = none ∧ H0 a = none ∧ a ∉ G.ad ∧ Rps K G vs ds
  sep : ∀ (i j : Nat) (ds es : List D) (a : Addr), i ≠ j → env.sl[i]? = some (Sl.own ds) → env.sl[j]? = some (Sl.own es) → σ[i]? = some (some (V.ref a)) → σ[j]? ≠ some (some (V.ref a))
section
variable {K : PySem.W.Frag} {C : Cf} {G0 G G' : Vw} {H0 H H' : Hp} {env : Env} {σ : St} {S' : Store}
theorem SR.post (r : SR K C G0 H0 G H env σ) (e : Ext G H G' H') : SR K C G0 H0 G' H' env σ where
  er := r.er.ext e
  nf := NoF.ext r.er.or r.nf e
  gh := e.gh
  ex := r.ex.trans e.m
  own i ds h := by
    obtain ⟨a, vs, h1, h2, h3, h4, h6, h5⟩ := r.own i ds h
    exact ⟨a, vs, h1, e.hh _ _ h2, e.keepN h3 h2, h4, by rw [e.ad]; exact h6, h5.same e.le⟩
  sep := r.sep
theorem SR.grow (r : SR K C G0 H0 G H env σ) (s : Same H H') : SR K C G0 H0 G H' env σ := r.post ⟨s, .refl _, rfl, r.gh.trans s, fun a o e => .inl ⟨o, e⟩⟩
theorem OR.grows (o : OR K C.ct G H env.st) (o' : OR K C.ct G' H' S') (l : Le G G') : env.st.length ≤ S'.length := by
  rw [← o.ln, ← o'.ln]
  exact l.len
/-- an effect: objects may have changed -/
theorem SR.postM (r : SR K C G0 H0 G H env σ) (e : ExtM C.fl G H G' H') (o : OR K C.ct G' H' S') (n : NoF C.fl G') : SR K C G0 H0 G' H' (env.to S') σ where
  er := ⟨r.er.es.same e.gg, o, Nat.le_trans r.er.fl (OR.grows r.er.or o e.gg), r.er.fe⟩
  nf := n
  gh := e.gh
  ex := r.ex.trans e
  own i ds h := by
    obtain ⟨a, vs, h1, h2, h3, h4, h6, h5⟩ := r.own i ds h
    refine ⟨a, vs, h1, e.hs a _ h2 fun m _ q => h6 (List.mem_of_getElem? q), ?_, h4, fun q => ?_, h5.same e.gg⟩
    · cases q : G'.h a with
      | none => rfl
      | some u =>
        rcases e.fr a u q with ⟨o', q'⟩ | q'
        · rw [h3] at q'; cases q'
        · rw [h2] at q'; cases q'
    · obtain ⟨m, hm⟩ := List.mem_iff_getElem?.mp q
      by_cases hl : m < G.ad.length
      · have q2 : G'.ad[m]? = some (G.ad[m]) := e.gg.get (List.getElem?_eq_getElem hl)
        rw [q2] at hm
        exact h6 (List.mem_of_getElem? (by rw [List.getElem?_eq_getElem hl]; exact hm))
      · have := e.an m a (Nat.le_of_not_lt hl) hm
        rw [h2] at this
        cases this
  sep := r.sep
theorem set_get {α : Type} {l : List α} {i j : Nat} {x y : α} (h : (l.set i x)[j]? = some y) : (i = j ∧ x = y ∧ i < l.length) ∨ (i ≠ j ∧ l[j]? = some y) := by
  by_cases hj : i = j
  · subst hj
    have hi : i < l.length := by
      have := (List.getElem?_eq_some_iff.mp h).1
      rwa [List.length_set] at this
    rw [List.getElem?_set_self hi] at h
    exact .inl ⟨rfl, Option.some.inj h, hi⟩
  · rw [List.getElem?_set_ne hj] at h
    exact .inr ⟨hj, h⟩
theorem SR.set (r : SR K C G0 H0 G H env σ) {v : V} {d : D} (rp : Rp K G v d) (i : Nat) : SR K C G0 H0 G H (env.set i (.val d)) (σ.set i (some v)) where
  er := ⟨r.er.es.set rp i, r.er.or, r.er.fl, r.er.fe⟩
  nf := r.nf
  gh := r.gh
  ex := r.ex
  own j ds h := by
    have h : (env.sl.set i (.val d))[j]? = some (Sl.own ds) := h
    rcases set_get h with ⟨_, e, _⟩ | ⟨hj, h⟩
    · cases e
    · rw [List.getElem?_set_ne hj]
      exact r.own j ds h
  sep j k ds es a hjk h1 h2 h3 := by
    have h1 : (env.sl.set i (.val d))[j]? = some (Sl.own ds) := h1
    have h2 : (env.sl.set i (.val d))[k]? = some (Sl.own es) := h2
    rcases set_get h1 with ⟨_, e, _⟩ | ⟨hj, h1⟩
    · cases e
    · rcases set_get h2 with ⟨_, e, _⟩ | ⟨hk, h2⟩
      · cases e
      · rw [List.getElem?_set_ne hj] at h3
        rw [List.getElem?_set_ne hk]
        exact r.sep j k ds es a hjk h1 h2 h3
theorem SR.setAll : ∀ {is : List Nat} {vs : List V} {ds : List D} {env : Env} {σ : St}, SR K C G0 H0 G H env σ → Rps K G vs ds → SR K C G0 H0 G H (env.setE is ds) (setV σ is vs)
  | [], _, _, _, _, r, _ => r
  | _ :: _, _, _, _, _, r, .nil => r
  | i :: is, _, _, _, _, r, .cons h hs => SR.setAll (is := is) (r.set h i) hs
/-- a fresh list comes to a name -/
theorem SR.setO (r : SR K C G0 H0 G H env σ) (e : ExtM C.fl G H G' H') (o : OR K C.ct G' H' S') (n : NoF C.fl G') {p : Addr} {vs : List V} {ds : List D} (hp : H p = none) (gp : G'.h p = none) (ap : p ∉ G'.ad) (hl : H' p = some (.lst vs)) (rp : Rps K G' vs ds) (i : Nat) :
    SR K C G0 H0 G' H' ((env.to S').set i (.own ds)) (σ.set i (some (.ref p))) := by
  have r' := r.postM e o n
  have ne : ∀ j es, env.sl[j]? = some (Sl.own es) → σ[j]? ≠ some (some (V.ref p)) := fun j es h q => by
    obtain ⟨a, ws, h1, h2, _⟩ := r.own j es h
    rw [h1] at q
    cases q
    rw [hp] at h2
    cases h2
  refine ⟨⟨⟨fun j d h => ?_, fun j m h => ?_, by show (env.sl.set i _).length = _; rw [List.length_set, List.length_set]; exact r.er.es.len⟩, r'.er.or, r'.er.fl, r'.er.fe⟩, r'.nf, r'.gh, r'.ex, fun j es h => ?_, fun j k es fs a hjk h1 h2 h3 => ?_⟩
  · have h : (env.sl.set i (.own ds))[j]? = some (Sl.val d) := h
    rcases set_get h with ⟨_, q, _⟩ | ⟨hj, h⟩
    · cases q
    · rw [List.getElem?_set_ne hj]
      exact r'.er.es.val j d h
  · have h : (env.sl.set i (.own ds))[j]? = some (Sl.exc m) := h
    rcases set_get h with ⟨_, q, _⟩ | ⟨hj, h⟩
    · cases q
    · rw [List.getElem?_set_ne hj]
      exact r'.er.es.exc j m h
  · have h : (env.sl.set i (.own ds))[j]? = some (Sl.own es) := h
    rcases set_get h with ⟨rfl, q, hi⟩ | ⟨hj, h⟩
    · cases q
      exact ⟨p, vs, List.getElem?_set_self (by rw [← r.er.es.len]; exact hi), hl, gp, r.ex.free hp, ap, rp⟩
    · rw [List.getElem?_set_ne hj]
      exact r'.own j es h
  · have h1 : (env.sl.set i (.own ds))[j]? = some (Sl.own es) := h1
    have h2 : (env.sl.set i (.own ds))[k]? = some (Sl.own fs) := h2
    rcases set_get h1 with ⟨rfl, q, hi⟩ | ⟨hj, h1⟩
    · rw [List.getElem?_set_self (by rw [← r.er.es.len]; exact hi)] at h3
      cases h3
      rcases set_get h2 with ⟨e2, _, _⟩ | ⟨hk, h2⟩
      · exact absurd e2 hjk
      · rw [List.getElem?_set_ne hk]
        exact ne k fs h2
    · rw [List.getElem?_set_ne hj] at h3
      rcases set_get h2 with ⟨rfl, q, hi⟩ | ⟨hk, h2⟩
      · rw [List.getElem?_set_self (by rw [← r.er.es.len]; exact hi)]
        intro q
        cases q
        exact ne j es h1 h3
      · rw [List.getElem?_set_ne hk]
        exact r'.sep j k es fs a hjk h1 h2 h3
theorem SR.setOP (r : SR K C G0 H0 G H env σ) (e : Ext G H G' H') {p : Addr} {vs : List V} {ds : List D} (hp : H p = none) (gp : G'.h p = none) (hl : H' p = some (.lst vs)) (rp : Rps K G' vs ds) (i : Nat) :
    SR K C G0 H0 G' H' (env.set i (.own ds)) (σ.set i (some (.ref p))) :=
  r.setO e.m (r.er.or.ext e) (NoF.ext r.er.or r.nf e) hp gp (fun q => r.er.or.mem (by rw [← e.ad]; exact q) hp) hl rp i
/-- an own list changes -/
theorem SR.mut (r : SR K C G0 H0 G H env σ) {i : Nat} {ds ds' : List D} {a : Addr} {vs' : List V} (h : env.sl[i]? = some (Sl.own ds)) (hs : σ[i]? = some (some (V.ref a))) (rp : Rps K G vs' ds') :
    SR K C G0 H0 G (upd H a (.lst vs')) (env.set i (.own ds')) σ := by
  obtain ⟨a', vs, h1, h2, h3, h4, h6, h5⟩ := r.own i ds h
  rw [hs] at h1
  cases h1
  have hi : i < env.sl.length := (List.getElem?_eq_some_iff.mp h).1
  have sg : Same G.h (upd H a (.lst vs')) := fun b o q => by
    have hb : b ≠ a := fun e => by rw [e, h3] at q; cases q
    rw [upd_ne hb]
    exact r.gh b o q
  have or' : OR K C.ct G (upd H a (.lst vs')) env.st := ⟨r.er.or.ln, r.er.or.nd, fun n b rc q1 q2 => (r.er.or.ok n b rc q1 q2).mono (.refl _) fun o q => by
    have hb : b ≠ a := fun e => h6 (by rw [← e]; exact List.mem_of_getElem? q1)
    rw [upd_ne hb]
    exact q⟩
  have ex' : ExtM C.fl G0 H0 G (upd H a (.lst vs')) := ⟨fun b o q z => by
    have hb : b ≠ a := fun e => by rw [e, h4] at q; cases q
    rw [upd_ne hb]
    exact r.ex.hs b o q z, fun b q => by
    by_cases hb : b = a
    · rw [hb, upd_same]
      exact Option.some_ne_none _
    · rw [upd_ne hb]
      exact r.ex.hx b q, r.ex.gg, sg, r.ex.fr, r.ex.an⟩
  refine ⟨⟨⟨fun j d q => ?_, fun j n q => ?_, by show (env.sl.set i _).length = _; rw [List.length_set]; exact r.er.es.len⟩, or', r.er.fl, r.er.fe⟩, r.nf, sg, ex', fun j es q => ?_, fun j k es fs b hjk q1 q2 q3 => ?_⟩
  · have q : (env.sl.set i (.own ds'))[j]? = some (Sl.val d) := q
    rcases set_get q with ⟨_, q, _⟩ | ⟨hj, q⟩
    · cases q
    · exact r.er.es.val j d q
  · have q : (env.sl.set i (.own ds'))[j]? = some (Sl.exc n) := q
    rcases set_get q with ⟨_, q, _⟩ | ⟨hj, q⟩
    · cases q
    · exact r.er.es.exc j n q
  · have q : (env.sl.set i (.own ds'))[j]? = some (Sl.own es) := q
    rcases set_get q with ⟨rfl, q, _⟩ | ⟨hj, q⟩
    · cases q
      exact ⟨a, vs', hs, upd_same, h3, h4, h6, rp⟩
    · obtain ⟨b, ws, g1, g2, g3, g4, g6, g5⟩ := r.own j es q
      have hb : b ≠ a := fun e => by
        rw [e] at g1
        exact r.sep i j ds es a hj h q hs g1
      exact ⟨b, ws, g1, by rw [upd_ne hb]; exact g2, g3, g4, g6, g5⟩
  · have old : ∀ (j : Nat) (es : List D), (env.sl.set i (Sl.own ds'))[j]? = some (Sl.own es) → ∃ es', env.sl[j]? = some (Sl.own es') := fun j es q => by
      rcases set_get q with ⟨rfl, _, _⟩ | ⟨_, q⟩
      · exact ⟨ds, h⟩
      · exact ⟨es, q⟩
    obtain ⟨e1, q1'⟩ := old j es q1
    obtain ⟨e2, q2'⟩ := old k fs q2
    exact r.sep j k e1 e2 b hjk q1' q2' q3
/-- what is own becomes a plain datum -/
def Sl.fz : Sl → Sl
  | .own ds => .val (.list ds)
  | s => s
def fzL (p : Nat → Bool) (l : List Sl) : List Sl := l.mapIdx fun i s => if p i = true then s.fz else s
def fzE (p : Nat → Bool) (env : Env) : Env := ⟨fzL p env.sl, env.st, env.fl⟩
theorem fzE_get {p : Nat → Bool} {i : Nat} {s : Sl} (h : (fzL p env.sl)[i]? = some s) : ∃ s', env.sl[i]? = some s' ∧ s = if p i = true then s'.fz else s' := by
  unfold fzL at h
  rw [List.getElem?_mapIdx] at h
  cases e : env.sl[i]? with
  | none => rw [e] at h; cases h
  | some s' =>
    rw [e] at h
    exact ⟨s', rfl, (Option.some.inj h).symm⟩
open Classical in
theorem SR.freeze (r : SR K C G0 H0 G H env σ) (p : Nat → Bool) : ∃ G', SR K C G0 H0 G' H (fzE p env) σ ∧ Le G G' := by
  let W : Addr → Prop := fun a => ∃ (i : Nat) (ds : List D), p i = true ∧ env.sl[i]? = some (Sl.own ds) ∧ σ[i]? = some (some (V.ref a))
  let G' : Vw := ⟨fun a => if W a then H a else G.h a, G.ad⟩
  have out : ∀ a, W a → ∃ vs : List V, H a = some (.lst vs) ∧ G.h a = none ∧ H0 a = none ∧ a ∉ G.ad := fun a ⟨i, ds, _, h1, h2⟩ => by
    obtain ⟨a', vs, g1, g2, g3, g4, g6, g5⟩ := r.own i ds h1
    rw [h2] at g1
    cases g1
    exact ⟨vs, g2, g3, g4, g6⟩
  have s1h : Same G.h G'.h := fun b o q => by
    show (if W b then H b else G.h b) = some o
    by_cases hb : W b
    · obtain ⟨_, _, g, _⟩ := out b hb
      rw [g] at q
      cases q
    · rw [if_neg hb]
      exact q
  have s1 : Le G G' := ⟨s1h, [], (List.append_nil _).symm⟩
  have s2 : Same G'.h H := fun b o q => by
    have q : (if W b then H b else G.h b) = some o := q
    by_cases hb : W b
    · rw [if_pos hb] at q
      exact q
    · rw [if_neg hb] at q
      exact r.gh b o q
  have sl2 : ∀ {i : Nat} {x : Sl}, (fzE p env).sl[i]? = some x → ∃ s', env.sl[i]? = some s' ∧ x = if p i = true then s'.fz else s' := fun h => fzE_get h
  refine ⟨G', ⟨⟨⟨fun i d h => ?_, fun i n h => ?_, by show (fzL p env.sl).length = _; unfold fzL; rw [List.length_mapIdx]; exact r.er.es.len⟩, ⟨r.er.or.ln, r.er.or.nd, fun n a rc q1 q2 => (r.er.or.ok n a rc q1 q2).mono s1 fun _ q => q⟩, r.er.fl, r.er.fe⟩, fun n a hn q => ?_, s2,
    ⟨r.ex.hs, r.ex.hx, r.ex.gg.trans s1, s2, fun a o q => ?_, r.ex.an⟩, fun i ds h => ?_, fun i j ds es a hij h1 h2 h3 => ?_⟩, s1⟩
  · obtain ⟨s', h1, h2⟩ := sl2 h
    by_cases hp : p i = true
    · rw [if_pos hp] at h2
      cases s' with
      | no => cases h2
      | exc n => cases h2
      | val d' =>
        cases h2
        obtain ⟨v, g1, g2⟩ := r.er.es.val i d h1
        exact ⟨v, g1, g2.same s1⟩
      | own ds =>
        cases h2
        obtain ⟨a, vs, g1, g2, g3, g4, g6, g5⟩ := r.own i ds h1
        refine ⟨.ref a, g1, .lst (.inl ?_) (g5.same s1)⟩
        show (if W a then H a else G.h a) = _
        rw [if_pos ⟨i, ds, hp, h1, g1⟩]
        exact g2
    · rw [if_neg hp] at h2
      subst h2
      obtain ⟨v, g1, g2⟩ := r.er.es.val i d h1
      exact ⟨v, g1, g2.same s1⟩
  · obtain ⟨s', h1, h2⟩ := sl2 h
    have e : s' = .exc n := by
      by_cases hp : p i = true
      · rw [if_pos hp] at h2
        cases s' <;> cases h2
        rfl
      · rw [if_neg hp] at h2
        exact h2.symm
    subst e
    exact r.er.es.exc i n h1
  · show (if W a then H a else G.h a) = none
    by_cases hb : W a
    · obtain ⟨_, _, _, _, g⟩ := out a hb
      exact absurd (List.mem_of_getElem? q) g
    · rw [if_neg hb]
      exact r.nf n a hn q
  · have q : (if W a then H a else G.h a) = some o := q
    by_cases hb : W a
    · obtain ⟨_, _, _, g, _⟩ := out a hb
      exact .inr g
    · rw [if_neg hb] at q
      exact r.ex.fr a o q
  · obtain ⟨s', h1, h2⟩ := sl2 h
    by_cases hp : p i = true
    · rw [if_pos hp] at h2
      cases s' <;> cases h2
    · rw [if_neg hp] at h2
      subst h2
      obtain ⟨a, vs, g1, g2, g3, g4, g6, g5⟩ := r.own i ds h1
      refine ⟨a, vs, g1, g2, ?_, g4, g6, g5.same s1⟩
      show (if W a then H a else G.h a) = none
      rw [if_neg]
      · exact g3
      · rintro ⟨j, es, hpj, q1, q2⟩
        have hij : i ≠ j := fun e => hp (by rw [e]; exact hpj)
        exact r.sep i j ds es a hij h1 q1 g1 q2
  · have old : ∀ (j : Nat) (es : List D), (fzE p env).sl[j]? = some (Sl.own es) → env.sl[j]? = some (Sl.own es) := fun j es q => by
      obtain ⟨s', q1, q2⟩ := sl2 q
      by_cases hp : p j = true
      · rw [if_pos hp] at q2
        cases s' <;> cases q2
      · rw [if_neg hp] at q2
        rw [q2]
        exact q1
    exact r.sep i j ds es a hij (old i ds h1) (old j es h2) h3
/-! ### views: how a statement looks at its names while it reckons something that changes nothing -/
def VOk (v : Env → Env) : Prop := ∀ {K : PySem.W.Frag} {C : Cf} {G0 G : Vw} {H0 H : Hp} {env : Env} {σ : St}, SR K C G0 H0 G H env σ → ∃ G', Same G'.h H ∧ ER K C G' H (v env) σ ∧ Le G G'
abbrev fu : Env → Env := fzE fun _ => true
theorem v_fu : VOk fu := fun r => by
  obtain ⟨G', r', l⟩ := r.freeze fun _ => true
  exact ⟨G', r'.gh, r'.er, l⟩
/-- .. shared lists too are seen as they stand -/
def der : Nat → Store → D → D
  | k + 1, S, .obj n => match S[n]? with
    | some (.lst ds) => .list (ds.map (der k S))
    | _ => .obj n
  | _, _, d => d
def Sl.der (S : Store) : Sl → Sl
  | .own ds => .val (.list ds)
  | .val d => .val (FO.der 3 S d)
  | s => s
def fd : Env → Env := fun env => ⟨env.sl.map (Sl.der env.st), env.st, env.fl⟩
theorem der_rp {G : Vw} {H : Hp} {S : Store} {T : CT} (o : OR K T G H S) (s : Same G.h H) (seen : ∀ (n : Nat) (a : Addr) (ds : List D), G.ad[n]? = some a → S[n]? = some (.lst ds) → ∀ u, H a = some u → G.h a = some u) :
    ∀ (k : Nat) {d : D} {v : V}, Rp K G v d → Rp K G v (der k S d)
  | 0, d, v, h => by cases d <;> exact h
  | k + 1, d, v, h => by
    cases d with
    | obj n =>
      unfold der
      cases e : S[n]? with
      | none => exact h
      | some r =>
        cases r with
        | ins c fs => exact h
        | lst ds =>
          cases h with
          | obj ha =>
            obtain ⟨vs, h1, h2⟩ := o.ok n _ _ ha e
            refine .lst (.inl (seen n _ ds ha e _ h1)) ?_
            have aux : ∀ (ds : List D) (vs : List V), Rps K G vs ds → Rps K G vs (ds.map (der k S)) := by
              intro ds
              induction ds with
              | nil => intro vs h; cases h; exact .nil
              | cons d ds ih =>
                intro vs h
                cases h with
                | cons a b => exact .cons (der_rp o s seen k a) (ih _ b)
            exact aux ds vs h2
    | _ => exact h
open Classical in
theorem v_fd : VOk fd := by
  intro K C G0 G H0 H env σ r0
  obtain ⟨G1, r, l1⟩ := r0.freeze fun _ => true
  let W : Addr → Prop := fun a => ∃ (n : Nat) (ds : List D), G1.ad[n]? = some a ∧ env.st[n]? = some (.lst ds)
  let G' : Vw := ⟨fun a => if W a then H a else G1.h a, G1.ad⟩
  have s1h : Same G1.h G'.h := fun b o q => by
    show (if W b then H b else G1.h b) = some o
    by_cases hb : W b
    · rw [if_pos hb]
      exact r.gh b o q
    · rw [if_neg hb]
      exact q
  have s1 : Le G1 G' := ⟨s1h, [], (List.append_nil _).symm⟩
  have s2 : Same G'.h H := fun b o q => by
    have q : (if W b then H b else G1.h b) = some o := q
    by_cases hb : W b
    · rw [if_pos hb] at q
      exact q
    · rw [if_neg hb] at q
      exact r.gh b o q
  have or' : OR K C.ct G' H env.st := ⟨r.er.or.ln, r.er.or.nd, fun n a rc q1 q2 => (r.er.or.ok n a rc q1 q2).mono s1 fun _ q => q⟩
  have seen : ∀ (n : Nat) (a : Addr) (ds : List D), G'.ad[n]? = some a → env.st[n]? = some (.lst ds) → ∀ u, H a = some u → G'.h a = some u := fun n a ds h1 h2 u h3 => by
    show (if W a then H a else G1.h a) = some u
    rw [if_pos ⟨n, ds, h1, h2⟩]
    exact h3
  refine ⟨G', s2, ⟨⟨fun i d h => ?_, fun i n h => ?_, ?_⟩, or', r.er.fl, r.er.fe⟩, l1.trans s1⟩
  · have h : (env.sl.map (Sl.der env.st))[i]? = some (Sl.val d) := h
    rw [List.getElem?_map] at h
    cases e : env.sl[i]? with
    | none => rw [e] at h; cases h
    | some x =>
      rw [e] at h
      have h : x.der env.st = .val d := Option.some.inj h
      have e1 : (fzE (fun _ => true) env).sl[i]? = some x.fz := by
        show (fzL _ env.sl)[i]? = _
        unfold fzL
        rw [List.getElem?_mapIdx, e]
        rfl
      cases x with
      | no => cases h
      | exc n => cases h
      | own ds =>
        cases h
        obtain ⟨v, g1, g2⟩ := r.er.es.val i _ e1
        exact ⟨v, g1, g2.same s1⟩
      | val d' =>
        cases h
        obtain ⟨v, g1, g2⟩ := r.er.es.val i _ e1
        exact ⟨v, g1, der_rp or' s2 seen 3 (g2.same s1)⟩
  · have h : (env.sl.map (Sl.der env.st))[i]? = some (Sl.exc n) := h
    rw [List.getElem?_map] at h
    cases e : env.sl[i]? with
    | none => rw [e] at h; cases h
    | some x =>
      rw [e] at h
      have h : x.der env.st = .exc n := Option.some.inj h
      cases x <;> cases h
      exact r0.er.es.exc i n e
  · show (env.sl.map _).length = _
    rw [List.length_map]
    exact r0.er.es.len
end
/-! ### what a statement does -/
inductive Out where
  | nx (e : Env)
  | bk (e : Env)
  | ct (e : Env)
  | rt (d : D) (S : Store)
  | ex (n : Nat) (e : Env)
  | bad
def Res.out {α : Type} (env : Env) (r : Res α) (k : α → Out) : Out := match r with
  | .ok a => k a
  | .ex n => .ex n env
  | .bad => .bad
def Rs.out {α : Type} (env : Env) (r : Rs α) (k : α → Env → Out) : Out := match r with
  | .ok a S => k a (env.to S)
  | .ex n S => .ex n (env.to S)
  | .bad => .bad
/-- what is wanted of a def's result -/
def RtP (K : PySem.W.Frag) (T : CT) (fl : Nat) (fr : Bool) (G : Vw) (H : Hp) (Q : VK) (S : Store) : D → Prop := fun d => match fr with
  | true => ∃ ds, d = .list ds ∧ ∀ p vs G' H', ExtM fl G H G' H' → OR K T G' H' S → NoF fl G' → H p = none → G'.h p = none → p ∉ G'.ad → H' p = some (.lst vs) → Rps K G' vs ds → Q (.ref p) H'
  | false => ∀ v G' H', ExtM fl G H G' H' → OR K T G' H' S → NoF fl G' → Rp K G' v d → Q v H'
def PostS (K : PySem.W.Frag) (C : Cf) (fr : Bool) (G0 : Vw) (H0 : Hp) (Dn : Ends) : Out → Prop
  | .nx e => ∀ σ G H, SR K C G0 H0 G H e σ → Dn.nx σ H
  | .bk e => ∀ σ G H, SR K C G0 H0 G H e σ → Dn.bk σ H
  | .ct e => ∀ σ G H, SR K C G0 H0 G H e σ → Dn.ct σ H
  | .rt d S => RtP K C.ct C.fl fr G0 H0 Dn.rt S d
  | .ex n e => ∀ σ G H, SR K C G0 H0 G H e σ → C.xw σ n H
  | .bad => False
def tS (K : PySem.W.Frag) (C : Cf) (fr : Bool) (g : Env → Out) : TS := fun Dn σ H => ∃ G0 H0 G env, SR K C G0 H0 G H env σ ∧ PostS K C fr G0 H0 Dn (g env)
abbrev QS (X : Cx) (C : Cf) (fr : Bool) (st : Stmt) (g : Env → Out) : Prop := PS X st (tS X.K C fr g)
abbrev QSs (X : Cx) (C : Cf) (fr : Bool) (st : List Stmt) (g : Env → Out) : Prop := PSs X st (tS X.K C fr g)
/-- an expression with effects -/
def PostM {α ν : Type} (K : PySem.W.Frag) (C : Cf) (R : Vw → ν → α → Prop) (xw : Nat → Hp → Prop) (G : Vw) (H : Hp) (Q : ν → Hp → Prop) : Rs α → Prop
  | .ok a S => ∀ v G' H', ExtM C.fl G H G' H' → OR K C.ct G' H' S → NoF C.fl G' → R G' v a → Q v H'
  | .ex n S => ∀ G' H', ExtM C.fl G H G' H' → OR K C.ct G' H' S → NoF C.fl G' → xw n H'
  | .bad => False
structure EM (K : PySem.W.Frag) (C : Cf) (G : Vw) (H : Hp) (env : Env) (σ : St) : Prop where
  s : Same G.h H
  er : ER K C G H env σ
  nf : NoF C.fl G
def tM (K : PySem.W.Frag) (C : Cf) (f : Env → Rs D) : TE := fun σ H Q => ∃ G env, EM K C G H env σ ∧ PostM K C (Rp K) (C.xw σ) G H Q (f env)
def tMs (K : PySem.W.Frag) (C : Cf) (f : Env → Rs (List D)) : TA := fun σ H Q => ∃ G env, EM K C G H env σ ∧ PostM K C (RpsR K) (C.xw σ) G H Q (f env)
def tMb (K : PySem.W.Frag) (C : Cf) (f : Env → Rs Bool) : TT := fun σ H Q => ∃ G env, EM K C G H env σ ∧ PostM K C BoR (C.xw σ) G H Q (f env)
/-- .. that gives a fresh list -/
def PostMF (K : PySem.W.Frag) (C : Cf) (xw : Nat → Hp → Prop) (G : Vw) (H : Hp) (Q : VK) : Rs (List D) → Prop
  | .ok ds S => ∀ p vs G' H', ExtM C.fl G H G' H' → OR K C.ct G' H' S → NoF C.fl G' → H p = none → G'.h p = none → p ∉ G'.ad → H' p = some (.lst vs) → Rps K G' vs ds → Q (.ref p) H'
  | .ex n S => ∀ G' H', ExtM C.fl G H G' H' → OR K C.ct G' H' S → NoF C.fl G' → xw n H'
  | .bad => False
def tMf (K : PySem.W.Frag) (C : Cf) (f : Env → Rs (List D)) : TE := fun σ H Q => ∃ G env, EM K C G H env σ ∧ PostMF K C (C.xw σ) G H Q (f env)
abbrev ME (X : Cx) (C : Cf) (e : Expr) (f : Env → Rs D) : Prop := PE X e (tM X.K C f)
abbrev MA (X : Cx) (C : Cf) (es : List Expr) (f : Env → Rs (List D)) : Prop := PA X es (tMs X.K C f)
abbrev MT (X : Cx) (C : Cf) (e : Expr) (f : Env → Rs Bool) : Prop := PT X e (tMb X.K C f)
abbrev MF (X : Cx) (C : Cf) (e : Expr) (f : Env → Rs (List D)) : Prop := PE X e (tMf X.K C f)
section
variable {K : PySem.W.Frag} {C : Cf} {fr : Bool} {G0 G G' : Vw} {H0 H H' : Hp} {env : Env} {σ : St} {Dn : Ends} {α ν : Type} {R : Vw → ν → α → Prop} {Q : ν → Hp → Prop} {QV : VK} {S : Store}
theorem SR.em (r : SR K C G0 H0 G H env σ) : EM K C G H env σ := ⟨r.gh, r.er, r.nf⟩
theorem EM.ext (r : EM K C G H env σ) (e : ExtM C.fl G H G' H') (o : OR K C.ct G' H' S) (n : NoF C.fl G') : EM K C G' H' (env.to S) σ :=
  ⟨e.gh, ⟨r.er.es.same e.gg, o, Nat.le_trans r.er.fl (OR.grows r.er.or o e.gg), r.er.fe⟩, n⟩
theorem EM.pure (r : EM K C G H env σ) (e : Ext G H G' H') : EM K C G' H' env σ := ⟨e.gh, r.er.ext e, NoF.ext r.er.or r.nf e⟩
theorem PostM.ext (e : ExtM C.fl G H G' H') {r : Rs α} {xw : Nat → Hp → Prop} (h : PostM K C R xw G H Q r) : PostM K C R xw G' H' Q r := by
  cases r with
  | ok a S => exact fun v G2 H2 x o n rp => h v G2 H2 (e.trans x) o n rp
  | ex n S => exact fun G2 H2 x o n => h G2 H2 (e.trans x) o n
  | bad => exact h
theorem PostM.bind {β μ : Type} {R2 : Vw → μ → β → Prop} {Q2 : μ → Hp → Prop} {xw : Nat → Hp → Prop} {r : Rs α} {k : α → Store → Rs β} (h : PostM K C R2 xw G H Q2 (r.bind k))
    (j : ∀ a S v G1 H1, ExtM C.fl G H G1 H1 → OR K C.ct G1 H1 S → NoF C.fl G1 → R G1 v a → PostM K C R2 xw G1 H1 Q2 (k a S) → Q v H1) : PostM K C R xw G H Q r := by
  cases r with
  | ok a S => exact fun v G1 H1 e o n rp => j a S v G1 H1 e o n rp (PostM.ext e h)
  | ex n S => exact h
  | bad => exact h
/-- an expression within a statement, at the state as it stands -/
theorem stE {r : Res α} {k : α → Out} (sr : SR K C G0 H0 G H env σ) (p : PostS K C fr G0 H0 Dn (r.out env k)) (j : ∀ a v G' H', Ext G H G' H' → R G' v a → PostS K C fr G0 H0 Dn (k a) → Q v H') : Post R (C.xw σ) G H Q r := by
  cases r with
  | ok a => exact fun v G' H' e rp => j a v G' H' e rp p
  | ex n => exact fun G' H' s => p σ G' H' (sr.post s)
  | bad => exact p
theorem stF {r : Res (List D)} {k : List D → Out} (sr : SR K C G0 H0 G H env σ) (p : PostS K C fr G0 H0 Dn (r.out env k))
    (j : ∀ ds q vs G' H', Ext G H G' H' → H q = none → G'.h q = none → H' q = some (.lst vs) → Rps K G' vs ds → PostS K C fr G0 H0 Dn (k ds) → QV (.ref q) H') : PostF K (C.xw σ) G H QV r := by
  cases r with
  | ok a => exact fun q vs G' H' e hp gp hl rp => j a q vs G' H' e hp gp hl rp p
  | ex n => exact fun G' H' s => p σ G' H' (sr.post s)
  | bad => exact p
/-- .. by a view: what is raised goes by the state itself -/
theorem stE' {r : Res α} {k : α → Out} {G1 : Vw} (sr : SR K C G0 H0 G H env σ) (p : PostS K C fr G0 H0 Dn (r.out env k)) (j : ∀ a v G' H', Ext G1 H G' H' → R G' v a → PostS K C fr G0 H0 Dn (k a) → Q v H') : Post R (C.xw σ) G1 H Q r := by
  cases r with
  | ok a => exact fun v G' H' e rp => j a v G' H' e rp p
  | ex n => exact fun G' H' s => p σ G H' (sr.grow s.hh)
  | bad => exact p
theorem stF' {r : Res (List D)} {k : List D → Out} {G1 : Vw} (sr : SR K C G0 H0 G H env σ) (p : PostS K C fr G0 H0 Dn (r.out env k))
    (j : ∀ ds q vs G' H', Ext G1 H G' H' → H q = none → G'.h q = none → H' q = some (.lst vs) → Rps K G' vs ds → PostS K C fr G0 H0 Dn (k ds) → QV (.ref q) H') : PostF K (C.xw σ) G1 H QV r := by
  cases r with
  | ok a => exact fun q vs G' H' e hp gp hl rp => j a q vs G' H' e hp gp hl rp p
  | ex n => exact fun G' H' s => p σ G H' (sr.grow s.hh)
  | bad => exact p
/-- .. with effects -/
theorem stM {r : Rs α} {k : α → Env → Out} (sr : SR K C G0 H0 G H env σ) (p : PostS K C fr G0 H0 Dn (r.out env k))
    (j : ∀ a S v G' H', ExtM C.fl G H G' H' → OR K C.ct G' H' S → NoF C.fl G' → R G' v a → SR K C G0 H0 G' H' (env.to S) σ → PostS K C fr G0 H0 Dn (k a (env.to S)) → Q v H') : PostM K C R (C.xw σ) G H Q r := by
  cases r with
  | ok a S => exact fun v G' H' e o n rp => j a S v G' H' e o n rp (sr.postM e o n) p
  | ex n S => exact fun G' H' e o n => p σ G' H' (sr.postM e o n)
  | bad => exact p
theorem stMF {r : Rs (List D)} {k : List D → Env → Out} (sr : SR K C G0 H0 G H env σ) (p : PostS K C fr G0 H0 Dn (r.out env k))
    (j : ∀ ds S q vs G' H', ExtM C.fl G H G' H' → OR K C.ct G' H' S → NoF C.fl G' → H q = none → G'.h q = none → q ∉ G'.ad → H' q = some (.lst vs) → Rps K G' vs ds → PostS K C fr G0 H0 Dn (k ds (env.to S)) → QV (.ref q) H') : PostMF K C (C.xw σ) G H QV r := by
  cases r with
  | ok a S => exact fun q vs G' H' e o n hp gp ap hl rp => j a S q vs G' H' e o n hp gp ap hl rp p
  | ex n S => exact fun G' H' e o n => p σ G' H' (sr.postM e o n)
  | bad => exact p
/-- another ground -/
structure Bse (G0 : Vw) (H0 : Hp) (G1 : Vw) : Prop where
  l : Le G0 G1
  f : ∀ a o, G1.h a = some o → (∃ o', G0.h a = some o') ∨ H0 a = none
  an : ∀ n a, G0.ad.length ≤ n → G1.ad[n]? = some a → H0 a = none
theorem SR.bse (r : SR K C G0 H0 G H env σ) : Bse G0 H0 G := ⟨r.ex.gg, r.ex.fr, r.ex.an⟩
theorem ExtM.base {fl : Nat} {G1 : Vw} (b : Bse G0 H0 G1) (x : ExtM fl G1 H0 G H) : ExtM fl G0 H0 G H where
  hs a o e h := x.hs a o e fun n hn q => by
    by_cases hl : n < G0.ad.length
    · have q2 : G1.ad[n]? = some (G0.ad[n]) := b.l.get (List.getElem?_eq_getElem hl)
      rw [q2] at q
      exact h n hn (by rw [List.getElem?_eq_getElem hl]; exact q)
    · have := b.an n a (Nat.le_of_not_lt hl) q
      rw [e] at this
      cases this
  hx := x.hx
  gg := b.l.trans x.gg
  gh := x.gh
  fr a o q := by
    rcases x.fr a o q with ⟨o', q'⟩ | q'
    · exact b.f a o' q'
    · exact .inr q'
  an n a hn q := by
    by_cases hl : n < G1.ad.length
    · have q2 : G.ad[n]? = some (G1.ad[n]) := x.gg.get (List.getElem?_eq_getElem hl)
      rw [q2] at q
      exact b.an n a hn (by rw [List.getElem?_eq_getElem hl]; exact q)
    · exact x.an n a (Nat.le_of_not_lt hl) q
theorem ExtM.above {fl : Nat} {G1 : Vw} (l0 : Le G0 G1) (l : Le G1 G) (x : ExtM fl G0 H0 G H) : ExtM fl G1 H0 G H where
  hs a o e h := x.hs a o e fun n hn q => h n hn (l0.get q)
  hx := x.hx
  gg := l
  gh := x.gh
  fr a o q := by
    rcases x.fr a o q with ⟨o', q'⟩ | q'
    · exact .inl ⟨o', l0.h _ _ q'⟩
    · exact .inr q'
  an n a hn q := x.an n a (Nat.le_trans l0.len hn) q
theorem SR.rebase {G1 : Vw} (b : Bse G0 H0 G1) (r : SR K C G1 H0 G H env σ) : SR K C G0 H0 G H env σ := ⟨r.er, r.nf, r.gh, r.ex.base b, r.own, r.sep⟩
theorem SR.onto {G1 : Vw} (l0 : Le G0 G1) (l : Le G1 G) (r : SR K C G0 H0 G H env σ) : SR K C G1 H0 G H env σ := ⟨r.er, r.nf, r.gh, r.ex.above l0 l, r.own, r.sep⟩
theorem PostS.onto {G1 : Vw} (b : Bse G0 H0 G1) {o : Out} (p : PostS K C fr G0 H0 Dn o) : PostS K C fr G1 H0 Dn o := by
  cases o with
  | nx e => exact fun σ G H r => p σ G H (SR.rebase b r)
  | bk e => exact fun σ G H r => p σ G H (SR.rebase b r)
  | ct e => exact fun σ G H r => p σ G H (SR.rebase b r)
  | ex n e => exact fun σ G H r => p σ G H (SR.rebase b r)
  | bad => exact p
  | rt d S =>
    cases fr with
    | true =>
      obtain ⟨ds, e, h⟩ := p
      exact ⟨ds, e, fun q vs G' H' x => h q vs G' H' (x.base b)⟩
    | false => exact fun v G' H' x => p v G' H' (x.base b)
end
section
variable {X : Cx} {C : Cf} {fr : Bool} {st : Stmt} {rest : List Stmt} {g h : Env → Out} {e : Expr} {pos : Pos} {f : Env → Res D} {ff : Env → Res (List D)} {fm : Env → Rs D} {v : Env → Env}
def sNil : Env → Out := fun e => .nx e
def Out.seq (o : Out) (h : Env → Out) : Out := match o with
  | .nx e => h e
  | o => o
def sSeq (g h : Env → Out) : Env → Out := fun e => (g e).seq h
theorem qss_nil : QSs X C fr [] sNil := pss_imp pss_nil fun Dn σ H ⟨G0, H0, G, env, sr, p⟩ => p σ G H sr
theorem qss_cons (h1 : QS X C fr st g) (h2 : QSs X C fr rest h) : QSs X C fr (st :: rest) (sSeq g h) :=
  pss_imp (pss_cons h1 h2) fun Dn σ H ⟨G0, H0, G, env, sr, p⟩ => ⟨G0, H0, G, env, sr, by
    unfold sSeq at p
    cases hg : g env with
    | nx e =>
      rw [hg] at p
      exact fun σ' G' H' r => ⟨G0, H0, G', e, r, p⟩
    | bk e => rw [hg] at p; exact p
    | ct e => rw [hg] at p; exact p
    | rt d S => rw [hg] at p; exact p
    | ex n e => rw [hg] at p; exact p
    | bad => rw [hg] at p; exact p⟩
theorem qss_one (h1 : QS X C fr st g) : QSs X C fr [st] g := pss_one h1
theorem qs_pass : QS X C fr (.Pass pos) sNil := ps_imp ps_pass fun Dn σ H ⟨G0, H0, G, env, sr, p⟩ => p σ G H sr
theorem qs_break : QS X C fr (.Break pos) .bk := ps_imp ps_break fun Dn σ H ⟨G0, H0, G, env, sr, p⟩ => p σ G H sr
theorem qs_continue : QS X C fr (.Continue pos) .ct := ps_imp ps_continue fun Dn σ H ⟨G0, H0, G, env, sr, p⟩ => p σ G H sr
theorem qs_doc {x j pos pos'} : QS X C fr (.Expr (.Constant (.str x) j pos) pos') sNil := ps_imp ps_doc fun Dn σ H ⟨G0, H0, G, env, sr, p⟩ => p σ G H sr
/-- some own lists become plain ahead of a statement -/
def sFz (q : Nat → Bool) (g : Env → Out) : Env → Out := fun env => g (fzE q env)
theorem qs_fz {q : Nat → Bool} (h1 : QS X C fr st g) : QS X C fr st (sFz q g) := ps_imp h1 fun Dn σ H ⟨G0, H0, G, env, sr, p⟩ => by
  obtain ⟨G', sr', _⟩ := sr.freeze q
  exact ⟨G0, H0, G', _, sr', p⟩
/-- names -/
def sSetV (i : Nat) (f : Env → Res D) : Env → Out := fun env => (f env).out env fun d => .nx (env.set i (.val d))
def sSetS (v : Env → Env) (i : Nat) (f : Env → Res D) : Env → Out := fun env => (f (v env)).out env fun d => if scal d = true then .nx (env.set i (.val d)) else .bad
def sSetO (i : Nat) (f : Env → Res (List D)) : Env → Out := fun env => (f env).out env fun ds => .nx (env.set i (.own ds))
def sSetOS (v : Env → Env) (i : Nat) (f : Env → Res (List D)) : Env → Out := fun env => (f (v env)).out env fun ds => if ds.all scal = true then .nx (env.set i (.own ds)) else .bad
/-- .. with effects -/
def sSetM (i : Nat) (f : Env → Rs D) : Env → Out := fun env => (f env).out env fun d e => .nx (e.set i (.val d))
def sSetMF (i : Nat) (f : Env → Rs (List D)) : Env → Out := fun env => (f env).out env fun ds e => .nx (e.set i (.own ds))
theorem setV_run {i : Nat} {σ : St} {H : Hp} {Dn : Ends} (h : tS X.K C fr (sSetV i f) Dn σ H) : tAsg (tX X.K C f) (gName i) Dn σ H := by
  obtain ⟨G0, H0, G, env, sr, p⟩ := h
  exact ⟨G, env, sr.gh, sr.er, stE sr p fun d v G' H' e rp q => q _ G' H' ((sr.post e).set rp i)⟩
theorem setS_run {i : Nat} {σ : St} {H : Hp} {Dn : Ends} (hv : VOk v) (h : tS X.K C fr (sSetS v i f) Dn σ H) : tAsg (tX X.K C f) (gName i) Dn σ H := by
  obtain ⟨G0, H0, G, env, sr, p⟩ := h
  obtain ⟨G1, s1, er1, _⟩ := hv sr
  refine ⟨G1, v env, s1, er1, stE' sr p fun d v G' H' e rp q => ?_⟩
  split at q
  · rename_i hs
    exact q _ G H' ((sr.grow e.hh).set (rp.scal hs G) i)
  · exact q.elim
theorem setO_run {i : Nat} {σ : St} {H : Hp} {Dn : Ends} (h : tS X.K C fr (sSetO i ff) Dn σ H) : tAsg (tXf X.K C ff) (gName i) Dn σ H := by
  obtain ⟨G0, H0, G, env, sr, p⟩ := h
  exact ⟨G, env, sr.gh, sr.er, stF sr p fun ds a vs G' H' e hp gp hl rp q => q _ G' H' (sr.setOP e hp gp hl rp i)⟩
theorem setOS_run {i : Nat} {σ : St} {H : Hp} {Dn : Ends} (hv : VOk v) (h : tS X.K C fr (sSetOS v i ff) Dn σ H) : tAsg (tXf X.K C ff) (gName i) Dn σ H := by
  obtain ⟨G0, H0, G, env, sr, p⟩ := h
  obtain ⟨G1, s1, er1, l1⟩ := hv sr
  refine ⟨G1, v env, s1, er1, stF' sr p fun ds a vs G' H' e hp gp hl rp q => ?_⟩
  split at q
  · rename_i hs
    exact q _ G H' (sr.setOP ⟨e.hh, .refl _, rfl, sr.gh.trans e.hh, fun a o q => .inl ⟨o, q⟩⟩ hp ((l1.h.trans e.gg).free gp) hl (rp.scal hs G) i)
  · exact q.elim
variable {i : Nat} {x : Str} {pos' : Pos}
theorem qs_setV (hN : X.N.Nodup) (hi : X.N[i]? = some x) (he : QE X C e f) (hx : Loc X.env.scope x := by first | exact Or.inl rfl | exact Or.inr rfl) (hs : swapsWith e (some (.Name x pos')) pos.line X.env = pure false := by rfl) (hf : X.fn x = true ∨ X.env.scope.names.lookup x = some .local := by first | exact .inl rfl | exact .inr rfl) :
    QS X C fr (.Assign [.Name x pos'] e pos) (sSetV i f) := ps_imp (ps_set hN hi hx he hs hf) fun _ _ _ h => setV_run h
theorem qs_setS (hv : VOk v) (hN : X.N.Nodup) (hi : X.N[i]? = some x) (he : QE X C e f) (hx : Loc X.env.scope x := by first | exact Or.inl rfl | exact Or.inr rfl) (hs : swapsWith e (some (.Name x pos')) pos.line X.env = pure false := by rfl) (hf : X.fn x = true ∨ X.env.scope.names.lookup x = some .local := by first | exact .inl rfl | exact .inr rfl) :
    QS X C fr (.Assign [.Name x pos'] e pos) (sSetS v i f) := ps_imp (ps_set hN hi hx he hs hf) fun _ _ _ h => setS_run hv h
theorem qs_setO (hN : X.N.Nodup) (hi : X.N[i]? = some x) (he : QF X C e ff) (hx : Loc X.env.scope x := by first | exact Or.inl rfl | exact Or.inr rfl) (hs : swapsWith e (some (.Name x pos')) pos.line X.env = pure false := by rfl) (hf : X.fn x = true ∨ X.env.scope.names.lookup x = some .local := by first | exact .inl rfl | exact .inr rfl) :
    QS X C fr (.Assign [.Name x pos'] e pos) (sSetO i ff) := ps_imp (ps_set hN hi hx he hs hf) fun _ _ _ h => setO_run h
theorem qs_setOS (hv : VOk v) (hN : X.N.Nodup) (hi : X.N[i]? = some x) (he : QF X C e ff) (hx : Loc X.env.scope x := by first | exact Or.inl rfl | exact Or.inr rfl) (hs : swapsWith e (some (.Name x pos')) pos.line X.env = pure false := by rfl) (hf : X.fn x = true ∨ X.env.scope.names.lookup x = some .local := by first | exact .inl rfl | exact .inr rfl) :
    QS X C fr (.Assign [.Name x pos'] e pos) (sSetOS v i ff) := ps_imp (ps_set hN hi hx he hs hf) fun _ _ _ h => setOS_run hv h
theorem qs_setM (hN : X.N.Nodup) (hi : X.N[i]? = some x) (he : ME X C e fm) (hx : Loc X.env.scope x := by first | exact Or.inl rfl | exact Or.inr rfl) (hs : swapsWith e (some (.Name x pos')) pos.line X.env = pure false := by rfl) (hf : X.fn x = true ∨ X.env.scope.names.lookup x = some .local := by first | exact .inl rfl | exact .inr rfl) :
    QS X C fr (.Assign [.Name x pos'] e pos) (sSetM i fm) := ps_imp (ps_set hN hi hx he hs hf) fun Dn σ H ⟨G0, H0, G, env, sr, p⟩ => ⟨G, env, sr.em, stM sr p fun d S v G' H' e o n rp sr' q => q _ G' H' (sr'.set rp i)⟩
theorem qs_setMF {fmf : Env → Rs (List D)} (hN : X.N.Nodup) (hi : X.N[i]? = some x) (he : MF X C e fmf) (hx : Loc X.env.scope x := by first | exact Or.inl rfl | exact Or.inr rfl) (hs : swapsWith e (some (.Name x pos')) pos.line X.env = pure false := by rfl) (hf : X.fn x = true ∨ X.env.scope.names.lookup x = some .local := by first | exact .inl rfl | exact .inr rfl) :
    QS X C fr (.Assign [.Name x pos'] e pos) (sSetMF i fmf) := ps_imp (ps_set hN hi hx he hs hf) fun Dn σ H ⟨G0, H0, G, env, sr, p⟩ => ⟨G, env, sr.em, stMF sr p fun ds S a vs G' H' e o n hp gp ap hl rp q => q _ G' H' (sr.setO e o n hp gp ap hl rp i)⟩
/-- name = [..] on one line -/
theorem qs_setLc {tS' : TE → TS} {gg : Env → Out} {elt tg iter : Expr} {ifs : List Expr} {scope : Scope} {own : List (Str × Nat)} {lpos : Pos} {t : Tg} {fi : Env → Res (List D)} {c : Env → Res Bool} {fe : Env → Res D} (hc : X.calm = true) (hN : X.N.Nodup) (hi : X.N[i]? = some x) (hyl : X.env.scope.names.lookup x = some .local)
    (hsw : swapsWith (.ListComp elt [⟨tg, iter, ifs, 0⟩] scope lpos) (some (.Name x pos')) pos.line X.env = pure true) (hI : QI X C tg iter fi) (ok : BlkOk X.N X.env.scope scope own)
    (hg : ∀ (s : Shared) (H : Hp) (Cc : Addr) (cl : List (Str × Addr)) (fp : List Addr), QG (X.blk s H scope (compEnvC scope cl Cc X.env) fp) tg t) (ht : ∀ (s : Shared) (H : Hp) (Cc : Addr) (cl : List (Str × Addr)) (fp : List Addr), QTs (X.blk s H scope (compEnvC scope cl Cc X.env) fp) C.quiet ifs c)
    (he : ∀ (s : Shared) (H : Hp) (Cc : Addr) (cl : List (Str × Addr)) (fp : List Addr), QE (X.blk s H scope (compEnvC scope cl Cc X.env) fp) C.quiet elt fe) (hv : ∀ i ∈ own.map (·.2), i ∈ t.is) (hv2 : ∀ i ∈ t.is, i ∈ own.map (·.2))
    (hgo : ∀ Dn σ H, tS X.K C fr gg Dn σ H → tAsg (tXf X.K C (eComp t fi c fe)) (gName i) Dn σ H) (hs : ∀ x, foldedSetIterable iter X.env x = pure x := by intro _; rfl) :
    QS X C fr (.Assign [.Name x pos'] (.ListComp elt [⟨tg, iter, ifs, 0⟩] scope lpos) pos) gg :=
  ps_imp (ps_setLc hc hN hi hyl hsw hI ok hg ht he hs) fun Dn σ H h => lc_post hv hv2 (hgo Dn σ H h)
theorem setVF_run {i : Nat} {σ : St} {H : Hp} {Dn : Ends} (h : tS X.K C fr (sSetV i fun env => (ff env).map .list) Dn σ H) : tAsg (tXf X.K C ff) (gName i) Dn σ H := by
  obtain ⟨G, env, s, er, p⟩ := setV_run h
  exact ⟨G, env, s, er, PostF.of p⟩
/-- return -/
def sRet (f : Env → Res D) : Env → Out := fun env => (f (fu env)).out env fun d => .rt d env.st
def sRetS (v : Env → Env) (f : Env → Res D) : Env → Out := fun env => (f (v env)).out env fun d => if scal d = true then .rt d env.st else .bad
def sRetF (f : Env → Res (List D)) : Env → Out := fun env => (f (fu env)).out env fun ds => .rt (.list ds) env.st
def sRetOwn (i : Nat) : Env → Out := fun env => match env.sl[i]? with
  | some (.own ds) => .rt (.list ds) env.st
  | _ => .bad
def sRetN : Env → Out := fun env => .rt .none env.st
def sRetM (f : Env → Rs D) : Env → Out := fun env => (f env).out env fun d e => .rt d e.st
def sRetMF (f : Env → Rs (List D)) : Env → Out := fun env => (f env).out env fun ds e => .rt (.list ds) e.st
theorem qs_ret (he : QE X C e f) : QS X C false (.Return (some e) pos) (sRet f) := ps_imp (ps_ret he) fun Dn σ H ⟨G0, H0, G, env, sr, p⟩ => by
  obtain ⟨G1, sr1, s1⟩ := sr.freeze fun _ => true
  refine ⟨G1, fu env, sr1.gh, sr1.er, stE' sr p fun d v G' H' e rp q => ?_⟩
  have sr2 := sr1.post e
  exact q v G' H' sr2.ex sr2.er.or sr2.nf rp
theorem qs_retS (hv : VOk v) (he : QE X C e f) : QS X C false (.Return (some e) pos) (sRetS v f) := ps_imp (ps_ret he) fun Dn σ H ⟨G0, H0, G, env, sr, p⟩ => by
  obtain ⟨G1, s1, er1, _⟩ := hv sr
  refine ⟨G1, v env, s1, er1, stE' sr p fun d v G' H' e rp q => ?_⟩
  split at q
  · rename_i hs
    have sr2 := sr.grow e.hh
    exact q v G H' sr2.ex sr2.er.or sr2.nf (rp.scal hs G)
  · exact q.elim
theorem qs_retN : QS X C false (.Return none pos) sRetN := ps_imp ps_retN fun Dn σ H ⟨G0, H0, G, env, sr, p⟩ => p _ G H sr.ex sr.er.or sr.nf .non
theorem qs_retM (he : ME X C e fm) : QS X C false (.Return (some e) pos) (sRetM fm) := ps_imp (ps_ret he) fun Dn σ H ⟨G0, H0, G, env, sr, p⟩ =>
  ⟨G, env, sr.em, stM sr p fun d S v G' H' e o n rp sr' q => q v G' H' sr'.ex sr'.er.or sr'.nf rp⟩
theorem qs_retF (he : QF X C e ff) : QS X C true (.Return (some e) pos) (sRetF ff) := ps_imp (ps_ret he) fun Dn σ H ⟨G0, H0, G, env, sr, p⟩ => by
  obtain ⟨G1, sr1, s1⟩ := sr.freeze fun _ => true
  refine ⟨G1, fu env, sr1.gh, sr1.er, stF' sr p fun ds a vs G' H' e hp gp hl rp q => ?_⟩
  obtain ⟨ds', ed, q⟩ := q
  cases ed
  have sr2 := sr1.post e
  exact q a vs G' H' sr2.ex sr2.er.or sr2.nf (sr.ex.free hp) gp (fun z => sr1.er.or.mem (by rw [← e.ad]; exact z) hp) hl rp
theorem qs_retMF {fmf : Env → Rs (List D)} (he : MF X C e fmf) : QS X C true (.Return (some e) pos) (sRetMF fmf) := ps_imp (ps_ret he) fun Dn σ H ⟨G0, H0, G, env, sr, p⟩ =>
  ⟨G, env, sr.em, stMF sr p fun ds S a vs G' H' e o n hp gp ap hl rp q => by
    obtain ⟨ds', ed, q⟩ := q
    cases ed
    exact q a vs G' H' (sr.ex.trans e) o n (sr.ex.free hp) gp ap hl rp⟩
theorem qs_retOwn (i : Nat) {x : Str} {p2 : Pos} (hN : X.N[i]? = some x := by rfl) (hv : Vis X.env.scope x := by first | exact Or.inl rfl | exact Or.inr (Or.inl rfl) | exact Or.inr (Or.inr rfl)) (hd : (x == ("__debug__" : Str)) = false := by decide)
    (hcd : (x == ("__classdict__" : Str)) = false := by decide) : QS X C true (.Return (some (.Name x p2)) pos) (sRetOwn i) := ps_imp (ps_ret (pe_var hN hv hd hcd)) fun Dn σ H ⟨G0, H0, G, env, sr, p⟩ => by
  unfold sRetOwn at p
  split at p
  · rename_i ds h
    obtain ⟨a, vs, h1, h2, h3, h4, h6, h5⟩ := sr.own i ds h
    obtain ⟨ds', ed, q⟩ := p
    cases ed
    exact ⟨.ref a, h1, q a vs G H sr.ex sr.er.or sr.nf h4 h3 h6 h2 h5⟩
  · exact p.elim
/-- if -/
def sIf (v : Env → Env) (c : Env → Res Bool) (g h : Env → Out) : Env → Out := fun env => (c (v env)).out env fun b => if b = true then g env else h env
theorem qs_if {c : Expr} {a b : List Stmt} {t : Env → Res Bool} (hv : VOk v) (hc : QT X C c t) (ha : QSs X C fr a g) (hb : QSs X C fr b h) : QS X C fr (.If c a b pos) (sIf v t g h) :=
  ps_imp (ps_if hc ha hb) fun Dn σ H ⟨G0, H0, G, env, sr, p⟩ => by
    obtain ⟨G1, s1, er1, _⟩ := hv sr
    refine ⟨G1, v env, s1, er1, stE' sr p fun d v G' H' e rp q => ?_⟩
    cases rp
    split
    · rename_i hd
      rw [if_pos hd] at q
      exact ⟨G0, H0, G, env, sr.grow e.hh, q⟩
    · rename_i hd
      rw [if_neg hd] at q
      exact ⟨G0, H0, G, env, sr.grow e.hh, q⟩
def sIfM (c : Env → Rs Bool) (g h : Env → Out) : Env → Out := fun env => (c env).out env fun b e => if b = true then g e else h e
theorem qs_ifM {c : Expr} {a b : List Stmt} {t : Env → Rs Bool} (hc : MT X C c t) (ha : QSs X C fr a g) (hb : QSs X C fr b h) : QS X C fr (.If c a b pos) (sIfM t g h) :=
  ps_imp (ps_if hc ha hb) fun Dn σ H ⟨G0, H0, G, env, sr, p⟩ => ⟨G, env, sr.em, stM sr p fun d S v G' H' e o n rp sr' q => by
    cases rp
    split
    · rename_i hd
      rw [if_pos hd] at q
      exact ⟨G0, H0, G', _, sr', q⟩
    · rename_i hd
      rw [if_neg hd] at q
      exact ⟨G0, H0, G', _, sr', q⟩⟩
/-- an expression whose value is dropped -/
def sDrop (v : Env → Env) (f : Env → Res D) : Env → Out := fun env => (f (v env)).out env fun _ => .nx env
theorem qs_expr (hv : VOk v) (he : QE X C e f) (hs : swapsWith e none pos.line X.env = pure false := by rfl) : QS X C fr (.Expr e pos) (sDrop v f) := ps_imp (ps_expr he hs) fun Dn σ H ⟨G0, H0, G, env, sr, p⟩ => by
  obtain ⟨G1, s1, er1, _⟩ := hv sr
  exact ⟨G1, v env, s1, er1, stE' sr p fun d v G' H' e rp q => q σ G H' (sr.grow e.hh)⟩
def sDropM (f : Env → Rs D) : Env → Out := fun env => (f env).out env fun _ e => .nx e
theorem qs_exprM (he : ME X C e fm) (hs : swapsWith e none pos.line X.env = pure false := by rfl) : QS X C fr (.Expr e pos) (sDropM fm) := ps_imp (ps_expr he hs) fun Dn σ H ⟨G0, H0, G, env, sr, p⟩ =>
  ⟨G, env, sr.em, stM sr p fun d S v G' H' e o n rp sr' q => q σ G' H' sr'⟩
/-- unpacking -/
def sUnp (t : Tg) (f : Env → Res D) : Env → Out := fun env => (f env).out env fun d => match t.parts d with
  | some ds => .nx (env.setE t.is ds)
  | none => .bad
theorem qs_unp {tg : Expr} {t : Tg} (he : QE X C e f) (hg : QG X tg t) (hs : swapsWithSole [tg] e pos.line X.env = pure false := by rfl) (hw : swappedStores [tg] e X.env = pure none := by rfl) (h1 : (assignEach [tg] X.env).map (·.2) = [assign tg X.env] := by rfl) :
    QS X C fr (.Assign [tg] e pos) (sUnp t f) := ps_imp (ps_asg he hg hs hw h1) fun Dn σ H ⟨G0, H0, G, env, sr, p⟩ => ⟨G, env, sr.gh, sr.er, stE sr p fun d v G' H' e rp q => by
  split at q
  · rename_i ds hp
    exact Tg.run e.gh rp hp fun vs rv => q _ G' H' ((sr.post e).setAll rv)
  · exact q.elim⟩
def sUnpM (t : Tg) (f : Env → Rs D) : Env → Out := fun env => (f env).out env fun d e => match t.parts d with
  | some ds => .nx (e.setE t.is ds)
  | none => .bad
theorem qs_unpM {tg : Expr} {t : Tg} (he : ME X C e fm) (hg : QG X tg t) (hs : swapsWithSole [tg] e pos.line X.env = pure false := by rfl) (hw : swappedStores [tg] e X.env = pure none := by rfl) (h1 : (assignEach [tg] X.env).map (·.2) = [assign tg X.env] := by rfl) :
    QS X C fr (.Assign [tg] e pos) (sUnpM t fm) := ps_imp (ps_asg he hg hs hw h1) fun Dn σ H ⟨G0, H0, G, env, sr, p⟩ => ⟨G, env, sr.em, stM sr p fun d S v G' H' e o n rp sr' q => by
  split at q
  · rename_i ds hp
    exact Tg.run e.gh rp hp fun vs rv => q _ G' H' (sr'.setAll rv)
  · exact q.elim⟩
def sPar (i j : Nat) (fs : Env → Res (List D)) : Env → Out := fun env => (fs env).out env fun ds => match ds with
  | [d1, d2] => .nx ((env.set i (.val d1)).set j (.val d2))
  | _ => .bad
theorem qs_par {i j : Nat} {x y : Str} {a b : Expr} {fs : Env → Res (List D)} {px py pt : Pos} {kt k2 pt2} (hc : X.calm = true) (hN : X.N.Nodup) (hi : X.N[i]? = some x) (hj : X.N[j]? = some y) (hij : i ≠ j) (ha : QA X C [a, b] fs)
    (hw : swappedStores [.Tuple [.Name x px, .Name y py] kt pt] (.Tuple [a, b] k2 pt2) X.env = pure (some [x, y])) (hx : X.env.scope.names.lookup x = some .local := by rfl) (hy : X.env.scope.names.lookup y = some .local := by rfl)
    (hs : swapsWithSole [.Tuple [.Name x px, .Name y py] kt pt] (.Tuple [a, b] k2 pt2) pos.line X.env = pure false := by rfl) :
    QS X C fr (.Assign [.Tuple [.Name x px, .Name y py] kt pt] (.Tuple [a, b] k2 pt2) pos) (sPar i j fs) := ps_imp (ps_par hc hN hi hj hij hx hy ha hw hs) fun Dn σ H ⟨G0, H0, G, env, sr, p⟩ => ⟨G, env, sr.gh, sr.er, stE sr p fun ds vs G' H' e rp q => by
  split at q
  · cases rp with
    | cons r1 r2 =>
      cases r2 with
      | cons r2 r3 =>
        cases r3
        exact ⟨_, _, rfl, q _ G' H' (((sr.post e).set r1 i).set r2 j)⟩
  · exact q.elim⟩
end
end L2.FO

set_option Elab.async false
set_option linter.all false
set_option maxRecDepth 100000
set_option maxHeartbeats 4000000
namespace L2.FO
open PySem PySem.Spec PyProof.Rows
/-! ### list methods that change a list -/
def rExtendR : V → List V → Hp → VK → Prop := fun x vs H Q => ∃ l b xs zs, x = .ref l ∧ vs = [.ref b] ∧ H l = some (.lst xs) ∧ Rd H b (.lst zs) ∧ xs.length + zs.length ≤ sizeLine ∧ Q .non (upd H l (.lst (xs ++ zs)))
section
variable {X : Cx} {C : Cf} {fr : Bool} {e : Expr} {pos apos cpos p2 : Pos} {f fv fk : Env → Res D} {i : Nat} {x : Str} {vw : Env → Env}
theorem mt_extendR : MtR X "list.extend" rExtendR := by
  intro pins s σ H x vs v us Q I rx rv h
  obtain ⟨l, b, xs, zs, rfl, rfl, hH, hB, hz, q⟩ := h
  cases rx
  obtain ⟨u, rfl, ru⟩ := rv.one
  cases ru
  obtain ⟨z, its, n, r, hl, e⟩ := I.lstM hH
  obtain ⟨z2, its2, n2, r2, hl2, e2⟩ := Inv.lstR I hB
  have hsz : its.toArray.size + its2.toArray.size ≤ sizeLine := by rw [List.size_toArray, List.size_toArray]; omega
  have hlong : ¬ (!its.toArray.isEmpty && Builtin.List.listTooLong (its.toArray.size + its2.toArray.size)) = true := by
    rw [notLongL hsz, Bool.and_false]
    exact Bool.false_ne_true
  refine call_meets F.slot_list_extend ⟨_, e, rfl⟩ F.entry_list_extend (F.args_list_extend_2 _ _)
    (AutoSeq1.list_extend_list_list_0 l its.toArray n b its2.toArray n2 hlong (by rw [List.size_toArray]; omega) (by omega)) ⟨e, e2, ?_⟩
  refine ⟨.non, _, I.lset (its' := its ++ its2) hH e (by simp) (r.append r2) ?_, rfl, q⟩
  rw [List.length_append]
  omega
def appO (i : Nat) (env : Env) (d : D) : Out := match env.sl[i]? with
  | some (.own ds) => if ds.length < 16777216 then .nx (env.set i (.own (ds ++ [d]))) else .bad
  | _ => .bad
def sAppV (i : Nat) (f : Env → Res D) : Env → Out := fun env => (f env).out env (appO i env)
def sAppS (vw : Env → Env) (i : Nat) (f : Env → Res D) : Env → Out := fun env => (f (vw env)).out env fun d => if scal d = true then appO i env d else .bad
def extO (i : Nat) (env : Env) (d : D) : Out := match env.sl[i]?, d with
  | some (.own ds), .list es => if ds.length + es.length ≤ 16777216 then .nx (env.set i (.own (ds ++ es))) else .bad
  | _, _ => .bad
def sExtV (i : Nat) (f : Env → Res D) : Env → Out := fun env => (f env).out env (extO i env)
def sExtS (vw : Env → Env) (i : Nat) (f : Env → Res D) : Env → Out := fun env => (f (vw env)).out env fun d => match d with
  | .list es => if es.all scal = true then extO i env d else .bad
  | _ => .bad
theorem appO_own {K : PySem.W.Frag} {G0 : Vw} {H0 : Hp} {Dn : Ends} {env : Env} {d : D} (q : PostS K C fr G0 H0 Dn (appO i env d)) : ∃ ds, env.sl[i]? = some (Sl.own ds) ∧ ds.length < sizeLine ∧ PostS K C fr G0 H0 Dn (.nx (env.set i (.own (ds ++ [d])))) := by
  unfold appO at q
  split at q
  · split at q
    · rename_i ds h hl
      exact ⟨ds, h, by rw [sizeLine_eq]; exact hl, q⟩
    · exact q.elim
  · exact q.elim
theorem extO_own {K : PySem.W.Frag} {G0 : Vw} {H0 : Hp} {Dn : Ends} {env : Env} {d : D} (q : PostS K C fr G0 H0 Dn (extO i env d)) : ∃ ds es, env.sl[i]? = some (Sl.own ds) ∧ d = .list es ∧ ds.length + es.length ≤ sizeLine ∧ PostS K C fr G0 H0 Dn (.nx (env.set i (.own (ds ++ es)))) := by
  unfold extO at q
  split at q
  · split at q
    · rename_i ds es h hl
      exact ⟨ds, es, h, rfl, by rw [sizeLine_eq]; exact hl, q⟩
    · exact q.elim
  · exact q.elim
/-- what the own name holds (so that the receiver can be read), whether or not the argument comes to be -/
theorem own_of_res {K : PySem.W.Frag} {G0 G : Vw} {H0 H : Hp} {Dn : Ends} {env : Env} {σ : St} {α : Type} {r : Res α} {k : α → Out} (sr : SR K C G0 H0 G H env σ) (h : ∃ ds, env.sl[i]? = some (Sl.own ds)) : ∃ a vs, σ[i]? = some (some (V.ref a)) ∧ H a = some (.lst vs) := by
  obtain ⟨ds, h⟩ := h
  obtain ⟨a, vs, h1, h2, _⟩ := sr.own i ds h
  exact ⟨a, vs, h1, h2⟩
def isOwn (i : Nat) (env : Env) : Bool := match env.sl[i]? with
  | some (.own _) => true
  | _ => false
theorem isOwn_ex {env : Env} (h : isOwn i env = true) : ∃ ds, env.sl[i]? = some (Sl.own ds) := by
  unfold isOwn at h
  split at h
  · rename_i ds h'
    exact ⟨ds, h'⟩
  · cases h
/-- x.append(e) -/
def sMeth (i : Nat) (g : Env → Out) : Env → Out := fun env => if isOwn i env = true then g env else .bad
theorem qs_appV (hN : X.N[i]? = some x) (he : QE X C e f) (hv : Vis X.env.scope x := by first | exact Or.inl rfl | exact Or.inr (Or.inl rfl) | exact Or.inr (Or.inr rfl)) (hd : (x == ("__debug__" : Str)) = false := by decide) (hcd : (x == ("__classdict__" : Str)) = false := by decide)
    (hst : starEach [e] X.env = (false, eval e X.env) :: starEach [] X.env := by rfl)
    (hbase : attributeBase (.Name x p2) "append" X.env (eval (.Name x p2) X.env) = eval (.Name x p2) X.env := by rfl)
    (hfew : ((backTo cpos (starEach [e] X.env)).all (fun x => !x.1) && (backToKw cpos (keywordEach [] X.env)).all (fun x => x.1.isSome) && decide ([e].length + ([] : List Keyword).length + (if ([] : List Keyword).isEmpty then 0 else 1) < 30)) = true := by rfl)
    (hline : (apos.endLine == cpos.line) = true := by rfl) (hplain : (backTo cpos (starEach [] X.env)).any (·.1) = false := by rfl) (hs : swapsWith (.Call (.Attribute (.Name x p2) "append" apos) [e] [] cpos) none pos.line X.env = pure false := by rfl) :
    QS X C fr (.Expr (.Call (.Attribute (.Name x p2) "append" apos) [e] [] cpos) pos) (sMeth i (sAppV i f)) :=
  ps_imp (ps_expr (pe_bm PySem.F.plainAttrs_list PySem.F.slot_list_append PySem.F.type_list_append mt_append (pe_var hN hv hd hcd) (pa_cons he pa_nil hst) hbase hfew hline hst hplain) hs) fun Dn σ H ⟨G0, H0, G, env, sr, p⟩ => by
    unfold sMeth at p
    split at p
    · rename_i ho
      obtain ⟨ds0, h0⟩ := isOwn_ex ho
      obtain ⟨a, vs, h1, h2, h3, h4, h6, h5⟩ := sr.own i ds0 h0
      refine ⟨.ref a, h1, .inl ⟨rfl, _, .inl (.inl h2)⟩, G, env, sr.gh, sr.er, stE sr p fun d v G' H' e rp q => ?_⟩
      obtain ⟨ds, hds, hl, q⟩ := appO_own q
      rw [h0] at hds
      cases hds
      refine ⟨a, vs, v, rfl, rfl, e.hh _ _ h2, by rw [h5.length]; exact hl, ?_⟩
      exact q σ G' _ ((sr.post e).mut h0 h1 ((h5.same e.le).append (.cons rp .nil)))
    · exact p.elim
theorem qs_appS (hvw : VOk vw) (hN : X.N[i]? = some x) (he : QE X C e f) (hv : Vis X.env.scope x := by first | exact Or.inl rfl | exact Or.inr (Or.inl rfl) | exact Or.inr (Or.inr rfl)) (hd : (x == ("__debug__" : Str)) = false := by decide) (hcd : (x == ("__classdict__" : Str)) = false := by decide)
    (hst : starEach [e] X.env = (false, eval e X.env) :: starEach [] X.env := by rfl)
    (hbase : attributeBase (.Name x p2) "append" X.env (eval (.Name x p2) X.env) = eval (.Name x p2) X.env := by rfl)
    (hfew : ((backTo cpos (starEach [e] X.env)).all (fun x => !x.1) && (backToKw cpos (keywordEach [] X.env)).all (fun x => x.1.isSome) && decide ([e].length + ([] : List Keyword).length + (if ([] : List Keyword).isEmpty then 0 else 1) < 30)) = true := by rfl)
    (hline : (apos.endLine == cpos.line) = true := by rfl) (hplain : (backTo cpos (starEach [] X.env)).any (·.1) = false := by rfl) (hs : swapsWith (.Call (.Attribute (.Name x p2) "append" apos) [e] [] cpos) none pos.line X.env = pure false := by rfl) :
    QS X C fr (.Expr (.Call (.Attribute (.Name x p2) "append" apos) [e] [] cpos) pos) (sMeth i (sAppS vw i f)) :=
  ps_imp (ps_expr (pe_bm PySem.F.plainAttrs_list PySem.F.slot_list_append PySem.F.type_list_append mt_append (pe_var hN hv hd hcd) (pa_cons he pa_nil hst) hbase hfew hline hst hplain) hs) fun Dn σ H ⟨G0, H0, G, env, sr, p⟩ => by
    unfold sMeth at p
    split at p
    · rename_i ho
      obtain ⟨ds0, h0⟩ := isOwn_ex ho
      obtain ⟨a, vs, h1, h2, h3, h4, h6, h5⟩ := sr.own i ds0 h0
      obtain ⟨G1, s1, er1, l1⟩ := hvw sr
      refine ⟨.ref a, h1, .inl ⟨rfl, _, .inl (.inl h2)⟩, G1, vw env, s1, er1, stE' sr p fun d v G' H' e rp q => ?_⟩
      split at q
      · rename_i hsc
        obtain ⟨ds, hds, hl, q⟩ := appO_own q
        rw [h0] at hds
        cases hds
        refine ⟨a, vs, v, rfl, rfl, e.hh _ _ h2, by rw [h5.length]; exact hl, ?_⟩
        exact q σ G _ ((sr.grow e.hh).mut h0 h1 (h5.append (.cons (rp.scal hsc G) .nil)))
      · exact q.elim
    · exact p.elim
/-- x.extend(e) -/
theorem qs_extV (hN : X.N[i]? = some x) (he : QE X C e f) (hv : Vis X.env.scope x := by first | exact Or.inl rfl | exact Or.inr (Or.inl rfl) | exact Or.inr (Or.inr rfl)) (hd : (x == ("__debug__" : Str)) = false := by decide) (hcd : (x == ("__classdict__" : Str)) = false := by decide)
    (hst : starEach [e] X.env = (false, eval e X.env) :: starEach [] X.env := by rfl)
    (hbase : attributeBase (.Name x p2) "extend" X.env (eval (.Name x p2) X.env) = eval (.Name x p2) X.env := by rfl)
    (hfew : ((backTo cpos (starEach [e] X.env)).all (fun x => !x.1) && (backToKw cpos (keywordEach [] X.env)).all (fun x => x.1.isSome) && decide ([e].length + ([] : List Keyword).length + (if ([] : List Keyword).isEmpty then 0 else 1) < 30)) = true := by rfl)
    (hline : (apos.endLine == cpos.line) = true := by rfl) (hplain : (backTo cpos (starEach [] X.env)).any (·.1) = false := by rfl) (hs : swapsWith (.Call (.Attribute (.Name x p2) "extend" apos) [e] [] cpos) none pos.line X.env = pure false := by rfl) :
    QS X C fr (.Expr (.Call (.Attribute (.Name x p2) "extend" apos) [e] [] cpos) pos) (sMeth i (sExtV i f)) :=
  ps_imp (ps_expr (pe_bm PySem.F.plainAttrs_list PySem.F.slot_list_extend PySem.F.type_list_extend mt_extendR (pe_var hN hv hd hcd) (pa_cons he pa_nil hst) hbase hfew hline hst hplain) hs) fun Dn σ H ⟨G0, H0, G, env, sr, p⟩ => by
    unfold sMeth at p
    split at p
    · rename_i ho
      obtain ⟨ds0, h0⟩ := isOwn_ex ho
      obtain ⟨a, vs, h1, h2, h3, h4, h6, h5⟩ := sr.own i ds0 h0
      refine ⟨.ref a, h1, .inl ⟨rfl, _, .inl (.inl h2)⟩, G, env, sr.gh, sr.er, stE sr p fun d v G' H' e rp q => ?_⟩
      obtain ⟨ds, es, hds, rfl, hl, q⟩ := extO_own q
      rw [h0] at hds
      cases hds
      cases rp with
      | lst hb hbs =>
        refine ⟨a, _, vs, _, rfl, rfl, e.hh _ _ h2, Rd.same e.gh hb, by rw [h5.length, hbs.length]; exact hl, ?_⟩
        exact q σ G' _ ((sr.post e).mut h0 h1 ((h5.same e.le).append hbs))
    · exact p.elim
theorem qs_extS (hvw : VOk vw) (hN : X.N[i]? = some x) (he : QE X C e f) (hv : Vis X.env.scope x := by first | exact Or.inl rfl | exact Or.inr (Or.inl rfl) | exact Or.inr (Or.inr rfl)) (hd : (x == ("__debug__" : Str)) = false := by decide) (hcd : (x == ("__classdict__" : Str)) = false := by decide)
    (hst : starEach [e] X.env = (false, eval e X.env) :: starEach [] X.env := by rfl)
    (hbase : attributeBase (.Name x p2) "extend" X.env (eval (.Name x p2) X.env) = eval (.Name x p2) X.env := by rfl)
    (hfew : ((backTo cpos (starEach [e] X.env)).all (fun x => !x.1) && (backToKw cpos (keywordEach [] X.env)).all (fun x => x.1.isSome) && decide ([e].length + ([] : List Keyword).length + (if ([] : List Keyword).isEmpty then 0 else 1) < 30)) = true := by rfl)
    (hline : (apos.endLine == cpos.line) = true := by rfl) (hplain : (backTo cpos (starEach [] X.env)).any (·.1) = false := by rfl) (hs : swapsWith (.Call (.Attribute (.Name x p2) "extend" apos) [e] [] cpos) none pos.line X.env = pure false := by rfl) :
    QS X C fr (.Expr (.Call (.Attribute (.Name x p2) "extend" apos) [e] [] cpos) pos) (sMeth i (sExtS vw i f)) :=
  ps_imp (ps_expr (pe_bm PySem.F.plainAttrs_list PySem.F.slot_list_extend PySem.F.type_list_extend mt_extendR (pe_var hN hv hd hcd) (pa_cons he pa_nil hst) hbase hfew hline hst hplain) hs) fun Dn σ H ⟨G0, H0, G, env, sr, p⟩ => by
    unfold sMeth at p
    split at p
    · rename_i ho
      obtain ⟨ds0, h0⟩ := isOwn_ex ho
      obtain ⟨a, vs, h1, h2, h3, h4, h6, h5⟩ := sr.own i ds0 h0
      obtain ⟨G1, s1, er1, l1⟩ := hvw sr
      refine ⟨.ref a, h1, .inl ⟨rfl, _, .inl (.inl h2)⟩, G1, vw env, s1, er1, stE' sr p fun d v G' H' e rp q => ?_⟩
      split at q
      · split at q
        · rename_i hsc
          obtain ⟨ds, es, hds, ed, hl, q⟩ := extO_own q
          cases ed
          rw [h0] at hds
          cases hds
          cases rp with
          | lst hb hbs =>
            refine ⟨a, _, vs, _, rfl, rfl, e.hh _ _ h2, Rd.same e.gh hb, by rw [h5.length, hbs.length]; exact hl, ?_⟩
            exact q σ G _ ((sr.grow e.hh).mut h0 h1 (h5.append (hbs.scal hsc G)))
        · exact q.elim
      · exact q.elim
    · exact p.elim
/-! ### x[k] = v -/
def stO (i : Nat) (env : Env) (k d : D) : Out := match env.sl[i]?, k with
  | some (.own ds), .int k => (match ixN ds.length k with
    | some j => .nx (env.set i (.own (ds.set j d)))
    | none => .bad)
  | _, _ => .bad
def sStS (vw : Env → Env) (i : Nat) (fk fv : Env → Res D) : Env → Out := fun env => (fv (vw env)).out env fun d => if scal d = true then (fk (vw env)).out env fun k => stO i env k d else .bad
theorem qs_stS {idx : Expr} {spos : Pos} (hvw : VOk vw) (hN : X.N[i]? = some x) (hk : QE X C idx fk) (he : QE X C e fv) (hv : Vis X.env.scope x := by first | exact Or.inl rfl | exact Or.inr (Or.inl rfl) | exact Or.inr (Or.inr rfl)) (hd : (x == ("__debug__" : Str)) = false := by decide) (hcd : (x == ("__classdict__" : Str)) = false := by decide)
    (ha : ∀ v, assign (.Subscript (.Name x p2) idx spos) X.env v = (do
      let ov ← holding [v] (eval (.Name x p2) X.env)
      let iv ← holding [v, ov] (eval idx X.env)
      standAt spos
      holding [v, ov, iv] (setItem ov iv v)
      release [v, ov, iv] []) := by intro _; rfl)
    (hs : swapsWithSole [.Subscript (.Name x p2) idx spos] e pos.line X.env = pure false := by rfl) (hw : swappedStores [.Subscript (.Name x p2) idx spos] e X.env = pure none := by rfl) (h1 : (assignEach [.Subscript (.Name x p2) idx spos] X.env).map (·.2) = [assign (.Subscript (.Name x p2) idx spos) X.env] := by rfl) :
    QS X C fr (.Assign [.Subscript (.Name x p2) idx spos] e pos) (sMeth i (sStS vw i fk fv)) :=
  ps_imp (ps_asg he (pg_sub (pe_var hN hv hd hcd) hk set_list ha) hs hw h1) fun Dn σ H ⟨G0, H0, G, env, sr, p⟩ => by
    unfold sMeth at p
    split at p
    · rename_i ho
      obtain ⟨ds0, h0⟩ := isOwn_ex ho
      obtain ⟨a, vs, g1, g2, g3, g4, g6, g5⟩ := sr.own i ds0 h0
      obtain ⟨G1, s1, er1, l1⟩ := hvw sr
      refine ⟨G1, vw env, s1, er1, stE' sr p fun d v G' H' e rp q => ?_⟩
      split at q
      · rename_i hsc
        refine ⟨.ref a, g1, G', vw env, e.gh, er1.ext e, stE' (sr.grow e.hh) q fun k kv G2 H2 e2 rk q2 => ?_⟩
        unfold stO at q2
        split at q2
        · rename_i ds k' hds
          rw [h0] at hds
          cases hds
          cases rk
          split at q2
          · rename_i j hj
            refine ⟨a, vs, _, j, rfl, rfl, e2.hh _ _ (e.hh _ _ g2), by rw [g5.length]; exact hj, ?_⟩
            exact q2 σ G _ (((sr.grow e.hh).grow e2.hh).mut h0 g1 (Rps.set (rp.scal hsc G) j g5))
          · exact q2.elim
        · exact q2.elim
      · exact q.elim
    · exact p.elim
/-! ### name op= e, x[k] op= e -/
def rInt (CC : Int → Int → Prop) (g : Int → Int → V) : TIp := fun x y H Q => ∃ i j, x = .int i ∧ y = .int j ∧ CC i j ∧ Q (g i j) H
theorem ipInt {op : Operator} {CC : Int → Int → Prop} {g : Int → Int → Int} (h : ∀ (M : Around) (E : Value → Shared → Prop) (s : Shared) (a b : Int) (t u : Tok) (Q : Value → Shared → Prop), CC a b → Q (.int (g a b) s.toks) { s with toks := s.toks + 1 } → wpAny (model X.prog X.w) M (inplaceOp op (.int a t) (.int b u)) Q E s) : PIp X op (rInt CC fun i j => .int (g i j)) := by
  intro pins s σ H x y v u Q I r1 r2 q
  obtain ⟨i, j, e1, e2, hc, q⟩ := q
  subst e1; subst e2
  obtain ⟨t, rfl⟩ := r1
  obtain ⟨t', rfl⟩ := r2
  exact h _ _ _ _ _ _ _ _ hc ⟨.int _, H, I.tok _, ⟨_, rfl⟩, q⟩
def IpF (K : PySem.W.Frag) (g : D → D → Res D) (r : TIp) : Prop := ∀ (x y : V) (dx dy : D) (G : Vw) (H : Hp) (Q : VK), scal dx = true → scal dy = true → Rp K G x dx → Rp K G y dy → (∀ d, g dx dy = .ok d → ∀ v, (∀ G', Rp K G' v d) → Q v H) → (∃ d, g dx dy = .ok d) → r x y H Q
theorem i2_ip {K : PySem.W.Frag} {c : Int → Int → Bool} {f : Int → Int → Int} {CC : Int → Int → Prop} (hc : ∀ i j, c i j = true → CC i j) : IpF K (i2 c fun i j => .int (f i j)) (rInt CC fun i j => .int (f i j)) := by
  intro x y dx dy G H Q _ _ rx ry q ⟨d, hd⟩
  have hd' := hd
  unfold i2 at hd
  split at hd
  · cases rx
    cases ry
    split at hd
    · rename_i h
      cases hd
      exact ⟨_, _, rfl, rfl, hc _ _ h, q _ hd' _ fun H' => .int _⟩
    · cases hd
  · cases hd
theorem ip_addI : PIp X .Add (rInt (fun _ _ => True) fun i j => .int (i + j)) := ipInt fun _ _ _ _ _ _ _ _ _ q => iadd_int q
theorem ip_subI : PIp X .Sub (rInt (fun _ _ => True) fun i j => .int (i - j)) := ipInt fun _ _ _ _ _ _ _ _ _ q => isub_int q
theorem ip_andI : PIp X .BitAnd (rInt (fun _ _ => True) fun i j => .int (Builtin.bitAnd i j)) := ipInt fun _ _ _ _ _ _ _ _ _ q => iand_int q
theorem ip_shrI : PIp X .RShift (rInt (fun _ j => 0 ≤ j) fun i j => .int (i / 2 ^ j.toNat)) := ipInt fun _ _ _ i j _ _ _ hc q => irshift_int hc (by
  rw [Int.fdiv_eq_ediv_of_nonneg _ (by exact Int.le_of_lt (Int.pow_pos (by decide)))]
  exact q)
def sAug (vw : Env → Env) (i : Nat) (g : D → D → Res D) (f : Env → Res D) : Env → Out := fun env => match env.sl[i]? with
  | some (.val d0) => if scal d0 = true then (f (vw env)).out env fun d => if scal d = true then (match g d0 d with
    | .ok d' => if scal d' = true then .nx (env.set i (.val d')) else .bad
    | _ => .bad) else .bad else .bad
  | _ => .bad
theorem qs_aug {op : Operator} {g : D → D → Res D} {r : TIp} {pos' : Pos} (hvw : VOk vw) (hr : PIp X op r) (ho : IpF X.K g r) (hN : X.N.Nodup) (hi : X.N[i]? = some x) (he : QE X C e f) (hx : Loc X.env.scope x := by first | exact Or.inl rfl | exact Or.inr rfl) (hf : X.fn x = true ∨ X.env.scope.names.lookup x = some .local := by first | exact .inl rfl | exact .inr rfl) :
    QS X C fr (.AugAssign (.Name x pos') op e pos) (sAug vw i g f) := ps_imp (ps_aug hN hi hx he hr hf) fun Dn σ H ⟨G0, H0, G, env, sr, p⟩ => by
  unfold sAug at p
  split at p
  · rename_i d0 hd0
    split at p
    · rename_i hs0
      obtain ⟨v0, g1, g2⟩ := sr.er.es.val i d0 hd0
      obtain ⟨G1, s1, er1, l1⟩ := hvw sr
      refine ⟨v0, g1, G1, vw env, s1, er1, stE' sr p fun d v G' H' e rp q => ?_⟩
      split at q
      · rename_i hs1
        split at q
        · rename_i d' hg
          split at q
          · rename_i hs2
            refine ho v0 v d0 d G H' _ hs0 hs1 (g2.scal hs0 G) (rp.scal hs1 G) (fun d2 h2 w rw_ => ?_) ⟨_, hg⟩
            rw [hg] at h2
            cases h2
            exact q _ G H' ((sr.grow e.hh).set (rw_ G) i)
          · exact q.elim
        · exact q.elim
      · exact q.elim
    · exact p.elim
  · exact p.elim
theorem qs_augAdd {pos' : Pos} (hvw : VOk vw) (hN : X.N.Nodup) (hi : X.N[i]? = some x) (he : QE X C e f) (hx : Loc X.env.scope x := by first | exact Or.inl rfl | exact Or.inr rfl) (hf : X.fn x = true ∨ X.env.scope.names.lookup x = some .local := by first | exact .inl rfl | exact .inr rfl) :
    QS X C fr (.AugAssign (.Name x pos') .Add e pos) (sAug vw i gAdd f) := qs_aug hvw ip_addI (i2_ip fun _ _ _ => trivial) hN hi he hx hf
theorem qs_augSub {pos' : Pos} (hvw : VOk vw) (hN : X.N.Nodup) (hi : X.N[i]? = some x) (he : QE X C e f) (hx : Loc X.env.scope x := by first | exact Or.inl rfl | exact Or.inr rfl) (hf : X.fn x = true ∨ X.env.scope.names.lookup x = some .local := by first | exact .inl rfl | exact .inr rfl) :
    QS X C fr (.AugAssign (.Name x pos') .Sub e pos) (sAug vw i gSub f) := qs_aug hvw ip_subI (i2_ip fun _ _ _ => trivial) hN hi he hx hf
theorem qs_augShr {pos' : Pos} (hvw : VOk vw) (hN : X.N.Nodup) (hi : X.N[i]? = some x) (he : QE X C e f) (hx : Loc X.env.scope x := by first | exact Or.inl rfl | exact Or.inr rfl) (hf : X.fn x = true ∨ X.env.scope.names.lookup x = some .local := by first | exact .inl rfl | exact .inr rfl) :
    QS X C fr (.AugAssign (.Name x pos') .RShift e pos) (sAug vw i gShr f) := qs_aug hvw ip_shrI (i2_ip fun i j h => show 0 ≤ j from of_decide_eq_true h) hN hi he hx hf
/-- o[k] of a list, 0 ≤ k -/
def rGetL : V → V → Hp → VK → Prop := fun o i H Q => ∃ p xs k v, o = .ref p ∧ i = .int k ∧ H p = some (.lst xs) ∧ 0 ≤ k ∧ xs[k.toNat]? = some v ∧ Q v H
theorem get_listL : PGet X rGetL := by
  intro pins s σ H o i ov iv Q I ro ri h
  obtain ⟨p, xs, k, v, rfl, rfl, hp, h0, hx, q⟩ := h
  cases ro
  obtain ⟨t, rfl⟩ := ri
  obtain ⟨z, its, n, r, hl, e⟩ := I.lstM hp
  obtain ⟨u, hu, ru⟩ := r.get hx
  have hk : k.toNat < xs.length := (List.getElem?_eq_some_iff.mp hx).1
  have hl63 := line63
  exact wpAny_getItem_list (items := its.toArray) ⟨_, e, rfl, n, rfl⟩ h0 (by omega) (by simpa using hu) ⟨v, H, I, ru, q⟩
def sAugIx (vw : Env → Env) (i : Nat) (g : D → D → Res D) (fk fv : Env → Res D) : Env → Out := fun env => (fk (vw env)).out env fun k => match env.sl[i]?, k with
  | some (.own ds), .int k => if 0 ≤ k then (match ds[k.toNat]? with
    | some d0 => if scal d0 = true then (fv (vw env)).out env fun d => if scal d = true then (match g d0 d with
      | .ok d' => if scal d' = true then .nx (env.set i (.own (ds.set k.toNat d'))) else .bad
      | _ => .bad) else .bad else .bad
    | none => .bad) else .bad
  | _, _ => .bad
theorem qs_augIx {op : Operator} {g : D → D → Res D} {r : TIp} {idx : Expr} {tpos : Pos} (hvw : VOk vw) (hr : PIp X op r) (ho : IpF X.K g r) (hN : X.N[i]? = some x) (hk : QE X C idx fk) (he : QE X C e fv) (hv : Vis X.env.scope x := by first | exact Or.inl rfl | exact Or.inr (Or.inl rfl) | exact Or.inr (Or.inr rfl)) (hd : (x == ("__debug__" : Str)) = false := by decide) (hcd : (x == ("__classdict__" : Str)) = false := by decide)
    (ha : ∀ ov iv new, augStore idx ov iv new = (do holding [new, ov, iv] (setItem ov iv new); release [new, ov, iv] []; pure .next) := by intros; rfl) :
    QS X C fr (.AugAssign (.Subscript (.Name x p2) idx tpos) op e pos) (sMeth i (sAugIx vw i g fk fv)) :=
  ps_imp (ps_augS (pe_var hN hv hd hcd) hk get_listL he hr set_list ha) fun Dn σ H ⟨G0, H0, G, env, sr, p⟩ => by
    unfold sMeth at p
    split at p
    · rename_i ho'
      obtain ⟨ds0, h0⟩ := isOwn_ex ho'
      obtain ⟨a, vs, g1, g2, g3, g4, g6, g5⟩ := sr.own i ds0 h0
      obtain ⟨G1, s1, er1, l1⟩ := hvw sr
      refine ⟨.ref a, g1, G1, vw env, s1, er1, stE' sr p fun kd kv G' H' e1 rk q => ?_⟩
      split at q
      · rename_i ds k hds
        rw [h0] at hds
        cases hds
        cases rk
        split at q
        · rename_i hk0
          split at q
          · rename_i d0 hd0
            split at q
            · rename_i hs0
              obtain ⟨v0, hv0, rv0⟩ := g5.get hd0
              refine ⟨a, vs, k, v0, rfl, rfl, e1.hh _ _ g2, hk0, hv0, G', vw env, e1.gh, er1.ext e1, stE' (sr.grow e1.hh) q fun d v G2 H2 e2 rp q => ?_⟩
              split at q
              · rename_i hs1
                split at q
                · rename_i d' hg
                  split at q
                  · rename_i hs2
                    refine ho v0 v d0 d G H2 _ hs0 hs1 (rv0.scal hs0 G) (rp.scal hs1 G) (fun d2 h2 w rw_ => ?_) ⟨_, hg⟩
                    rw [hg] at h2
                    cases h2
                    have hj : ixN vs.length k = some k.toNat := by
                      have hlt : k.toNat < vs.length := (List.getElem?_eq_some_iff.mp hv0).1
                      unfold ixN
                      rw [if_pos hk0, if_pos (by omega)]
                    refine ⟨a, vs, k, k.toNat, rfl, rfl, e2.hh _ _ (e1.hh _ _ g2), hj, ?_⟩
                    exact q σ G _ (((sr.grow e1.hh).grow e2.hh).mut h0 g1 (Rps.set (rw_ G) k.toNat g5))
                  · exact q.elim
                · exact q.elim
              · exact q.elim
            · exact q.elim
          · exact q.elim
        · exact q.elim
      · exact q.elim
    · exact p.elim
end
/-! ### loops -/
def loopF (t : Tg) (b : Env → Out) : List D → Env → Out
  | [], e => .nx e
  | d :: ds, e => match t.parts d with
    | none => .bad
    | some ps => match b (e.setE t.is ps) with
      | .nx e' => loopF t b ds e'
      | .ct e' => loopF t b ds e'
      | .bk e' => .nx e'
      | .rt d S => .rt d S
      | .ex n e' => .ex n e'
      | .bad => .bad
def sFor (t : Tg) (fi : Env → Res (List D)) (b : Env → Out) : Env → Out := fun env => (fi env).out env fun ds => loopF t b ds env
/-- over a range: its ends are read with all that is own to be seen -/
def sForR (vw : Env → Env) (t : Tg) (fi : Env → Res (List D)) (b : Env → Out) : Env → Out := fun env => (fi (vw env)).out env fun ds => loopF t b ds env
abbrev WkA (K : PySem.W.Frag) : Vw → It → List D → Prop := fun _ J ds => ∀ G, Wk K J G ds
def tXr (K : PySem.W.Frag) (C : Cf) (f : Env → Res (List D)) : TI := fun σ H R => ∃ G env, Same G.h H ∧ ER K C G H env σ ∧ Post (WkA K) (C.xw σ) G H R (f env)
abbrev QR (X : Cx) (C : Cf) (tg iter : Expr) (f : Env → Res (List D)) : Prop := PI X tg iter (tXr X.K C f)
section
variable {X : Cx} {C : Cf} {fr : Bool} {tg iter e e' e'' : Expr} {fs fi : Env → Res (List D)} {p pos : Pos} {t : Tg} {body : List Stmt} {g : Env → Out} {vw : Env → Env}
theorem qr_range1 (hg : Gl X "range") (hm : X.mg "range" = none) (ha : QA X C [e] fs) (hs : starEach [e] X.env = [(false, eval e X.env)] := by rfl) : QR X C tg (.Call (.Name "range" p) [e] [] pos) (iR1 fs) :=
  pi_imp (pi_range1 hg hm ha hs) fun σ H R ⟨G, env, s, er, p⟩ => ⟨G, env, s, er, Post.bind p fun ds vs G1 H1 e1 r1 p1 => by
    split at p1
    · split at p1
      · rename_i h
        cases r1 with
        | cons r1 r2 =>
          cases r2
          cases r1
          have e62 : (2 : Int) ^ 62 = 4611686018427387904 := by decide
          exact ⟨_, rfl, by rw [e62]; omega, by rw [e62]; omega, p1 _ _ _ (.refl e1.gh) fun _ => wk_rng⟩
      · exact p1.elim
    · exact p1.elim⟩
theorem qr_range2 (hg : Gl X "range") (hm : X.mg "range" = none) (ha : QA X C [e, e'] fs) (hs : starEach [e, e'] X.env = [(false, eval e X.env), (false, eval e' X.env)] := by rfl) (hs2 : starEach [e'] X.env = [(false, eval e' X.env)] := by rfl) :
    QR X C tg (.Call (.Name "range" p) [e, e'] [] pos) (iR2 fs) :=
  pi_imp (pi_range2 hg hm ha hs hs2) fun σ H R ⟨G, env, s, er, p⟩ => ⟨G, env, s, er, Post.bind p fun ds vs G1 H1 e1 r1 p1 => by
    split at p1
    · split at p1
      · rename_i h
        cases r1 with
        | cons r1 r2 =>
          cases r2 with
          | cons r2 r3 =>
            cases r3
            cases r1
            cases r2
            have e62 : (2 : Int) ^ 62 = 4611686018427387904 := by decide
            exact ⟨_, _, rfl, by rw [e62]; omega, p1 _ _ _ (.refl e1.gh) fun _ => wk_rng⟩
      · exact p1.elim
    · exact p1.elim⟩
theorem qr_range3 (hg : Gl X "range") (hm : X.mg "range" = none) (ha : QA X C [e, e', e''] fs) (hs : starEach [e, e', e''] X.env = (false, eval e X.env) :: starEach [e', e''] X.env := by rfl) (hpl : (backTo pos (starEach [e', e''] X.env)).any (·.1) = false := by rfl) :
    QR X C tg (.Call (.Name "range" p) [e, e', e''] [] pos) (iR3 fs) :=
  pi_imp (pi_range3 hg hm ha hs hpl) fun σ H R ⟨G, env, s, er, p⟩ => ⟨G, env, s, er, Post.bind p fun ds vs G1 H1 e1 r1 p1 => by
    split at p1
    · split at p1
      · rename_i h
        cases r1 with
        | cons r1 r2 =>
          cases r2 with
          | cons r2 r3 =>
            cases r3 with
            | cons r3 r4 =>
              cases r4
              cases r1
              cases r2
              cases r3
              exact ⟨_, _, _, _, rfl, ⟨h.1, h.2.1, h.2.2.1, (Int.toNat_of_nonneg h.2.2.2).symm⟩, p1 _ _ _ (.refl e1.gh) fun _ => wk_rngC⟩
      · exact p1.elim
    · exact p1.elim⟩
theorem QR.i (h : QR X C tg iter fi) : QI X C tg iter fi := pi_imp h fun σ H R ⟨G, env, s, er, p⟩ => ⟨G, env, s, er, by
  cases hf : fi env with
  | ok ds =>
    rw [hf] at p
    exact fun J G' H' e wk => p J G' H' e (wk G')
  | ex n => rw [hf] at p; exact p
  | bad => rw [hf] at p; exact p⟩
theorem loop_run {G0 G1 : Vw} {H0 H1 : Hp} {Dn : Ends} {env : Env} {σ : St} {ds : List D} {J : It} (sr1 : SR X.K C G0 H0 G1 H1 env σ) (wk : Wk X.K J G1 ds) (q : PostS X.K C fr G0 H0 Dn (loopF t g ds env)) :
    ∃ W : Nat → Nat → St → Hp → Prop, (∃ m, W 0 m σ H1) ∧ ∀ i m σ H, W i m σ H →
      (J.stop i H ∧ Dn.nx σ H) ∨ (J.go i H ∧ ∃ N : St → Hp → Prop, (∀ σ' H', N σ' H' → ∃ m', m' < m ∧ W (i + 1) m' σ' H') ∧ ∀ x H', J.yld i H x H' → t.g X.K x σ H' fun σ2 H2 => tS X.K C fr g { Dn with nx := N, ct := N, bk := Dn.nx } σ2 H2) := by
  have b := sr1.bse
  let word (i : Nat) (σ' : St) (H' : Hp) : Prop := ∃ Gc ec, SR X.K C G1 H0 Gc H' ec σ' ∧ PostS X.K C fr G1 H0 Dn (loopF t g (ds.drop i) ec)
  have w0 : word 0 σ H1 := ⟨G1, env, sr1.onto b.l (.refl _), PostS.onto b q⟩
  refine ⟨fun i m σ' H' => m = ds.length - i ∧ i ≤ ds.length ∧ word i σ' H', ⟨_, rfl, Nat.zero_le _, w0⟩, ?_⟩
  rintro i m σ' H' ⟨rfl, hi, Gc, ec, src, pp⟩
  by_cases hlt : i < ds.length
  · refine .inr ⟨wk.go i H' (src.ex.gg.h.trans src.gh) hlt, word (i + 1), fun σ2 H2 w => ⟨ds.length - (i + 1), by omega, rfl, hlt, w⟩, fun x H2 hy => ?_⟩
    have hd : ds[i]? = some ds[i] := List.getElem?_eq_getElem hlt
    rw [List.drop_eq_getElem_cons hlt] at pp
    obtain ⟨Gd, eg, rd⟩ := wk.yl i H' x H2 _ Gc src.ex.gg src.gh hy hd
    unfold loopF at pp
    cases hp : t.parts ds[i] with
    | none =>
      rw [hp] at pp
      exact pp.elim
    | some ps =>
      rw [hp] at pp
      refine Tg.run eg.gh rd hp fun ws rw_ => ⟨G1, H0, Gd, _, (src.post eg).setAll rw_, ?_⟩
      dsimp only at pp
      cases hb : g (ec.setE t.is ps) with
      | nx e2 =>
        rw [hb] at pp
        exact fun σ3 G3 H3 r => ⟨G3, e2, r, pp⟩
      | ct e2 =>
        rw [hb] at pp
        exact fun σ3 G3 H3 r => ⟨G3, e2, r, pp⟩
      | bk e2 =>
        rw [hb] at pp
        exact fun σ3 G3 H3 r => pp σ3 G3 H3 r
      | rt d S =>
        rw [hb] at pp
        exact pp
      | ex n e2 =>
        rw [hb] at pp
        exact pp
      | bad =>
        rw [hb] at pp
        exact pp
  · have ei : i = ds.length := by omega
    subst ei
    refine .inl ⟨wk.st _ H' (src.ex.gg.h.trans src.gh) rfl, ?_⟩
    rw [List.drop_length] at pp
    exact pp σ' Gc H' src
theorem qs_for (hp : PassesOwn (model X.prog X.w) X.A X.env X.xe) (hc : X.calm = true) (hi : QI X C tg iter fi) (hg : QG X tg t) (hb : QSs X C fr body g) (hs : ∀ x, foldedSetIterable iter X.env x = pure x := by intro _; rfl) :
    QS X C fr (.For tg iter body [] pos) (sFor t fi g) := ps_imp (ps_for hp hc hi hg hb hs) fun Dn σ H ⟨G0, H0, G, env, sr, p⟩ =>
  ⟨G, env, sr.gh, sr.er, stE sr p fun ds J G1 H1 e wk q => loop_run (sr.post e) wk q⟩
theorem qs_forR (hvw : VOk vw) (hp : PassesOwn (model X.prog X.w) X.A X.env X.xe) (hc : X.calm = true) (hi : QR X C tg iter fi) (hg : QG X tg t) (hb : QSs X C fr body g) (hs : ∀ x, foldedSetIterable iter X.env x = pure x := by intro _; rfl) :
    QS X C fr (.For tg iter body [] pos) (sForR vw t fi g) := ps_imp (ps_for hp hc hi hg hb hs) fun Dn σ H ⟨G0, H0, G, env, sr, p⟩ => by
  obtain ⟨G1, s1, er1, l1⟩ := hvw sr
  exact ⟨G1, vw env, s1, er1, stE' sr p fun ds J G2 H2 e wk q => loop_run (sr.grow e.hh) (wk G) q⟩
/-- while, by turns -/
def whileN (vw : Env → Env) (c : Env → Res Bool) (b : Env → Out) : Nat → Env → Out
  | 0, _ => .bad
  | n + 1, e => (c (vw e)).out e fun v => if v = true then (match b e with
    | .nx e' => whileN vw c b n e'
    | .ct e' => whileN vw c b n e'
    | .bk e' => .nx e'
    | .rt d S => .rt d S
    | .ex n e' => .ex n e'
    | .bad => .bad) else .nx e
theorem whileN_succ {vw : Env → Env} {c : Env → Res Bool} {b : Env → Out} : ∀ (n : Nat) (e : Env), whileN vw c b n e ≠ .bad → whileN vw c b (n + 1) e = whileN vw c b n e
  | 0, e, h => absurd rfl h
  | n + 1, e, h => by
    have ih := whileN_succ (vw := vw) (c := c) (b := b) n
    unfold whileN at h ⊢
    cases hc : c (vw e) with
    | bad => rfl
    | ex k => rfl
    | ok v =>
      rw [hc] at h
      show (if v = true then _ else _) = (if v = true then _ else _)
      have h : (if v = true then _ else _) ≠ Out.bad := h
      cases v with
      | false => rfl
      | true =>
        rw [if_pos rfl] at h
        rw [if_pos rfl, if_pos rfl]
        cases hb : b e with
        | nx e' =>
          rw [hb] at h
          exact ih e' h
        | ct e' =>
          rw [hb] at h
          exact ih e' h
        | bk e' => rfl
        | rt d S => rfl
        | ex n e' => rfl
        | bad => rfl
theorem whileN_le {vw : Env → Env} {c : Env → Res Bool} {b : Env → Out} {n m : Nat} {e : Env} (h : whileN vw c b n e ≠ .bad) (hm : n ≤ m) : whileN vw c b m e = whileN vw c b n e := by
  obtain ⟨k, rfl⟩ := Nat.le.dest hm
  clear hm
  induction k with
  | zero => rfl
  | succ k ih =>
    rw [← Nat.add_assoc, whileN_succ _ _ (by rw [ih]; exact h), ih]
open Classical in
noncomputable def sWhile (vw : Env → Env) (c : Env → Res Bool) (b : Env → Out) : Env → Out := fun e => if h : ∃ n, whileN vw c b n e ≠ .bad then whileN vw c b (choose h) e else .bad
theorem sWhile_of {vw : Env → Env} {c : Env → Res Bool} {b : Env → Out} {n : Nat} {e : Env} {o : Out} (h : whileN vw c b n e = o) (ho : o ≠ .bad) : sWhile vw c b e = o := by
  have hx : ∃ n, whileN vw c b n e ≠ .bad := ⟨n, by rw [h]; exact ho⟩
  unfold sWhile
  rw [dif_pos hx]
  have h1 := Classical.choose_spec hx
  by_cases hl : n ≤ Classical.choose hx
  · rw [whileN_le (by rw [h]; exact ho) hl, h]
  · rw [← whileN_le h1 (show Classical.choose hx ≤ n by omega), h]
theorem qs_while {c : Expr} {tc : Env → Res Bool} (hvw : VOk vw) (hp : PassesOwn (model X.prog X.w) X.A X.env X.xe) (hc : QT X C c tc) (hb : QSs X C fr body g) : QS X C fr (.While c body [] pos) (sWhile vw tc g) :=
  ps_imp (ps_while hp hc hb) fun Dn σ H ⟨G0, H0, G, env, sr, p⟩ => by
    unfold sWhile at p
    split at p
    · rename_i hx
      refine ⟨fun m σ' H' => ∃ Gc ec, SR X.K C G0 H0 Gc H' ec σ' ∧ PostS X.K C fr G0 H0 Dn (whileN vw tc g m ec), ⟨_, G, env, sr, p⟩, ?_⟩
      rintro m σ' H' ⟨Gc, ec, src, pp⟩
      cases m with
      | zero => exact pp.elim
      | succ m =>
        unfold whileN at pp
        obtain ⟨G1, s1, er1, _⟩ := hvw src
        refine ⟨G1, vw ec, s1, er1, stE' src pp fun v b G' H2 e rb q => ?_⟩
        cases rb
        split
        · rename_i hv
          rw [if_pos hv] at q
          refine ⟨fun σ2 H2 => ∃ Gc ec, SR X.K C G0 H0 Gc H2 ec σ2 ∧ PostS X.K C fr G0 H0 Dn (whileN vw tc g m ec), fun σ2 H2 w => ⟨m, Nat.lt_succ_self _, w⟩, G0, H0, Gc, ec, src.grow e.hh, ?_⟩
          cases hb : g ec with
          | nx e2 =>
            rw [hb] at q
            exact fun σ3 G3 H3 r => ⟨G3, e2, r, q⟩
          | ct e2 =>
            rw [hb] at q
            exact fun σ3 G3 H3 r => ⟨G3, e2, r, q⟩
          | bk e2 => rw [hb] at q; exact q
          | rt d S => rw [hb] at q; exact q
          | ex n e2 => rw [hb] at q; exact q
          | bad => rw [hb] at q; exact q
        · rename_i hv
          rw [if_neg hv] at q
          exact q σ' Gc H2 (src.grow e.hh)
    · exact p.elim
end
end L2.FO

set_option Elab.async false
set_option linter.all false
set_option maxRecDepth 100000
set_option maxHeartbeats 4000000
namespace L2.FO
open PySem PySem.Spec PyProof.Rows
/-! ### the program's own defs -/
abbrev FT := Nat → List D → Store → Rs D
/-- a call's end -/
def EndP (K : PySem.W.Frag) (T : CT) (fl : Nat) (fr : Bool) (G : Vw) (H : Hp) (Q : VK) (xw : Nat → Hp → Prop) : Rs D → Prop
  | .ok d S' => RtP K T fl fr G H Q S' d
  | .ex n S' => ∀ G' H', ExtM fl G H G' H' → OR K T G' H' S' → NoF fl G' → xw n H'
  | .bad => False
def spF (K : PySem.W.Frag) (T : CT) (xa : Nat → Addr) (fr : Bool) (F : FT) : Sp := fun vs H Q E => ∃ fl G S ds, fl ≤ S.length ∧ Same G.h H ∧ OR K T G H S ∧ NoF fl G ∧ Rps K G vs ds ∧ EndP K T fl fr G H Q (fun n H' => E (.ref (xa n)) none H') (F fl ds S)
/-- how a call binds: n written values, keywords ks; g puts the data in the parameters' order -/
structure Bd (K : PySem.W.Frag) (fd : FuncData) (ps : List Str) (n : Nat) (ks : List Str) (gD : List D → List D → List D) : Prop where
  ex : ∃ g gV, KBn K fd ps n ks g gV ∧ ∀ (G : Vw) (vs zs : List V) (ds es : List D), Rps K G vs ds → Rps K G zs es → Rps K G (gV vs zs) (gD ds es)
def gApp (ds es : List D) : List D := ds ++ es
theorem Bd.all {K : PySem.W.Frag} {fd : FuncData} {ps : List Str} {n : Nat} (h : Binds K fd ps []) (hn : ps.length = n) : Bd K fd ps n [] gApp :=
  ⟨fun us ws => us ++ ws, fun vs zs => vs ++ zs, ⟨fun s us ws X l1 l2 => by
    have e : ws = [] := List.length_eq_zero_iff.mp l2
    subst e
    have := h s us X (by rw [List.append_nil, l1, hn])
    exact this, fun r1 r2 => r1.append r2⟩, fun G vs zs ds es r1 r2 => r1.append r2⟩
structure FnT (P : Program) (w : World) (K : PySem.W.Frag) (mg : Str → Option Value) (base : Heap) (xa : Nat → Addr) (T : CT) (x : Str) (f : Addr) (fd : FuncData) (ps : List Str) (j : Nat) (fr : Bool) (F : FT) : Prop where
  ok : FnOk P w K mg base (L2.CX P w) j f fd ps (spF K T xa fr F)
  mg : mg x = some (.ref f)
  kp : PySem.W.keepIn K (.ref f) = true
/-- a method m of the class c -/
structure MhT (P : Program) (w : World) (K : PySem.W.Frag) (mg : Str → Option Value) (base : Heap) (xa : Nat → Addr) (T : CT) (c : Nat) (m : Str) (f : Addr) (fd : FuncData) (ps : List Str) (j : Nat) (fr : Bool) (F : FT) : Prop where
  ok : FnOk P w K mg base (L2.CX P w) j f fd ps (spF K T xa fr F)
  cl : Cls K (T.ca c)
  me : Meth K (T.ca c) m f
/-- a class c, by its __init__ -/
structure MkT (P : Program) (w : World) (K : PySem.W.Frag) (mg : Str → Option Value) (base : Heap) (xa : Nat → Addr) (T : CT) (c : Nat) (x : Str) (f : Addr) (fd : FuncData) (ps : List Str) (j : Nat) (F : FT) : Prop where
  ok : FnOk P w K mg base (L2.CX P w) j f fd ps (spF K T xa false F)
  mks : Mk K (T.ca c) f
  mg : mg x = some (.ref (T.ca c))
  cn : c < T.cnt
/-! ### argument lists with effects; keywords -/
def Res.m {α : Type} (r : Res α) (S : Store) : Rs α := match r with
  | .ok a => .ok a S
  | .ex n => .ex n S
  | .bad => .bad
abbrev QK (X : Cx) (C : Cf) (kws : List Keyword) (f : Env → Res (List D)) : Prop := PK X kws (tXs X.K C f)
abbrev MK (X : Cx) (C : Cf) (kws : List Keyword) (f : Env → Rs (List D)) : Prop := PK X kws (tMs X.K C f)
theorem pk_imp {X : Cx} {e : List Keyword} {t t' : TA} (h : PK X e t) (i : ∀ σ H Q, t' σ H Q → t σ H Q) : PK X e t' := ⟨fun pos pins s σ H Q I w => h.run pos pins s σ H Q I (i σ H Q w)⟩
section
variable {K : PySem.W.Frag} {C : Cf} {α ν : Type} {R : Vw → ν → α → Prop} {G : Vw} {H : Hp} {env : Env} {σ : St} {Q : ν → Hp → Prop} {xw : Nat → Hp → Prop}
theorem post_m {r : Res α} (em : EM K C G H env σ) (h : PostM K C R xw G H Q (r.m env.st)) : Post R xw G H Q r := by
  cases r with
  | ok a => exact fun v G' H' e rp => h v G' H' e.m (em.er.or.ext e) (NoF.ext em.er.or em.nf e) rp
  | ex n => exact fun G' H' e => h G' H' e.m (em.er.or.ext e) (NoF.ext em.er.or em.nf e)
  | bad => exact h
theorem postF_m {r : Res (List D)} {QV : VK} (em : EM K C G H env σ) (h : PostMF K C xw G H QV (r.m env.st)) : PostF K xw G H QV r := by
  cases r with
  | ok a => exact fun p vs G' H' e hp gp hl rp => h p vs G' H' e.m (em.er.or.ext e) (NoF.ext em.er.or em.nf e) hp gp (fun z => em.er.or.mem (by rw [← e.ad]; exact z) hp) hl rp
  | ex n => exact fun G' H' e => h G' H' e.m (em.er.or.ext e) (NoF.ext em.er.or em.nf e)
  | bad => exact h
end
section
variable {X : Cx} {C : Cf} {e : Expr} {es : List Expr} {kws : List Keyword} {f : Env → Res D} {fs : Env → Res (List D)} {fm : Env → Rs D} {ms : Env → Rs (List D)} {nm : Option Str} {kpos : Pos}
/-- what has no effect -/
def mP (f : Env → Res D) : Env → Rs D := fun env => (f env).m env.st
def mPs (f : Env → Res (List D)) : Env → Rs (List D) := fun env => (f env).m env.st
def mPb (f : Env → Res Bool) : Env → Rs Bool := fun env => (f env).m env.st
theorem m_pure (h : QE X C e f) : ME X C e (mP f) := pe_imp h fun σ H Q ⟨G, env, em, p⟩ => ⟨G, env, em.s, em.er, post_m em p⟩
theorem mt_pure {f : Env → Res Bool} (h : QT X C e f) : MT X C e (mPb f) := pt_imp h fun σ H Q ⟨G, env, em, p⟩ => ⟨G, env, em.s, em.er, post_m em p⟩
theorem ma_pure (h : QA X C es fs) : MA X C es (mPs fs) := pa_imp h fun σ H Q ⟨G, env, em, p⟩ => ⟨G, env, em.s, em.er, post_m em p⟩
theorem mk_pure (h : QK X C kws fs) : MK X C kws (mPs fs) := pk_imp h fun σ H Q ⟨G, env, em, p⟩ => ⟨G, env, em.s, em.er, post_m em p⟩
theorem mf_pure (h : QF X C e fs) : MF X C e (mPs fs) := pe_imp h fun σ H Q ⟨G, env, em, p⟩ => ⟨G, env, em.s, em.er, postF_m em p⟩
def masNil : Env → Rs (List D) := fun env => .ok [] env.st
def masCons (f : Env → Rs D) (g : Env → Rs (List D)) : Env → Rs (List D) := fun env => (f env).bind fun d S => (g (env.to S)).bind fun ds S2 => .ok (d :: ds) S2
theorem ma_nil : MA X C [] masNil := pa_imp pa_nil fun σ H Q ⟨G, env, em, p⟩ => p [] G H (.refl em.s) em.er.or em.nf .nil
theorem ma_cons (he : ME X C e fm) (hs : MA X C es ms) (hst : starEach (e :: es) X.env = (false, eval e X.env) :: starEach es X.env := by rfl) : MA X C (e :: es) (masCons fm ms) :=
  pa_imp (pa_cons he hs hst) fun σ H Q ⟨G, env, em, p⟩ => ⟨G, env, em, PostM.bind p fun d S x G1 H1 e1 o1 n1 r1 p1 => ⟨G1, env.to S, em.ext e1 o1 n1, PostM.bind p1 fun ds S2 xs G2 H2 e2 o2 n2 r2 p2 =>
    p2 (x :: xs) G2 H2 (.refl e2.gh) o2 n2 (.cons (r1.same e2.gg) r2)⟩⟩
theorem qk_nil : QK X C [] asNil := pk_imp pk_nil fun σ H Q ⟨G, env, s, er, p⟩ => p [] G H (.refl s) .nil
theorem qk_cons (he : QE X C e f) (hs : QK X C kws fs) : QK X C (⟨nm, e, kpos⟩ :: kws) (asCons f fs) :=
  pk_imp (pk_cons he hs) fun σ H Q ⟨G, env, s, er, p⟩ => ⟨G, env, s, er, Post.bind p fun d x G1 H1 e1 r1 p1 => ⟨G1, env, e1.gh, er.ext e1, Post.bind p1 fun ds xs G2 H2 e2 r2 p2 => p2 (x :: xs) G2 H2 (.refl e2.gh) (.cons (r1.same e2.le) r2)⟩⟩
end
/-! ### the library's rules for calls, with what may be raised wished for at the slots -/
section
variable {X : Cx} {CX : CXT} {k n : Nat} {f : Addr} {fd : FuncData} {ps ks : List Str} {sp : Sp} {E : St → XK} {x m : Str} {p pos apos : Pos} {e o : Expr} {es : List Expr} {kws : List Keyword} {ta : TE} {t tk : TA} {g : List Value → List Value → List Value} {gV : List V → List V → List V}
theorem run_fnG {pins : List (Addr × Obj)} {σ : St} {H : Hp} {s : Shared} {Q : VK} {us ws : List Value} {vs zs : List V} (F : FnOk X.prog X.w X.K X.mg X.base CX k f fd ps sp) (hr : Room k X.A) (hb : KBn X.K fd ps n ks g gV) (hx : PassesAt CX X σ (E σ))
    (I : Inv X pins σ H s) (r : Vals vs us) (rz : Vals zs ws) (l1 : vs.length = n) (l2 : zs.length = ks.length) (h : sp (gV vs zs) H Q (E σ)) : wpAny (model X.prog X.w) X.A (call (.ref f) us (ks.zip ws)) (EP X pins σ Q) X.xe s := by
  have r2 := hb.rel r rz
  refine wpAny_call (codeAny_mono (F.run X.A X.stack s H ⟨us, ks.zip ws⟩ (g us ws) (gV vs zs) Q (E σ) hr I.env0 (hb.to s us ws I.kIn (r.length.symm.trans l1) (rz.length.symm.trans l2)) r2 h) fun r s' hq => ?_)
  cases r with
  | error e => exact hx pins H s e s' I hq
  | ok fl =>
    cases fl with
    | ret u => exact I.after hq
    | next => exact False.elim hq
    | brk => exact False.elim hq
    | cont => exact False.elim hq
theorem run_makeG {C : Addr} {pins : List (Addr × Obj)} {σ : St} {H : Hp} {s : Shared} {Q : VK} {us ws : List Value} {vs zs : List V} (M : Mk X.K C f) (F : FnOk X.prog X.w X.K X.mg X.base CX k f fd ps sp) (hr : Room (k + 1) X.A) (hb : KBn X.K fd ps (n + 1) ks g gV) (hx : PassesAt CX X σ (E σ))
    (I : Inv X pins σ H s) (r : Vals vs us) (rz : Vals zs ws) (l1 : vs.length = n) (l2 : zs.length = ks.length)
    (h : ∀ x dx, H x = none → H dx = none → dx ≠ x → sp (gV (.ref x :: vs) zs) (upd (upd H dx (.own x)) x (.ins C dx [])) (fun v H2 => v = .non ∧ Q (.ref x) H2) (E σ)) :
    wpAny (model X.prog X.w) X.A (call (.ref C) us (ks.zip ws)) (EP X pins σ Q) X.xe s := by
  have hq := h (s.heap.objs.size + 1) s.heap.objs.size (I.hok.fresh (Nat.le_succ _)) (I.hok.fresh (Nat.le_refl _)) (Nat.ne_of_lt (Nat.lt_succ_self _))
  have I2 := Inv.made (C := C) I
  have r1 : Vals (V.ref (s.heap.objs.size + 1) :: vs) (Value.ref (s.heap.objs.size + 1) :: us) := .cons rfl r
  have r2 := hb.rel r1 rz
  have e1 : (Value.ref (s.heap.objs.size + 1) :: us).length = n + 1 := r1.length.symm.trans (congrArg Nat.succ l1)
  refine wpAny_call (make_map (f := f) I.kIn M.makes M.init (beq_iff_eq.mp M.fn) (codeAny_mono (F.run _ X.stack _ _ ⟨Value.ref (s.heap.objs.size + 1) :: us, ks.zip ws⟩ (g (Value.ref (s.heap.objs.size + 1) :: us) ws) _ _ (E σ) (hr.make C us (ks.zip ws))
    (I2.env0.make C us (ks.zip ws)) (hb.to _ (Value.ref (s.heap.objs.size + 1) :: us) ws I2.kIn e1 (rz.length.symm.trans l2)) r2 hq) fun r s' hq' => ?_))
  cases r with
  | error e => exact hx pins _ _ e s' I2 hq'
  | ok fl =>
    cases fl with
    | ret u =>
      obtain ⟨v, H', I3, rv, ev, q3⟩ := I2.after hq'
      subst ev
      exact ⟨rv, ⟨V.ref (s.heap.objs.size + 1), H', I3, rfl, q3⟩⟩
    | next => exact False.elim hq'
    | brk => exact False.elim hq'
    | cont => exact False.elim hq'
/-- what stands between a call's head and its arguments -/
structure ArgsOk (X : Cx) (es : List Expr) (kws : List Keyword) (pos : Pos) (ks : List Str) (t tk : TA) : Prop where
  run : ∀ {h₀ : Heap} {fv : Value} {first : List Value} {pins : List (Addr × Obj)} {s : Shared} {σ : St} {H : Hp} {Q : Value → Shared → Prop} {R : List V → List V → Hp → Prop}, PySem.W.keepIn X.K fv = true → Inv X pins σ H s →
    t σ H (fun vs H1 => tk σ H1 fun zs H2 => R vs zs H2) →
    (∀ us ws vs zs H2 s2, Inv X pins σ H2 s2 → Vals vs us → Vals zs ws → R vs zs H2 → wpAny (model X.prog X.w) X.A (call fv (first ++ us) (ks.zip ws)) Q X.xe s2) →
    wpAny (model X.prog X.w) X.A (callWith pos fv first (backTo pos (starEach es X.env)) (backToKw pos (keywordEach kws X.env))) Q X.xe s
theorem args_some (ha : PA X (e :: es) t) (hkw : PK X kws tk) (hall : (backToKw pos (keywordEach kws X.env)).all (·.1.isSome) = true := by rfl) (hks : (backToKw pos (keywordEach kws X.env)).filterMap (·.1) = ks := by rfl)
    (he : starEach (e :: es) X.env = (false, eval e X.env) :: starEach es X.env := by rfl)
    (hpl : ((backTo pos (starEach (e :: es) X.env)).any (·.1) || (backToKw pos (keywordEach kws X.env)).any (·.1.isNone)) = false := by rfl) : ArgsOk X (e :: es) kws pos ks t tk :=
  ⟨fun {h₀ fv first pins s σ H Q R} hk I h hc => by
    refine PySem.W.callWith_KW (h₀ := X.base) I.ok.mod.kin hk hall (thn (ha.run pos pins s σ H _ I h) fun us s1 ⟨vs, H1, I1, r, q⟩ => ?_) hpl he
    refine thn (hkw.run pos pins s1 σ H1 _ I1 q) fun ws s2 ⟨zs, H2, I2, rz, q2⟩ => ⟨I2.kIn, ?_⟩
    rw [hks]
    exact hc us ws vs zs H2 s2 I2 r rz q2⟩
theorem args_none (hkw : PK X kws tk) (hall : (backToKw pos (keywordEach kws X.env)).all (·.1.isSome) = true := by rfl) (hks : (backToKw pos (keywordEach kws X.env)).filterMap (·.1) = ks := by rfl)
    (hpl : ((backTo pos (starEach [] X.env)).any (·.1) || (backToKw pos (keywordEach kws X.env)).any (·.1.isNone)) = false := by rfl) : ArgsOk X [] kws pos ks tNil tk :=
  ⟨fun {h₀ fv first pins s σ H Q R} hk I h hc => by
    refine PySem.W.callWith_KW0 (h₀ := X.base) I.ok.mod.kin hk hall ?_ hpl
    refine thn (hkw.run pos pins s σ H _ I h) fun ws s2 ⟨zs, H2, I2, rz, q2⟩ => ⟨I2.kIn, ?_⟩
    rw [hks]
    have := hc [] ws [] zs H2 s2 I2 .nil rz q2
    rw [List.append_nil] at this ⊢
    exact this⟩
theorem args_nil {C : Cf} (hkw : PK X kws tk) (hall : (backToKw pos (keywordEach kws X.env)).all (·.1.isSome) = true := by rfl) (hks : (backToKw pos (keywordEach kws X.env)).filterMap (·.1) = ks := by rfl)
    (hpl : ((backTo pos (starEach [] X.env)).any (·.1) || (backToKw pos (keywordEach kws X.env)).any (·.1.isNone)) = false := by rfl) : ArgsOk X [] kws pos ks (tXs X.K C asNil) tk :=
  ⟨fun {h₀ fv first pins s σ H Q R} hk I h hc => (args_none hkw hall hks hpl).run (h₀ := h₀) hk I (by
    obtain ⟨G, env, s, er, p⟩ := h
    exact p [] G H (.refl s) .nil) hc⟩
def tCallG (n m : Nat) (sp : Sp) (gV : List V → List V → List V) (E : St → XK) (t tk : TA) : TE := fun σ H Q => t σ H fun vs H1 => tk σ H1 fun zs H2 => vs.length = n ∧ zs.length = m ∧ sp (gV vs zs) H2 Q (E σ)
theorem pe_callG (F : FnOk X.prog X.w X.K X.mg X.base CX k f fd ps sp) (hr : Room k X.A) (hg : Gl X x) (hm : X.mg x = some (.ref f)) (hk : PySem.W.keepIn X.K (.ref f) = true) (hb : KBn X.K fd ps n ks g gV) (hx : ∀ σ, PassesAt CX X σ (E σ))
    (ha : ArgsOk X es kws pos ks t tk) (hdb : (x == ("__debug__" : Str)) = false := by decide) : PE X (.Call (.Name x p) es kws pos) (tCallG n ks.length sp gV E t tk) := by
  refine ⟨fun pins s σ H Q I h => ?_⟩
  refine wpAny_Call_Name_kw (ld_glob I hg hm ?_ hdb)
  exact ha.run (h₀ := X.base) (first := []) hk I h fun us ws vs zs H2 s2 I2 r rz ⟨l1, l2, q⟩ => run_fnG F hr hb (hx σ) I2 r rz l1 l2 q
def tMakeG (C : Addr) (n m : Nat) (sp : Sp) (gV : List V → List V → List V) (E : St → XK) (t tk : TA) : TE := fun σ H Q => t σ H fun vs H1 => tk σ H1 fun zs H2 => vs.length = n ∧ zs.length = m ∧
  ∀ x dx, H2 x = none → H2 dx = none → dx ≠ x → sp (gV (.ref x :: vs) zs) (upd (upd H2 dx (.own x)) x (.ins C dx [])) (fun v H3 => v = .non ∧ Q (.ref x) H3) (E σ)
theorem pe_makeG {C : Addr} (M : Mk X.K C f) (F : FnOk X.prog X.w X.K X.mg X.base CX k f fd ps sp) (hr : Room (k + 1) X.A) (hg : Gl X x) (hm : X.mg x = some (.ref C)) (hb : KBn X.K fd ps (n + 1) ks g gV) (hx : ∀ σ, PassesAt CX X σ (E σ))
    (ha : ArgsOk X es kws pos ks t tk) (hdb : (x == ("__debug__" : Str)) = false := by decide) : PE X (.Call (.Name x p) es kws pos) (tMakeG C n ks.length sp gV E t tk) := by
  refine ⟨fun pins s σ H Q I h => ?_⟩
  refine wpAny_Call_Name_kw (ld_glob I hg hm ?_ hdb)
  exact ha.run (h₀ := X.base) (first := []) M.kp I h fun us ws vs zs H2 s2 I2 r rz ⟨l1, l2, q⟩ => run_makeG M F hr hb (hx σ) I2 r rz l1 l2 q
/-- o.m(..): the class is told when o is known -/
structure MOk (X : Cx) (CX : CXT) (k : Nat) (C : Addr) (m : Str) (n : Nat) (ks : List Str) (sp : Sp) (gV : List V → List V → List V) : Prop where
  ex : ∃ f fd ps g, Cls X.K C ∧ Meth X.K C m f ∧ FnOk X.prog X.w X.K X.mg X.base CX k f fd ps sp ∧ KBn X.K fd ps (n + 1) ks g gV
def tMethG (X : Cx) (CX : CXT) (k : Nat) (m : Str) (n : Nat) (ks : List Str) (E : St → XK) (ta : TE) (t tk : TA) : TE := fun σ H Q => ta σ H fun x H1 => ∃ a C dx fs sp gV, x = .ref a ∧ H1 a = some (.ins C dx fs) ∧ fs.lookup m = none ∧ MOk X CX k C m n ks sp gV ∧
  t σ H1 fun vs H2 => tk σ H2 fun zs H3 => vs.length = n ∧ zs.length = ks.length ∧ sp (gV (x :: vs) zs) H3 Q (E σ)
theorem pe_methG {pl : Sem Bool} (he : PE X o ta) (hr : Room k X.A) (hx : ∀ σ, PassesAt CX X σ (E σ)) (ha : ArgsOk X es kws pos ks t tk)
    (ht : eval (.Call (.Attribute o m apos) es kws pos) X.env = (do
      let ov ← eval o X.env
      standAt apos.atName
      let (f, first) ← holding [ov] (getMethod ov m pl)
      callWith pos f first (backTo pos (starEach es X.env)) (backToKw pos (keywordEach kws X.env))) := by rfl) :
    PE X (.Call (.Attribute o m apos) es kws pos) (tMethG X CX k m n ks E ta t tk) := by
  refine ⟨fun pins s σ H Q I h => ?_⟩
  refine PySem.W.methodCall_KW (pl := pl) (thn (he.run pins s σ H _ I h) fun u s1 ⟨x, H1, I1, rx, a, C, dx, fs, sp, gV, ex, ea, l, mo, q⟩ => ?_) ht
  subst ex
  obtain rfl : u = Value.ref a := rx
  obtain ⟨f, fd, ps, g, c, hm, F, hb⟩ := mo.ex
  refine getmeth_ok I1 ea c hm l ?_
  refine ha.run (h₀ := X.base) (first := [.ref a]) hm.kp I1 q fun us ws vs zs H2 s2 I2 r rz ⟨l1, l2, q2⟩ => ?_
  exact run_fnG (us := .ref a :: us) (vs := .ref a :: vs) F hr hb (hx σ) I2 (.cons rfl r) rz (congrArg Nat.succ l1) l2 q2
end
end L2.FO

set_option Elab.async false
set_option linter.all false
set_option maxRecDepth 100000
set_option maxHeartbeats 4000000
namespace L2.FO
open PySem PySem.Spec PyProof.Rows
/-! ### calls without effects -/
def Rs.pure (S0 : Store) : Rs D → Res D
  | .ok d S' => if (S'.length == S0.length || old S0.length d) = true then .ok d else .bad
  | .ex n _ => .ex n
  | .bad => .bad
def asL : D → Res (List D) := fun d => match d with
  | .list l => .ok l
  | _ => .bad
def pArgs (n m : Nat) (gD : List D → List D → List D) (fs ks : Env → Res (List D)) (k : List D → Env → Res D) : Env → Res D := fun env => (fs env).bind fun ds => (ks env).bind fun es => if ds.length = n ∧ es.length = m then k (gD ds es) env else .bad
def pCall (F : FT) (ds : List D) (env : Env) : Res D := (F env.st.length ds env.st).pure env.st
def pArgs' (n m : Nat) (gD : List D → List D → List D) (fs ks : Env → Res (List D)) (k : List D → Env → Res (List D)) : Env → Res (List D) := fun env => (fs env).bind fun ds => (ks env).bind fun es => if ds.length = n ∧ es.length = m then k (gD ds es) env else .bad
def mArgs {α : Type} (n m : Nat) (gD : List D → List D → List D) (fs ks : Env → Rs (List D)) (k : List D → Env → Rs α) : Env → Rs α := fun env => (fs env).bind fun ds S => (ks (env.to S)).bind fun es S2 => if ds.length = n ∧ es.length = m then k (gD ds es) (env.to S2) else .bad
def mCall (F : FT) (ds : List D) (env : Env) : Rs D := F env.fl ds env.st
def Rs.asL : Rs D → Rs (List D)
  | .ok (.list l) S => .ok l S
  | .ok _ _ => .bad
  | .ex n S => .ex n S
  | .bad => .bad
/-- an object is made -/
def Rs.made (i : Nat) : Rs D → Rs D
  | .ok .none S => .ok (.obj i) S
  | .ok _ _ => .bad
  | .ex n S => .ex n S
  | .bad => .bad
def mNew (c nf : Nat) (F : FT) (gD : List D → List D → List D) (ds es : List D) (env : Env) : Rs D := (F env.fl (gD (.obj env.st.length :: ds) es) (env.st ++ [.ins c (List.replicate nf none)])).made env.st.length
def mMake (n m : Nat) (c nf : Nat) (F : FT) (gD : List D → List D → List D) (fs ks : Env → Rs (List D)) : Env → Rs D := fun env => (fs env).bind fun ds S => (ks (env.to S)).bind fun es S2 => if ds.length = n ∧ es.length = m then mNew c nf F gD ds es (env.to S2) else .bad
/-- o.m(..), by the class of o -/
def clsOf (S : Store) : D → Option Nat
  | .obj i => match S[i]? with
    | some (.ins c _) => some c
    | _ => none
  | _ => none
def pMeth (alts : List (Nat × FT)) (n m : Nat) (gD : List D → List D → List D) (fo : Env → Res D) (fs ks : Env → Res (List D)) : Env → Res D := fun env => (fo env).bind fun o => match (clsOf env.st o).bind (alts.lookup ·) with
  | some F => pArgs n m (fun ds es => gD (o :: ds) es) fs ks (pCall F) env
  | none => .bad
def mMeth (alts : List (Nat × FT)) (n m : Nat) (gD : List D → List D → List D) (fo : Env → Rs D) (fs ks : Env → Rs (List D)) : Env → Rs D := fun env => (fo env).bind fun o S => match (clsOf S o).bind (alts.lookup ·) with
  | some F => mArgs n m (fun ds es => gD (o :: ds) es) fs ks (mCall F) (env.to S)
  | none => .bad
section
variable {K : PySem.W.Frag} {T : CT} {G G' : Vw} {H H' : Hp} {S S' : Store} {fl : Nat}
theorem nof_len (o : OR K T G H S) : NoF S.length G := fun n a hn h => by
  rw [← o.ln] at hn
  rw [List.getElem?_eq_none hn] at h
  cases h
/-- a call's end, all new objects dropped -/
theorem pure_end {xw : Nat → Hp → Prop} {Q : VK} {r : Rs D} (o : OR K T G H S) (p : Post (Rp K) xw G H Q (r.pure S)) : EndP K T S.length false G H Q xw r := by
  cases r with
  | ok d S' =>
    unfold Rs.pure at p
    dsimp only at p
    split at p
    · rename_i hc
      intro v G' H' e o' n' rp
      have e' : ExtM G.ad.length G H G' H' := by rw [o.ln]; exact e
      refine p v (G'.cut G.ad) H' (e'.drop o) ?_
      obtain ⟨l, el⟩ := e.gg.ad
      have rp2 : Rp K ⟨G'.h, G.ad ++ l⟩ v d := by rw [← el]; exact rp
      rcases Bool.or_eq_true_iff.mp hc with h1 | h1
      · have hl : l = [] := by
          have h2 := o'.ln
          rw [el, List.length_append, o.ln, eq_of_beq h1] at h2
          exact List.length_eq_zero_iff.mp (by omega)
        subst hl
        rw [List.append_nil] at rp2
        exact rp2
      · exact Rp.old (Nat.le_of_eq o.ln.symm) rp2 h1
    · exact p.elim
  | ex n S' =>
    intro G' H' e o' n'
    have e' : ExtM G.ad.length G H G' H' := by rw [o.ln]; exact e
    exact p (G'.cut G.ad) H' (e'.drop o)
  | bad => exact p
theorem pure_endF {xw : Nat → Hp → Prop} {Q : VK} {r : Rs D} (o : OR K T G H S) (p : PostF K xw G H Q ((r.pure S).bind asL)) : EndP K T S.length true G H Q xw r := by
  cases r with
  | ok d S' =>
    unfold Rs.pure at p
    dsimp only at p
    split at p
    · rename_i hc
      cases d with
      | list l0 =>
        refine ⟨l0, rfl, fun q vs G' H' e o' n' hq gq aq hl rp => ?_⟩
        have e' : ExtM G.ad.length G H G' H' := by rw [o.ln]; exact e
        refine p q vs (G'.cut G.ad) H' (e'.drop o) hq gq hl ?_
        obtain ⟨l, el⟩ := e.gg.ad
        have rp2 : Rps K ⟨G'.h, G.ad ++ l⟩ vs l0 := by rw [← el]; exact rp
        rcases Bool.or_eq_true_iff.mp hc with h1 | h1
        · have hl : l = [] := by
            have h2 := o'.ln
            rw [el, List.length_append, o.ln, eq_of_beq h1] at h2
            exact List.length_eq_zero_iff.mp (by omega)
          subst hl
          rw [List.append_nil] at rp2
          exact rp2
        · exact Rps.old (Nat.le_of_eq o.ln.symm) rp2 h1
      | _ => exact p.elim
    · exact p.elim
  | ex n S' =>
    intro G' H' e o' n'
    have e' : ExtM G.ad.length G H G' H' := by rw [o.ln]; exact e
    exact p (G'.cut G.ad) H' (e'.drop o)
  | bad => exact p
end
section
variable {X : Cx} {C : Cf} {es : List Expr} {kws : List Keyword} {fs kf : Env → Res (List D)} {ms mk : Env → Rs (List D)} {p pos : Pos} {k j n : Nat} {ps ks : List Str} {F : FT} {x : Str} {f : Addr} {fd : FuncData} {gD : List D → List D → List D} {mm : Nat}
theorem q_callF (T : FnT X.prog X.w X.K X.mg X.base C.xa C.ct x f fd ps j false F) (B : Bd X.K fd ps n ks gD) (hr : Room k X.A) (hj : j ≤ k) (tk : Takes X C.W) (ha : ArgsOk X es kws pos ks (tXs X.K C fs) (tXs X.K C kf)) (hg : Gl X x := by rfl)
    (hdb : (x == ("__debug__" : Str)) = false := by decide) (hks : ks.length = mm := by rfl) : QE X C (.Call (.Name x p) es kws pos) (pArgs n mm gD fs kf (pCall F)) := by
  subst hks
  obtain ⟨g, gV, kb, rel⟩ := B.ex
  refine pe_imp (pe_callG T.ok (hr.mono hj) hg T.mg T.kp kb (fun σ => passAt tk σ) ha hdb) fun σ H Q ⟨G, env, s, er, p⟩ => ⟨G, env, s, er, Post.bind p fun ds vs G1 H1 e1 r1 p1 => ⟨G1, env, e1.gh, er.ext e1, Post.bind p1 fun es zs G2 H2 e2 r2 p2 => ?_⟩⟩
  have er2 := (er.ext e1).ext e2
  split at p2
  · rename_i hl
    refine ⟨r1.length.trans hl.1, r2.length.trans hl.2, env.st.length, G2, env.st, gD ds es, Nat.le_refl _, e2.gh, er2.or, nof_len er2.or, rel G2 vs zs ds es (r1.same e2.le) r2, ?_⟩
    exact pure_end er2.or p2
  · exact p2.elim
theorem qf_callF (T : FnT X.prog X.w X.K X.mg X.base C.xa C.ct x f fd ps j true F) (B : Bd X.K fd ps n ks gD) (hr : Room k X.A) (hj : j ≤ k) (tk : Takes X C.W) (ha : ArgsOk X es kws pos ks (tXs X.K C fs) (tXs X.K C kf)) (hg : Gl X x := by rfl)
    (hdb : (x == ("__debug__" : Str)) = false := by decide) (hks : ks.length = mm := by rfl) : QF X C (.Call (.Name x p) es kws pos) (fun env => (pArgs n mm gD fs kf (pCall F) env).bind asL) := by
  subst hks
  obtain ⟨g, gV, kb, rel⟩ := B.ex
  refine pe_imp (pe_callG T.ok (hr.mono hj) hg T.mg T.kp kb (fun σ => passAt tk σ) ha hdb) fun σ H Q ⟨G, env, s, er, p⟩ => ?_
  have bb : ∀ {α β γ : Type} (r : Res α) (k : α → Res β) (h : β → Res γ), (r.bind k).bind h = r.bind fun a => (k a).bind h := fun r k h => by cases r <;> rfl
  have p : PostF X.K (C.xw σ) G H Q (((fs env).bind fun ds => (kf env).bind fun es => if ds.length = n ∧ es.length = ks.length then pCall F (gD ds es) env else .bad).bind asL) := p
  rw [bb] at p
  refine ⟨G, env, s, er, PostF.bind p fun ds vs G1 H1 e1 r1 p1 => ?_⟩
  rw [bb] at p1
  refine ⟨G1, env, e1.gh, er.ext e1, PostF.bind p1 fun es zs G2 H2 e2 r2 p2 => ?_⟩
  have er2 := (er.ext e1).ext e2
  split at p2
  · rename_i hl
    refine ⟨r1.length.trans hl.1, r2.length.trans hl.2, env.st.length, G2, env.st, gD ds es, Nat.le_refl _, e2.gh, er2.or, nof_len er2.or, rel G2 vs zs ds es (r1.same e2.le) r2, ?_⟩
    exact pure_endF er2.or p2
  · exact p2.elim
/-! ### calls with effects -/
theorem m_callF (T : FnT X.prog X.w X.K X.mg X.base C.xa C.ct x f fd ps j false F) (B : Bd X.K fd ps n ks gD) (hr : Room k X.A) (hj : j ≤ k) (tk : Takes X C.W) (ha : ArgsOk X es kws pos ks (tMs X.K C ms) (tMs X.K C mk)) (hg : Gl X x := by rfl)
    (hdb : (x == ("__debug__" : Str)) = false := by decide) (hks : ks.length = mm := by rfl) : ME X C (.Call (.Name x p) es kws pos) (mArgs n mm gD ms mk (mCall F)) := by
  subst hks
  obtain ⟨g, gV, kb, rel⟩ := B.ex
  refine pe_imp (pe_callG T.ok (hr.mono hj) hg T.mg T.kp kb (fun σ => passAt tk σ) ha hdb) fun σ H Q ⟨G, env, em, p⟩ => ⟨G, env, em, PostM.bind p fun ds S vs G1 H1 e1 o1 n1 r1 p1 => ⟨G1, env.to S, em.ext e1 o1 n1, PostM.bind p1 fun es S2 zs G2 H2 e2 o2 n2 r2 p2 => ?_⟩⟩
  have em2 := (em.ext e1 o1 n1).ext e2 o2 n2
  split at p2
  · rename_i hl
    have fe : env.fl = C.fl := em.er.fe
    refine ⟨r1.length.trans hl.1, r2.length.trans hl.2, C.fl, G2, S2, gD ds es, em2.er.fl, e2.gh, o2, n2, rel G2 vs zs ds es (r1.same e2.gg) r2, ?_⟩
    have p2 : PostM X.K C (Rp X.K) (C.xw σ) G2 H2 Q (F env.fl (gD ds es) S2) := p2
    rw [fe] at p2
    cases hF : F C.fl (gD ds es) S2 with
    | ok d S3 => rw [hF] at p2; exact p2
    | ex n S3 => rw [hF] at p2; exact p2
    | bad => rw [hF] at p2; exact p2
  · exact p2.elim
theorem mf_callF (T : FnT X.prog X.w X.K X.mg X.base C.xa C.ct x f fd ps j true F) (B : Bd X.K fd ps n ks gD) (hr : Room k X.A) (hj : j ≤ k) (tk : Takes X C.W) (ha : ArgsOk X es kws pos ks (tMs X.K C ms) (tMs X.K C mk)) (hg : Gl X x := by rfl)
    (hdb : (x == ("__debug__" : Str)) = false := by decide) (hks : ks.length = mm := by rfl) : MF X C (.Call (.Name x p) es kws pos) (mArgs n mm gD ms mk fun ds env => (mCall F ds env).asL) := by
  subst hks
  obtain ⟨g, gV, kb, rel⟩ := B.ex
  refine pe_imp (pe_callG T.ok (hr.mono hj) hg T.mg T.kp kb (fun σ => passAt tk σ) ha hdb) fun σ H Q ⟨G, env, em, p⟩ => ?_
  have pb : ∀ {α : Type} {R : Vw → List V → α → Prop} {G : Vw} {H : Hp} {r : Rs α} {k : α → Store → Rs (List D)} {Q2 : List V → Hp → Prop}, PostMF X.K C (C.xw σ) G H Q (r.bind k) → (∀ a S v G1 H1, ExtM C.fl G H G1 H1 → OR X.K C.ct G1 H1 S → NoF C.fl G1 → R G1 v a → PostMF X.K C (C.xw σ) G1 H1 Q (k a S) → Q2 v H1) → PostM X.K C R (C.xw σ) G H Q2 r := by
    intro α R G H r k Q2 h j
    cases r with
    | ok a S => exact fun v G1 H1 e o n rp => j a S v G1 H1 e o n rp (by
        have h : PostMF X.K C (C.xw σ) G H Q (k a S) := h
        cases hk : k a S with
        | ok ds S2 =>
          rw [hk] at h
          exact fun p vs G2 H2 x o2 n2 hp => h p vs G2 H2 (e.trans x) o2 n2 (e.free hp)
        | ex n S2 =>
          rw [hk] at h
          exact fun G2 H2 x => h G2 H2 (e.trans x)
        | bad => rw [hk] at h; exact h)
    | ex n S => exact h
    | bad => exact h
  refine ⟨G, env, em, pb p fun ds S vs G1 H1 e1 o1 n1 r1 p1 => ⟨G1, env.to S, em.ext e1 o1 n1, pb p1 fun es S2 zs G2 H2 e2 o2 n2 r2 p2 => ?_⟩⟩
  have em2 := (em.ext e1 o1 n1).ext e2 o2 n2
  split at p2
  · rename_i hl
    have fe : env.fl = C.fl := em.er.fe
    refine ⟨r1.length.trans hl.1, r2.length.trans hl.2, C.fl, G2, S2, gD ds es, em2.er.fl, e2.gh, o2, n2, rel G2 vs zs ds es (r1.same e2.gg) r2, ?_⟩
    have p2 : PostMF X.K C (C.xw σ) G2 H2 Q (F env.fl (gD ds es) S2).asL := p2
    rw [fe] at p2
    cases hF : F C.fl (gD ds es) S2 with
    | ok d S3 =>
      rw [hF] at p2
      cases d with
      | list l => exact ⟨l, rfl, p2⟩
      | _ => exact p2.elim
    | ex n S3 => rw [hF] at p2; exact p2
    | bad => rw [hF] at p2; exact p2
  · exact p2.elim
/-! ### objects are made -/
theorem or_new {K : PySem.W.Frag} {T : CT} {G : Vw} {H : Hp} {S : Store} {x dx : Addr} {c : Nat} (o : OR K T G H S) (hc : c < T.cnt) (hx : H x = none) (hd : H dx = none) (hn : dx ≠ x) :
    OR K T ⟨G.h, G.ad ++ [x]⟩ (upd (upd H dx (.own x)) x (.ins (T.ca c) dx [])) (S ++ [.ins c (List.replicate (T.fl c).length none)]) := by
  have keep : ∀ {a : Addr} {u : HO}, H a = some u → (upd (upd H dx (.own x)) x (.ins (T.ca c) dx [])) a = some u := fun {a u} h => by
    rw [upd_ne (fun e => by rw [e, hx] at h; cases h), upd_ne (fun e => by rw [e, hd] at h; cases h)]
    exact h
  refine ⟨by show (G.ad ++ [x]).length = _; rw [List.length_append, List.length_append, o.ln]; rfl, ?_, fun n a r h1 h2 => ?_⟩
  · show (G.ad ++ [x]).Nodup
    rw [List.nodup_append]
    refine ⟨o.nd, by simp, fun a ha b hb e => ?_⟩
    rw [List.mem_singleton] at hb
    subst hb
    subst e
    exact o.mem ha hx
  · have h1 : (G.ad ++ [x])[n]? = some a := h1
    by_cases hl : n < S.length
    · rw [List.getElem?_append_left (by rw [o.ln]; exact hl)] at h1
      rw [List.getElem?_append_left hl] at h2
      exact (o.ok n a r h1 h2).mono ⟨.refl _, [x], rfl⟩ fun u hu => keep hu
    · have en : n = S.length := by
        have := (List.getElem?_eq_some_iff.mp h2).1
        rw [List.length_append] at this
        simp at this
        omega
      subst en
      rw [List.getElem?_append_right (Nat.le_refl _), Nat.sub_self] at h2
      cases h2
      rw [← o.ln, List.getElem?_append_right (Nat.le_refl _), Nat.sub_self] at h1
      cases h1
      refine ⟨hc, List.length_replicate, dx, [], upd_same, Nat.zero_le _, fun i y d q1 q2 => ?_, fun _ _ _ _ => rfl, fun _ _ => rfl⟩
      rw [List.getElem?_replicate] at q2
      split at q2 <;> cases q2
theorem ext_new {G : Vw} {H : Hp} {x dx : Addr} {fl : Nat} {u w : HO} (s : Same G.h H) (hx : H x = none) (hd : H dx = none) : ExtM fl G H ⟨G.h, G.ad ++ [x]⟩ (upd (upd H dx u) x w) := by
  have keep : ∀ {a : Addr} {v : HO}, H a = some v → (upd (upd H dx u) x w) a = some v := fun {a v} h => by
    rw [upd_ne (fun e => by rw [e, hx] at h; cases h), upd_ne (fun e => by rw [e, hd] at h; cases h)]
    exact h
  refine ⟨fun a o e _ => keep e, fun a e => ?_, ⟨.refl _, [x], rfl⟩, fun a o e => keep (s a o e), fun a o e => .inl ⟨o, e⟩, fun n a hn e => ?_⟩
  · cases q : H a with
    | none => exact absurd q e
    | some o =>
      rw [keep q]
      exact Option.some_ne_none _
  · have e : (G.ad ++ [x])[n]? = some a := e
    rw [List.getElem?_append_right hn] at e
    cases hm : n - G.ad.length with
    | zero =>
      rw [hm] at e
      cases e
      exact hx
    | succ m =>
      rw [hm] at e
      cases e
theorem m_make {c nf : Nat} (T : MkT X.prog X.w X.K X.mg X.base C.xa C.ct c x f fd ps j F) (B : Bd X.K fd ps (n + 1) ks gD) (hnf : (C.ct.fl c).length = nf) (hr : Room k X.A) (hj : j + 1 ≤ k) (tk : Takes X C.W) (ha : ArgsOk X es kws pos ks (tMs X.K C ms) (tMs X.K C mk)) (hg : Gl X x := by rfl)
    (hdb : (x == ("__debug__" : Str)) = false := by decide) (hks : ks.length = mm := by rfl) : ME X C (.Call (.Name x p) es kws pos) (mMake n mm c nf F gD ms mk) := by
  subst hks
  obtain ⟨g, gV, kb, rel⟩ := B.ex
  subst hnf
  refine pe_imp (pe_makeG (C := C.ct.ca c) T.mks T.ok (hr.mono hj) hg T.mg kb (fun σ => passAt tk σ) ha hdb) fun σ H Q ⟨G, env, em, p⟩ => ⟨G, env, em, PostM.bind p fun ds S vs G1 H1 e1 o1 n1 r1 p1 => ⟨G1, env.to S, em.ext e1 o1 n1, PostM.bind p1 fun es S2 zs G2 H2 e2 o2 n2 r2 p2 => ?_⟩⟩
  have em2 := (em.ext e1 o1 n1).ext e2 o2 n2
  split at p2
  · rename_i hl
    have fe : env.fl = C.fl := em.er.fe
    refine ⟨r1.length.trans hl.1, r2.length.trans hl.2, fun x dx hx hdx hne => ?_⟩
    have o3 := or_new o2 T.cn hx hdx hne
    have e3 : ExtM C.fl G2 H2 ⟨G2.h, G2.ad ++ [x]⟩ (upd (upd H2 dx (.own x)) x (.ins (C.ct.ca c) dx [])) := ext_new em2.s hx hdx
    have n3 : NoF C.fl ⟨G2.h, G2.ad ++ [x]⟩ := fun m a hm h => by
      have h : (G2.ad ++ [x])[m]? = some a := h
      by_cases hlt : m < G2.ad.length
      · rw [List.getElem?_append_left hlt] at h
        exact n2 m a hm h
      · rw [List.getElem?_append_right (Nat.le_of_not_lt hlt)] at h
        cases hz : m - G2.ad.length with
        | zero =>
          rw [hz] at h
          cases h
          exact em2.s.free hx
        | succ q =>
          rw [hz] at h
          cases h
    have hobj : Rp X.K ⟨G2.h, G2.ad ++ [x]⟩ (.ref x) (.obj S2.length) := .obj (by
      show (G2.ad ++ [x])[S2.length]? = some x
      rw [← o2.ln, List.getElem?_append_right (Nat.le_refl _), Nat.sub_self]
      rfl)
    have l2 : Le G2 ⟨G2.h, G2.ad ++ [x]⟩ := ⟨.refl _, [x], rfl⟩
    refine ⟨C.fl, ⟨G2.h, G2.ad ++ [x]⟩, _, gD (.obj S2.length :: ds) es, ?_, e3.gh, o3, n3, rel _ (.ref x :: vs) zs _ es (.cons hobj ((r1.same e2.gg).same l2)) (r2.same l2), ?_⟩
    · rw [List.length_append]
      exact Nat.le_trans em2.er.fl (Nat.le_add_right _ _)
    · have p2 : PostM X.K C (Rp X.K) (C.xw σ) G2 H2 Q ((F env.fl (gD (.obj S2.length :: ds) es) (S2 ++ [.ins c (List.replicate (C.ct.fl c).length none)])).made S2.length) := p2
      rw [fe] at p2
      cases hF : F C.fl (gD (.obj S2.length :: ds) es) (S2 ++ [.ins c (List.replicate (C.ct.fl c).length none)]) with
      | ok d S3 =>
        rw [hF] at p2
        cases d with
        | none =>
          intro v G' H' e4 o4 n4 rp
          cases rp
          exact ⟨rfl, p2 (.ref x) G' H' (e3.trans e4) o4 n4 (hobj.same e4.gg)⟩
        | _ => exact p2.elim
      | ex m S3 =>
        rw [hF] at p2
        exact fun G' H' e4 o4 n4 => p2 G' H' (e3.trans e4) o4 n4
      | bad => rw [hF] at p2; exact p2
  · exact p2.elim
/-! ### methods -/
structure Alts (X : Cx) (C : Cf) (k : Nat) (m : Str) (fr : Bool) (n : Nat) (ks : List Str) (gD : List D → List D → List D) (alts : List (Nat × FT)) : Prop where
  ok : ∀ c F, alts.lookup c = some F → m ∉ C.ct.fl c ∧ ∃ f fd ps j, j ≤ k ∧ MhT X.prog X.w X.K X.mg X.base C.xa C.ct c m f fd ps j fr F ∧ Bd X.K fd ps (n + 1) ks gD
theorem alts_nil {m : Str} {fr : Bool} : Alts X C k m fr n ks gD [] := ⟨fun c F h => by cases h⟩
theorem alts_cons {m : Str} {fr : Bool} {c : Nat} {l : List (Nat × FT)} (T : MhT X.prog X.w X.K X.mg X.base C.xa C.ct c m f fd ps j fr F) (B : Bd X.K fd ps (n + 1) ks gD) (hj : j ≤ k) (hm : m ∉ C.ct.fl c) (h : Alts X C k m fr n ks gD l) : Alts X C k m fr n ks gD ((c, F) :: l) :=
  ⟨fun d F' q => by
    rw [List.lookup_cons] at q
    split at q
    · rename_i hb
      cases q
      have : d = c := eq_of_beq hb
      subst this
      exact ⟨hm, f, fd, ps, j, hj, T, B⟩
    · exact h.ok d F' q⟩
theorem ins_of {K : PySem.W.Frag} {T : CT} {G : Vw} {H : Hp} {S : Store} {o : D} {v : V} {c : Nat} (or' : OR K T G H S) (r : Rp K G v o) (h : clsOf S o = some c) : ∃ a dx fs i rs, v = .ref a ∧ o = .obj i ∧ G.ad[i]? = some a ∧ S[i]? = some (.ins c rs) ∧ H a = some (.ins (T.ca c) dx fs) ∧ RecOk K T G H a (.ins c rs) ∧ ∀ x, x ∉ T.fl c → fs.lookup x = none := by
  cases o with
  | obj i =>
    unfold clsOf at h
    dsimp only at h
    split at h
    · rename_i c' rs hs
      cases h
      cases r with
      | obj ha =>
        have k := or'.ok i _ _ ha hs
        obtain ⟨h0, h1, dx, fs, h2, h3, h4, h5, h6⟩ := id k
        exact ⟨_, dx, fs, i, rs, rfl, rfl, ha, hs, h2, k, h6⟩
    · cases h
  | _ => cases h
variable {m : Str} {apos : Pos} {o : Expr} {fo : Env → Res D} {mo : Env → Rs D} {alts : List (Nat × FT)}
theorem q_meth (A : Alts X C k m false n ks gD alts) (ho : QE X C o fo) (hr : Room k X.A) (tk : Takes X C.W) (ha : ArgsOk X es kws pos ks (tXs X.K C fs) (tXs X.K C kf)) {pl : Sem Bool}
    (ht : eval (.Call (.Attribute o m apos) es kws pos) X.env = (do
      let ov ← eval o X.env
      standAt apos.atName
      let (f, first) ← holding [ov] (getMethod ov m pl)
      callWith pos f first (backTo pos (starEach es X.env)) (backToKw pos (keywordEach kws X.env))) := by rfl) (hks : ks.length = mm := by rfl) :
    QE X C (.Call (.Attribute o m apos) es kws pos) (pMeth alts n mm gD fo fs kf) := by
  subst hks
  refine pe_imp (pe_methG (CX := L2.CX X.prog X.w) (E := WE C.W) (k := k) (n := n) (pl := pl) ho hr (fun σ => passAt tk σ) ha ht) fun σ H Q ⟨G, env, s, er, p⟩ => ⟨G, env, s, er, Post.bind p fun od ov G0 H0 e0 r0 p0 => ?_⟩
  have er0 := er.ext e0
  cases hcl : clsOf env.st od with
  | none =>
    rw [hcl] at p0
    exact p0.elim
  | some c =>
    cases hal : alts.lookup c with
    | none =>
      rw [hcl] at p0
      have p0 : Post (Rp X.K) (C.xw σ) G0 H0 Q (match alts.lookup c with | some F => _ | none => Res.bad) := p0
      rw [hal] at p0
      exact p0.elim
    | some F =>
      rw [hcl] at p0
      have p0 : Post (Rp X.K) (C.xw σ) G0 H0 Q (match alts.lookup c with | some F => _ | none => Res.bad) := p0
      rw [hal] at p0
      have p0 : Post (Rp X.K) (C.xw σ) G0 H0 Q (pArgs n ks.length (fun ds es => gD (od :: ds) es) fs kf (pCall F) env) := p0
      obtain ⟨a, dx, fs0, i, rs, rfl, rfl, ha', hs', hH, _, hno⟩ := ins_of er0.or r0 hcl
      obtain ⟨hm, f, fd, ps, j, hj, MT, B⟩ := A.ok c F hal
      obtain ⟨g, gV, kb, rel⟩ := B.ex
      refine ⟨a, C.ct.ca c, dx, fs0, _, gV, rfl, hH, hno m hm, ⟨f, fd, ps, g, MT.cl, MT.me, MT.ok.mono hj, kb⟩, G0, env, e0.gh, er0, Post.bind p0 fun ds vs G1 H1 e1 r1 p1 => ⟨G1, env, e1.gh, er0.ext e1, Post.bind p1 fun es zs G2 H2 e2 r2 p2 => ?_⟩⟩
      have er2 := (er0.ext e1).ext e2
      split at p2
      · rename_i hl
        refine ⟨r1.length.trans hl.1, r2.length.trans hl.2, env.st.length, G2, env.st, gD (.obj i :: ds) es, Nat.le_refl _, e2.gh, er2.or, nof_len er2.or, rel G2 (.ref a :: vs) zs _ es (.cons ((r0.same e1.le).same e2.le) (r1.same e2.le)) r2, ?_⟩
        exact pure_end er2.or p2
      · exact p2.elim
theorem m_meth (A : Alts X C k m false n ks gD alts) (ho : ME X C o mo) (hr : Room k X.A) (tk : Takes X C.W) (ha : ArgsOk X es kws pos ks (tMs X.K C ms) (tMs X.K C mk)) {pl : Sem Bool}
    (ht : eval (.Call (.Attribute o m apos) es kws pos) X.env = (do
      let ov ← eval o X.env
      standAt apos.atName
      let (f, first) ← holding [ov] (getMethod ov m pl)
      callWith pos f first (backTo pos (starEach es X.env)) (backToKw pos (keywordEach kws X.env))) := by rfl) (hks : ks.length = mm := by rfl) :
    ME X C (.Call (.Attribute o m apos) es kws pos) (mMeth alts n mm gD mo ms mk) := by
  subst hks
  refine pe_imp (pe_methG (CX := L2.CX X.prog X.w) (E := WE C.W) (k := k) (n := n) (pl := pl) ho hr (fun σ => passAt tk σ) ha ht) fun σ H Q ⟨G, env, em, p⟩ => ⟨G, env, em, PostM.bind p fun od S0 ov G0 H0 e0 o0 n0 r0 p0 => ?_⟩
  have em0 := em.ext e0 o0 n0
  cases hcl : clsOf S0 od with
  | none =>
    rw [hcl] at p0
    exact p0.elim
  | some c =>
    cases hal : alts.lookup c with
    | none =>
      rw [hcl] at p0
      have p0 : PostM X.K C (Rp X.K) (C.xw σ) G0 H0 Q (match alts.lookup c with | some F => _ | none => Rs.bad) := p0
      rw [hal] at p0
      exact p0.elim
    | some F =>
      rw [hcl] at p0
      have p0 : PostM X.K C (Rp X.K) (C.xw σ) G0 H0 Q (match alts.lookup c with | some F => _ | none => Rs.bad) := p0
      rw [hal] at p0
      have p0 : PostM X.K C (Rp X.K) (C.xw σ) G0 H0 Q (mArgs n ks.length (fun ds es => gD (od :: ds) es) ms mk (mCall F) (env.to S0)) := p0
      obtain ⟨a, dx, fs0, i, rs, rfl, rfl, ha', hs', hH, _, hno⟩ := ins_of o0 r0 hcl
      obtain ⟨hm, f, fd, ps, j, hj, MT, B⟩ := A.ok c F hal
      obtain ⟨g, gV, kb, rel⟩ := B.ex
      refine ⟨a, C.ct.ca c, dx, fs0, _, gV, rfl, hH, hno m hm, ⟨f, fd, ps, g, MT.cl, MT.me, MT.ok.mono hj, kb⟩, G0, env.to S0, em0, PostM.bind p0 fun ds S vs G1 H1 e1 o1 n1 r1 p1 => ⟨G1, env.to S, em0.ext e1 o1 n1, PostM.bind p1 fun es S2 zs G2 H2 e2 o2 n2 r2 p2 => ?_⟩⟩
      have em2 := (em0.ext e1 o1 n1).ext e2 o2 n2
      split at p2
      · rename_i hl
        have fe : env.fl = C.fl := em.er.fe
        refine ⟨r1.length.trans hl.1, r2.length.trans hl.2, C.fl, G2, S2, gD (.obj i :: ds) es, em2.er.fl, e2.gh, o2, n2, rel G2 (.ref a :: vs) zs _ es (.cons ((r0.same e1.gg).same e2.gg) (r1.same e2.gg)) r2, ?_⟩
        have p2 : PostM X.K C (Rp X.K) (C.xw σ) G2 H2 Q (F env.fl (gD (.obj i :: ds) es) S2) := p2
        rw [fe] at p2
        cases hF : F C.fl (gD (.obj i :: ds) es) S2 with
        | ok d S3 => rw [hF] at p2; exact p2
        | ex n S3 => rw [hF] at p2; exact p2
        | bad => rw [hF] at p2; exact p2
      · exact p2.elim
end
end L2.FO

set_option Elab.async false
set_option linter.all false
set_option maxRecDepth 100000
set_option maxHeartbeats 4000000
namespace L2.FO
open PySem PySem.Spec PyProof.Rows
/-! ### fields -/
structure FldT (K : PySem.W.Frag) (T : CT) (c i : Nat) (x : Str) : Prop where
  cl : Cls K (T.ca c)
  na : NoAttr K (T.ca c) x
  ix : (T.fl c)[i]? = some x
  nd : (T.fl c).Nodup
  ln : (T.fl c).length < 1000
def Tab (K : PySem.W.Frag) (T : CT) (x : Str) (tab : List (Nat × Nat)) : Prop := ∀ c i, tab.lookup c = some i → FldT K T c i x
theorem tab_nil {K : PySem.W.Frag} {T : CT} {x : Str} : Tab K T x [] := fun c i h => by cases h
theorem tab_cons {K : PySem.W.Frag} {T : CT} {x : Str} {c i : Nat} {l : List (Nat × Nat)} (f : FldT K T c i x) (h : Tab K T x l) : Tab K T x ((c, i) :: l) := fun d j q => by
  rw [List.lookup_cons] at q
  split at q
  · rename_i hb
    cases q
    have : d = c := eq_of_beq hb
    subst this
    exact f
  · exact h d j q
def getFld (S : Store) (tab : List (Nat × Nat)) : D → Res D
  | .obj n => match S[n]? with
    | some (.ins c rs) => match tab.lookup c with
      | some i => match rs[i]? with
        | some (some d) => .ok d
        | _ => .bad
      | none => .bad
    | _ => .bad
  | _ => .bad
def setFld (S : Store) (fl : Nat) (tab : List (Nat × Nat)) (d : D) : D → Res Store
  | .obj n => match S[n]? with
    | some (.ins c rs) => match tab.lookup c with
      | some i => if fl ≤ n ∧ i < rs.length then .ok (S.set n (.ins c (rs.set i (some d)))) else .bad
      | none => .bad
    | _ => .bad
  | _ => .bad
theorem putF_len {f : Str} {v w : V} : ∀ {fs : List (Str × V)}, fs.lookup f = some w → (putF f v fs).length = fs.length
  | [], h => by cases h
  | (g, y) :: r, h => by
    unfold putF
    by_cases hg : g = f
    · rw [if_pos hg]
      rfl
    · rw [if_neg hg]
      rw [List.lookup_cons] at h
      have : (f == g) = false := beq_eq_false_iff_ne.mpr fun e => hg e.symm
      rw [this] at h
      rw [List.length_cons, List.length_cons, putF_len h]
theorem cntS_le {α : Type} (l : List (Option α)) : cntS l ≤ l.length := List.length_filter_le _ _
theorem cntS_cons {α : Type} (o : Option α) (l : List (Option α)) : cntS (o :: l) = (if o.isSome = true then 1 else 0) + cntS l := by
  unfold cntS
  rw [List.filter_cons]
  split <;> simp <;> omega
theorem cntS_none {α : Type} {d : α} : ∀ {l : List (Option α)} {i : Nat}, l[i]? = some none → cntS (l.set i (some d)) = cntS l + 1
  | [], _, h => by cases h
  | o :: l, 0, h => by
    have e : o = none := by simpa using h
    subst e
    rw [List.set_cons_zero, cntS_cons, cntS_cons]
    simp
    omega
  | o :: l, i + 1, h => by
    rw [List.set_cons_succ, cntS_cons, cntS_cons, cntS_none (i := i) (by simpa using h)]
    omega
theorem cntS_some {α : Type} {d e : α} : ∀ {l : List (Option α)} {i : Nat}, l[i]? = some (some e) → cntS (l.set i (some d)) = cntS l
  | [], _, h => by cases h
  | o :: l, 0, h => by
    have e : o = some e := by simpa using h
    subst e
    rw [List.set_cons_zero, cntS_cons, cntS_cons]
    simp
  | o :: l, i + 1, h => by
    rw [List.set_cons_succ, cntS_cons, cntS_cons, cntS_some (i := i) (by simpa using h)]
theorem nodup_ix {α : Type} {l : List α} (h : l.Nodup) {i j : Nat} {x : α} (hi : l[i]? = some x) (hj : l[j]? = some x) : i = j := by
  obtain ⟨h1, e1⟩ := List.getElem?_eq_some_iff.mp hi
  obtain ⟨h2, e2⟩ := List.getElem?_eq_some_iff.mp hj
  exact (List.getElem_inj h).mp (e1.trans e2.symm)
section
variable {K : PySem.W.Frag} {T : CT} {C : Cf} {G G0 : Vw} {H H0 : Hp} {S : Store} {env : Env} {σ : St}
theorem recOk_set {a : Addr} {c i : Nat} {x : Str} {rs : List (Option D)} {d : D} {v : V} {dx : Addr} {fs : List (Str × V)} (k : RecOk K T G H a (.ins c rs)) (e : H a = some (.ins (T.ca c) dx fs)) (f : FldT K T c i x) (hi : i < rs.length) (rp : Rp K G v d) :
    fs.length < 1000 ∧ RecOk K T G (upd H a (.ins (T.ca c) dx (putF x v fs))) a (.ins c (rs.set i (some d))) := by
  obtain ⟨h0, h1, dx', fs', h2, h3, h4, h5, h6⟩ := k
  rw [e] at h2
  cases h2
  have hle : fs.length < 1000 := by
    have := cntS_le rs
    have := f.ln
    omega
  refine ⟨hle, h0, by rw [List.length_set]; exact h1, dx, putF x v fs, upd_same, ?_, fun j y d' q1 q2 => ?_, fun j y q1 q2 => ?_, fun y hy => ?_⟩
  · have e1 : rs[i]? = some rs[i] := List.getElem?_eq_getElem hi
    cases hr : rs[i] with
    | none =>
      rw [hr] at e1
      rw [cntS_none e1]
      have := length_putF x v fs
      omega
    | some d0 =>
      rw [hr] at e1
      obtain ⟨w, hw, _⟩ := h4 i x d0 f.ix e1
      rw [cntS_some e1, putF_len hw]
      exact h3
  · rw [lookup_putF]
    by_cases hy : y = x
    · subst hy
      have := nodup_ix f.nd q1 f.ix
      subst this
      rw [List.getElem?_set_self hi] at q2
      cases q2
      rw [if_pos rfl]
      exact ⟨v, rfl, rp⟩
    · rw [if_neg hy]
      have hj : i ≠ j := fun z => by
        subst z
        rw [f.ix] at q1
        cases q1
        exact hy rfl
      rw [List.getElem?_set_ne hj] at q2
      exact h4 j y d' q1 q2
  · rw [lookup_putF]
    have hj : i ≠ j := fun z => by
      subst z
      rw [List.getElem?_set_self hi] at q2
      cases q2
    rw [List.getElem?_set_ne hj] at q2
    have hy : y ≠ x := fun z => by
      subst z
      exact hj (nodup_ix f.nd f.ix q1)
    rw [if_neg hy]
    exact h5 j y q1 q2
  · rw [lookup_putF, if_neg fun z => hy (by rw [z]; exact List.mem_of_getElem? f.ix)]
    exact h6 y hy
/-- an object changes -/
theorem SR.upd {n : Nat} {a : Addr} {r' : Rec} {u : HO} (r : SR K C G0 H0 G H env σ) (ha : G.ad[n]? = some a) (hn : C.fl ≤ n) (hk : RecOk K C.ct G (upd H a u) a r') : SR K C G0 H0 G (L2.upd H a u) (env.to (env.st.set n r')) σ where
  er := ⟨r.er.es, ⟨by rw [List.length_set]; exact r.er.or.ln, r.er.or.nd, fun m b rc q1 q2 => by
    by_cases hm : n = m
    · subst hm
      have hl : n < env.st.length := by
        rw [← r.er.or.ln]
        exact (List.getElem?_eq_some_iff.mp ha).1
      rw [List.getElem?_set_self hl] at q2
      cases q2
      rw [ha] at q1
      cases q1
      exact hk
    · rw [List.getElem?_set_ne hm] at q2
      refine (r.er.or.ok m b rc q1 q2).mono (.refl _) fun o q => ?_
      have hb : b ≠ a := fun e => by
        subst e
        exact hm (nodup_ix r.er.or.nd ha q1)
      rw [upd_ne hb]
      exact q⟩, by rw [List.length_set]; exact r.er.fl, r.er.fe⟩
  nf := r.nf
  gh b o q := by
    have hb : b ≠ a := fun e => by
      rw [e, r.nf n a hn ha] at q
      cases q
    rw [upd_ne hb]
    exact r.gh b o q
  ex := ⟨fun b o q z => by
    have hb : b ≠ a := fun e => by
      subst e
      by_cases hl : n < G0.ad.length
      · have q2 : G.ad[n]? = some (G0.ad[n]) := r.ex.gg.get (List.getElem?_eq_getElem hl)
        rw [ha] at q2
        exact z n hn (by rw [List.getElem?_eq_getElem hl]; exact q2.symm)
      · have := r.ex.an n b (Nat.le_of_not_lt hl) ha
        rw [q] at this
        cases this
    rw [upd_ne hb]
    exact r.ex.hs b o q z, fun b q => by
    by_cases hb : b = a
    · rw [hb, upd_same]
      exact Option.some_ne_none _
    · rw [upd_ne hb]
      exact r.ex.hx b q, r.ex.gg, fun b o q => by
    have hb : b ≠ a := fun e => by
      rw [e, r.nf n a hn ha] at q
      cases q
    rw [upd_ne hb]
    exact r.gh b o q, r.ex.fr, r.ex.an⟩
  own i ds h := by
    obtain ⟨b, vs, h1, h2, h3, h4, h6, h5⟩ := r.own i ds h
    have hb : b ≠ a := fun e => h6 (by rw [e]; exact List.mem_of_getElem? ha)
    exact ⟨b, vs, h1, by rw [upd_ne hb]; exact h2, h3, h4, h6, h5⟩
  sep := r.sep
end
section
variable {X : Cx} {C : Cf} {fr : Bool} {o e : Expr} {pos pos' apos tpos : Pos} {fo fv : Env → Res D} {mo mv : Env → Rs D} {f : Str} {tab : List (Nat × Nat)} {vw : Env → Env}
def eFld (tab : List (Nat × Nat)) (fo : Env → Res D) : Env → Res D := fun env => (fo env).bind (getFld env.st tab)
theorem getFld_ok {K : PySem.W.Frag} {T : CT} {G : Vw} {H : Hp} {S : Store} {o d : D} {v : V} (ht : Tab K T f tab) (or' : OR K T G H S) (r : Rp K G v o) (h : getFld S tab o = .ok d) :
    ∃ a C dx fs w, v = .ref a ∧ H a = some (.ins C dx fs) ∧ Cls K C ∧ NoAttr K C f ∧ fs.lookup f = some w ∧ Rp K G w d := by
  cases o with
  | obj n =>
    unfold getFld at h
    dsimp only at h
    split at h
    · rename_i c rs hs
      split at h
      · rename_i i hi
        split at h
        · rename_i d' hd
          cases h
          cases r with
          | obj ha =>
            obtain ⟨h0, h1, dx, fs, h2, h3, h4, _⟩ := or'.ok n _ _ ha hs
            have F := ht c i hi
            obtain ⟨w, hw, rw_⟩ := h4 i f _ F.ix hd
            exact ⟨_, _, dx, fs, w, rfl, h2, F.cl, F.na, hw, rw_⟩
        · cases h
      · cases h
    · cases h
  | _ => cases h
theorem getFld_noex {S : Store} (o : D) (n : Nat) : getFld S tab o ≠ .ex n := by
  intro h
  unfold getFld at h
  split at h
  · split at h
    · split at h
      · split at h <;> cases h
      · cases h
    · cases h
  · cases h
theorem q_fld (ht : Tab X.K C.ct f tab) (ho : QE X C o fo) (hb : attributeBase o f X.env (eval o X.env) = eval o X.env := by rfl) : QE X C (.Attribute o f pos) (eFld tab fo) :=
  pe_imp (pe_fld ho hb) fun σ H Q ⟨G, env, s, er, p⟩ => ⟨G, env, s, er, Post.bind p fun d x G1 H1 e1 r1 p1 => by
    cases hg : getFld env.st tab d with
    | ok d' =>
      rw [hg] at p1
      obtain ⟨a, CC, dx, fs, w, ex, h1, h2, h3, h4, h5⟩ := getFld_ok ht (er.ext e1).or r1 hg
      exact ⟨a, CC, dx, fs, w, ex, e1.gh |> fun _ => h1, h2, h3, h4, p1 w G1 H1 (.refl e1.gh) h5⟩
    | ex n => exact absurd hg (getFld_noex _ _)
    | bad =>
      rw [hg] at p1
      exact p1.elim⟩
def mFld (tab : List (Nat × Nat)) (mo : Env → Rs D) : Env → Rs D := fun env => (mo env).bind fun d S => (getFld S tab d).m S
theorem m_fld (ht : Tab X.K C.ct f tab) (ho : ME X C o mo) (hb : attributeBase o f X.env (eval o X.env) = eval o X.env := by rfl) : ME X C (.Attribute o f pos) (mFld tab mo) :=
  pe_imp (pe_fld ho hb) fun σ H Q ⟨G, env, em, p⟩ => ⟨G, env, em, PostM.bind p fun d S x G1 H1 e1 o1 n1 r1 p1 => by
    cases hg : getFld S tab d with
    | ok d' =>
      rw [hg] at p1
      obtain ⟨a, CC, dx, fs, w, ex, h1, h2, h3, h4, h5⟩ := getFld_ok ht o1 r1 hg
      exact ⟨a, CC, dx, fs, w, ex, h1, h2, h3, h4, p1 w G1 H1 (.refl e1.gh) o1 n1 h5⟩
    | ex n => exact absurd hg (getFld_noex _ _)
    | bad =>
      rw [hg] at p1
      exact p1.elim⟩
/-- o.f = e -/
def putTo (tab : List (Nat × Nat)) (d od : D) (env : Env) : Out := match setFld env.st env.fl tab d od with
  | .ok S => .nx (env.to S)
  | _ => .bad
def sFld (tab : List (Nat × Nat)) (fo fv : Env → Res D) : Env → Out := fun env => (fv env).out env fun d => (fo env).out env fun od => putTo tab d od env
def sFldM (tab : List (Nat × Nat)) (fo : Env → Res D) (mv : Env → Rs D) : Env → Out := fun env => (mv env).out env fun d e => (fo e).out e fun od => putTo tab d od e
theorem put_ok {G0 G : Vw} {H0 H : Hp} {env : Env} {σ : St} {Dn : Ends} {d od : D} {v x : V} (ht : Tab X.K C.ct f tab) (sr : SR X.K C G0 H0 G H env σ) (rv : Rp X.K G v d) (ro : Rp X.K G x od) (q : PostS X.K C fr G0 H0 Dn (putTo tab d od env)) :
    ∃ a C dx fs, x = .ref a ∧ H a = some (.ins C dx fs) ∧ Cls X.K C ∧ NoAttr X.K C f ∧ fs.length < 1000 ∧ Dn.nx σ (upd H a (.ins C dx (putF f v fs))) := by
  unfold putTo setFld at q
  split at q
  · rename_i S' hS
    split at hS
    · rename_i n
      split at hS
      · rename_i c rs hs
        split at hS
        · rename_i i hi
          split at hS
          · rename_i hc
            cases hS
            cases ro with
            | obj ha =>
              have F := ht c i hi
              have k := sr.er.or.ok n _ _ ha hs
              obtain ⟨h0, h1, dx, fs, h2, _⟩ := id k
              obtain ⟨hl, k'⟩ := recOk_set k h2 F hc.2 rv
              rw [sr.er.fe] at hc
              exact ⟨_, _, dx, fs, rfl, h2, F.cl, F.na, hl, q σ G _ (sr.upd ha hc.1 k')⟩
          · cases hS
        · cases hS
      · cases hS
    · cases hS
  · exact q.elim
theorem qs_fld (ht : Tab X.K C.ct f tab) (ho : QE X C o fo) (he : QE X C e fv) (hs : swapsWith e (some (.Attribute o f pos')) pos.line X.env = pure false := by rfl) : QS X C fr (.Assign [.Attribute o f pos'] e pos) (sFld tab fo fv) :=
  ps_imp (ps_fld ho he hs) fun Dn σ H ⟨G0, H0, G, env, sr, p⟩ => ⟨G, env, sr.gh, sr.er, stE sr p fun d v G1 H1 e1 rp q => by
    have sr1 := sr.post e1
    exact ⟨G1, env, sr1.gh, sr1.er, stE sr1 q fun od x G2 H2 e2 ro q2 => put_ok ht (sr1.post e2) (rp.same e2.le) ro q2⟩⟩
theorem qs_fldM (ht : Tab X.K C.ct f tab) (ho : QE X C o fo) (he : ME X C e mv) (hs : swapsWith e (some (.Attribute o f pos')) pos.line X.env = pure false := by rfl) : QS X C fr (.Assign [.Attribute o f pos'] e pos) (sFldM tab fo mv) :=
  ps_imp (ps_fld ho he hs) fun Dn σ H ⟨G0, H0, G, env, sr, p⟩ => ⟨G, env, sr.em, stM sr p fun d S v G1 H1 e1 o1 n1 rp sr1 q =>
    ⟨G1, env.to S, sr1.gh, sr1.er, stE sr1 q fun od x G2 H2 e2 ro q2 => put_ok ht (sr1.post e2) (rp.same e2.le) ro q2⟩⟩
/-- o.f op= e, scalars -/
def sFldAug (vw : Env → Env) (tab : List (Nat × Nat)) (g : D → D → Res D) (fo fv : Env → Res D) : Env → Out := fun env => (fo (vw env)).out env fun od => match getFld env.st tab od with
  | .ok d0 => if scal d0 = true then (fv (vw env)).out env fun d => if scal d = true then (match g d0 d with
    | .ok d' => if scal d' = true then putTo tab d' od env else .bad
    | _ => .bad) else .bad else .bad
  | _ => .bad
theorem qs_fldAug {op : Operator} {g : D → D → Res D} {r : TIp} (hvw : VOk vw) (ht : Tab X.K C.ct f tab) (hr : PIp X op r) (hip : IpF X.K g r) (ho : QE X C o fo) (he : QE X C e fv) : QS X C fr (.AugAssign (.Attribute o f tpos) op e pos) (sFldAug vw tab g fo fv) :=
  ps_imp (ps_fldaug ho he (fun pins s σ H x y u v Q I r1 r2 h => hr pins s σ H x y u v Q I r1 r2 h)) fun Dn σ H ⟨G0, H0, G, env, sr, p⟩ => by
    obtain ⟨Gv, s1, er1, l1⟩ := hvw sr
    refine ⟨Gv, vw env, s1, er1, stE' sr p fun od x G1 H1 e1 ro q => ?_⟩
    cases hg : getFld env.st tab od with
    | bad => rw [hg] at q; exact q.elim
    | ex n => exact absurd hg (getFld_noex _ _)
    | ok d0 =>
      rw [hg] at q
      dsimp only at q
      -- the object itself, at the state as it stands
      cases od with
      | obj n =>
        obtain ⟨c, rs, i, hS, hi, hd⟩ : ∃ c rs i, env.st[n]? = some (.ins c rs) ∧ tab.lookup c = some i ∧ rs[i]? = some (some d0) := by
          unfold getFld at hg
          dsimp only at hg
          split at hg
          · rename_i c rs hs
            split at hg
            · rename_i i hi
              split at hg
              · rename_i d' hd
                cases hg
                exact ⟨c, rs, i, hs, hi, hd⟩
              · cases hg
            · cases hg
          · cases hg
        obtain ⟨a, ha, k⟩ := sr.er.or.at hS
        cases ro with
        | obj ha' =>
          have F := ht c i hi
          have haG : Gv.ad[n]? = some a := l1.get ha
          rw [e1.ad, haG] at ha'
          cases ha'
          obtain ⟨h0, h1, dx, fs, h2, h3, h4, _⟩ := id k
          obtain ⟨w, hw, rw_⟩ := h4 i f _ F.ix hd
          split at q
          · rename_i hs0
            refine ⟨a, _, dx, fs, w, rfl, e1.hh _ _ h2, F.cl, F.na, hw, G1, vw env, e1.gh, er1.ext e1, stE' (sr.grow e1.hh) q fun d y G2 H2 e2 ry q2 => ?_⟩
            split at q2
            · rename_i hs1
              split at q2
              · rename_i d' hgd
                split at q2
                · rename_i hs2
                  refine hip w y d0 d G H2 _ hs0 hs1 rw_ (ry.scal hs1 G) (fun d2 hd2 z rz => ?_) ⟨_, hgd⟩
                  rw [hgd] at hd2
                  cases hd2
                  have sr2 := (sr.grow e1.hh).grow e2.hh
                  obtain ⟨a2, C2, dx2, fs2, ex2, q3, _, _, q4, q5⟩ := put_ok (v := z) (x := .ref a) ht sr2 (rz G) (.obj ha) q2
                  cases ex2
                  have h2' : H2 a = some (.ins (C.ct.ca c) dx fs) := e2.hh _ _ (e1.hh _ _ h2)
                  rw [h2'] at q3
                  cases q3
                  exact ⟨dx, fs, h2', q4, q5⟩
                · exact q2.elim
              · exact q2.elim
            · exact q2.elim
          · exact q.elim
      | _ => cases hg
end
end L2.FO

set_option Elab.async false
set_option linter.all false
set_option maxRecDepth 100000
set_option maxHeartbeats 4000000
namespace L2.FO
open PySem PySem.Spec PyProof.Rows
/-! ### bodies -/
def Out.fin : Out → Rs D
  | .nx e => .ok .none e.st
  | .rt d S => .ok d S
  | .ex n e => .ex n e.st
  | _ => .bad
def runF (ar n : Nat) (g : Env → Out) : FT := fun fl ds S => if ds.length = ar then (g ⟨ds.map .val ++ List.replicate (n - ds.length) .no, S, fl⟩).fin else .bad
def onlyL : Rs D → Rs D
  | .ok (.list l) S => .ok (.list l) S
  | .ok _ _ => .bad
  | .ex n S => .ex n S
  | .bad => .bad
/-- .. one that returns fresh lists alone -/
def runL (ar n : Nat) (g : Env → Out) : FT := fun fl ds S => onlyL (runF ar n g fl ds S)
section
variable {P : Program} {w : World} {K : PySem.W.Frag} {mg : Str → Option Value} {base : Heap} {x qual : Str} {f : Addr} {fd : FuncData} {N ps : List Str} {k : Nat} {g : Env → Out} {xa : Nat → Addr} {T : CT} {fr : Bool}
theorem start_sr {G : Vw} {H : Hp} {vs : List V} {ds : List D} {S : Store} {C : Cf} (s : Same G.h H) (o : OR K C.ct G H S) (hl : C.fl ≤ S.length) (n : NoF C.fl G) (r : Rps K G vs ds) : SR K C G H G H ⟨ds.map Sl.val ++ List.replicate (N.length - ds.length) Sl.no, S, C.fl⟩ (start N vs) := by
  have hlen := r.length
  have key : ∀ (i : Nat) (s : Sl), (ds.map Sl.val ++ List.replicate (N.length - ds.length) Sl.no)[i]? = some s → (∃ d, ds[i]? = some d ∧ s = .val d) ∨ s = .no := fun i s h => by
    by_cases hi : i < ds.length
    · rw [List.getElem?_append_left (by rw [List.length_map]; exact hi), List.getElem?_map, List.getElem?_eq_getElem hi] at h
      exact .inl ⟨_, List.getElem?_eq_getElem hi, (Option.some.inj h).symm⟩
    · rw [List.getElem?_append_right (by rw [List.length_map]; omega), List.getElem?_replicate] at h
      split at h
      · exact .inr (Option.some.inj h).symm
      · cases h
  refine ⟨⟨⟨fun i d h => ?_, fun i n h => ?_, ?_⟩, o, hl, rfl⟩, n, s, .refl s, fun i ds' h => ?_, fun i j ds' es a _ h _ _ => ?_⟩
  · rcases key i _ h with ⟨d', h1, e⟩ | e
    · cases e
      obtain ⟨v, h2, rv⟩ := r.get h1
      refine ⟨v, ?_, rv⟩
      unfold start
      rw [List.getElem?_append_left (by rw [List.length_map]; exact (List.getElem?_eq_some_iff.mp h2).1), List.getElem?_map, h2] <;> rfl
    · cases e
  · rcases key i _ h with ⟨d', h1, e⟩ | e <;> cases e
  · unfold start
    rw [List.length_append, List.length_append, List.length_map, List.length_map, List.length_replicate, List.length_replicate, hlen]
  · rcases key i _ h with ⟨d', h1, e⟩ | e <;> cases e
  · rcases key i _ h with ⟨d', h1, e⟩ | e <;> cases e
abbrev cfOf (xa : Nat → Addr) (T : CT) (fl : Nat) (E : XK) : Cf := ⟨xa, T, fl, (0, 0), fun cls d _ H => E cls d H⟩
theorem body_end {G : Vw} {H : Hp} {S : Store} {fl : Nat} {Q : VK} {E : XK} {o : Out} (h : EndP K T fl fr G H Q (fun n H' => E (.ref (xa n)) none H') (match fr with | true => onlyL o.fin | false => o.fin)) :
    PostS K (cfOf xa T fl E) fr G H { nx := fun _ H' => Q .non H', rt := Q } o := by
  cases o with
  | nx e =>
    cases fr with
    | false => exact fun σ' G' H' sr => h .non G' H' sr.ex sr.er.or sr.nf .non
    | true => exact h.elim
  | rt d S' =>
    cases fr with
    | false => exact h
    | true =>
      cases d with
      | list l => exact h
      | _ => exact h.elim
  | ex n e => cases fr <;> exact fun σ' G' H' sr => h G' H' sr.ex sr.er.or sr.nf
  | bk e => cases fr <;> exact h.elim
  | ct e => cases fr <;> exact h.elim
  | bad => cases fr <;> exact h.elim
/-- a def, told by what stands in its object -/
structure FunO (K : PySem.W.Frag) (x qual : Str) (st : Stmt) (f : Addr) (fd : FuncData) : Prop where
  ex : ∃ (oc : Value) (od : Option Addr) (dV kV doc pm : Value) (an : Option Addr) (cdv ct : Value) (osl : Array (Option Value)),
    fd = PySem.W.fnOf x qual (defArgs st) (defBody st) (defScope st) dV kV doc pm an cdv ct ∧ K.lookup f = some ⟨oc, od, .func fd, osl⟩ ∧ PySem.W.codeIn K cdv qual = true
theorem FunO.ok {st : Stmt} {CX : CXT} {sp : Sp} (F : FunO K x qual st f fd) (S : FnScope N ps (defScope st)) (len : ∀ vs H Q E, sp vs H Q E → vs.length = ps.length)
    (hbody : ∀ (cdv : Value) (A : Around) (outer : List PySem.Env) (s : Shared) (H : Hp) (vs : List V) (Q : VK) (E : XK), Room k (A.deeper (envOfC qual (defScope st) s.heap.objs.size f cdv)) → sp vs H Q E →
      ∃ t, PSs (cxOf CX P w K mg base N qual (defScope st) f cdv A outer s H E) (defBody st) t ∧ t { nx := fun _ H' => Q .non H', rt := Q } (start N vs) H) : FnOk P w K mg base CX (k + 1) f fd ps sp := by
  obtain ⟨oc, od, dV, kV, doc, pm, an, cdv, ct, osl, rfl, lk, hcd⟩ := F.ex
  exact fn_of lk hcd S len fun A outer s H vs Q E hr hsp => hbody cdv A outer s H vs Q E hr hsp
theorem okF {st : Stmt} {ar n : Nat} (F : FunO K x qual st f fd) (S : FnScope N ps (defScope st)) (har : ps.length = ar) (hnn : N.length = n)
    (hbody : ∀ (cdv : Value) (A : Around) (outer : List PySem.Env) (s : Shared) (H : Hp) (E : XK) (fl : Nat), Room k (A.deeper (envOfC qual (defScope st) s.heap.objs.size f cdv)) →
      QSs (cxOf (L2.CX P w) P w K mg base N qual (defScope st) f cdv A outer s H E) (cfOf xa T fl E) false (defBody st) g) :
    FnOk P w K mg base (L2.CX P w) (k + 1) f fd ps (spF K T xa false (runF ar n g)) := by
  subst har hnn
  refine F.ok S (fun vs H Q E h => ?_) (fun cdv A outer s H vs Q E hr h => ?_)
  · obtain ⟨fl, G, S', ds, _, _, _, _, r, h⟩ := h
    unfold runF at h
    by_cases hl : ds.length = ps.length
    · exact r.length.trans hl
    · rw [if_neg hl] at h
      exact h.elim
  · obtain ⟨fl, G, S', ds, h0, s0, o0, n0, r, h⟩ := h
    refine ⟨_, hbody cdv A outer s H E fl hr, G, H, G, _, start_sr s0 o0 h0 n0 r, ?_⟩
    unfold runF at h
    by_cases hl : ds.length = ps.length
    · rw [if_pos hl] at h
      exact body_end (S := S') (fr := false) h
    · rw [if_neg hl] at h
      exact h.elim
theorem okL {st : Stmt} {ar n : Nat} (F : FunO K x qual st f fd) (S : FnScope N ps (defScope st)) (har : ps.length = ar) (hnn : N.length = n)
    (hbody : ∀ (cdv : Value) (A : Around) (outer : List PySem.Env) (s : Shared) (H : Hp) (E : XK) (fl : Nat), Room k (A.deeper (envOfC qual (defScope st) s.heap.objs.size f cdv)) →
      QSs (cxOf (L2.CX P w) P w K mg base N qual (defScope st) f cdv A outer s H E) (cfOf xa T fl E) true (defBody st) g) :
    FnOk P w K mg base (L2.CX P w) (k + 1) f fd ps (spF K T xa true (runL ar n g)) := by
  subst har hnn
  refine F.ok S (fun vs H Q E h => ?_) (fun cdv A outer s H vs Q E hr h => ?_)
  · obtain ⟨fl, G, S', ds, _, _, _, _, r, h⟩ := h
    unfold runL runF at h
    by_cases hl : ds.length = ps.length
    · exact r.length.trans hl
    · rw [if_neg hl] at h
      exact h.elim
  · obtain ⟨fl, G, S', ds, h0, s0, o0, n0, r, h⟩ := h
    refine ⟨_, hbody cdv A outer s H E fl hr, G, H, G, _, start_sr s0 o0 h0 n0 r, ?_⟩
    unfold runL runF at h
    by_cases hl : ds.length = ps.length
    · rw [if_pos hl] at h
      exact body_end (S := S') (fr := true) h
    · rw [if_neg hl] at h
      exact h.elim
end
/-! ### raise, try -/
structure XF (K : PySem.W.Frag) (a : Addr) : Prop where
  x : PySem.W.excIn K a [.type "ValueError", .type "Exception", .type "BaseException", .type "object"] "ValueError.__new__" = true
  k : PySem.W.keepIn K (.ref a) = true
  b : PySem.W.subIn K (.ref a) (.type "BaseException") = some true
  t : PySem.W.typeIn K (.ref a) = some (.type "type")
structure XT (K : PySem.W.Frag) (xa : Nat → Addr) (cnt : Nat) (sub : Nat → Nat → Bool) : Prop where
  f : ∀ n, n < cnt → XF K (xa n)
  kit : ∀ n m, n < cnt → m < cnt → PySem.W.kitOne K (.ref (xa n)) (.ref (xa m)) = some (sub n m)
  exm : ∀ n m, n < cnt → m < cnt → PySem.W.exmOne K (.ref (xa n)) (.ref (xa m)) = some (sub n m)
  exc : ∀ n, n < cnt → ExcC K (xa n)
def noExc (e : List Sl) : Bool := e.all fun s => match s with
  | .exc _ => false
  | _ => true
theorem noExc_get {e : List Sl} (h : noExc e = true) {i n : Nat} : e[i]? ≠ some (Sl.exc n) := fun q => by
  have := List.all_eq_true.mp h (Sl.exc n) (List.mem_of_getElem? q)
  exact absurd this Bool.false_ne_true
def sRaise (n : Nat) : Env → Out := fun env => .ex n env
/-- the suite's end: the name is gone -/
def Out.tryEnd (i : Nat) : Out → Out
  | .nx e => if noExc (e.sl.set i .no) = true then .nx (e.set i .no) else .bad
  | .bk e => if noExc (e.sl.set i .no) = true then .bk (e.set i .no) else .bad
  | .ct e => if noExc (e.sl.set i .no) = true then .ct (e.set i .no) else .bad
  | .rt d S => .rt d S
  | _ => .bad
def sTry (cnt : Nat) (sub : Nat → Bool) (i : Nat) (b h : Env → Out) : Env → Out := fun env => match b env with
  | .ex n e => if n < cnt ∧ noExc e.sl = true then (if sub n = true then (h (e.set i (.exc n))).tryEnd i else .ex n e) else .bad
  | o => o
/-- the context of a try's body, of a suite -/
abbrev Cf.by (C : Cf) (W : WX) : Cf := { C with W := W }
abbrev Cf.hot (C : Cf) (a : Addr) (n : Nat) : Cf := { C with z := (a, n), W := fun _ _ _ _ => False }
section
variable {K : PySem.W.Frag} {C : Cf} {G0 G : Vw} {H0 H : Hp} {env : Env} {σ : St}
theorem SR.setExc (r : SR K C G0 H0 G H env σ) (h : noExc env.sl = true) (a : Addr) (n i : Nat) : SR K (C.hot a n) G0 H0 G H (env.set i (.exc n)) (σ.set i (some (.ref a))) where
  er := ⟨⟨fun j d q => by
    have q : (env.sl.set i (.exc n))[j]? = some (Sl.val d) := q
    rcases set_get q with ⟨_, q, _⟩ | ⟨hj, q⟩
    · cases q
    · rw [List.getElem?_set_ne hj]
      exact r.er.es.val j d q, fun j m q => by
    have q : (env.sl.set i (.exc n))[j]? = some (Sl.exc m) := q
    rcases set_get q with ⟨rfl, q, hi⟩ | ⟨hj, q⟩
    · cases q
      exact ⟨List.getElem?_set_self (by rw [← r.er.es.len]; exact hi), rfl⟩
    · exact absurd q (noExc_get h), by show (env.sl.set i _).length = _; rw [List.length_set, List.length_set]; exact r.er.es.len⟩, r.er.or, r.er.fl, r.er.fe⟩
  nf := r.nf
  gh := r.gh
  ex := r.ex
  own j ds q := by
    have q : (env.sl.set i (.exc n))[j]? = some (Sl.own ds) := q
    rcases set_get q with ⟨_, q, _⟩ | ⟨hj, q⟩
    · cases q
    · rw [List.getElem?_set_ne hj]
      exact r.own j ds q
  sep j k ds es b hjk h1 h2 h3 := by
    have h1 : (env.sl.set i (.exc n))[j]? = some (Sl.own ds) := h1
    have h2 : (env.sl.set i (.exc n))[k]? = some (Sl.own es) := h2
    rcases set_get h1 with ⟨_, e, _⟩ | ⟨hj, h1⟩
    · cases e
    · rcases set_get h2 with ⟨_, e, _⟩ | ⟨hk, h2⟩
      · cases e
      · rw [List.getElem?_set_ne hj] at h3
        rw [List.getElem?_set_ne hk]
        exact r.sep j k ds es b hjk h1 h2 h3
theorem SR.dropExc {a : Addr} {n i : Nat} (r : SR K (C.hot a n) G0 H0 G H env σ) (h : noExc (env.sl.set i .no) = true) : SR K C G0 H0 G H (env.set i .no) (σ.set i none) where
  er := ⟨⟨fun j d q => by
    have q : (env.sl.set i .no)[j]? = some (Sl.val d) := q
    rcases set_get q with ⟨_, q, _⟩ | ⟨hj, q⟩
    · cases q
    · rw [List.getElem?_set_ne hj]
      exact r.er.es.val j d q, fun j m q => absurd q (noExc_get h), by show (env.sl.set i _).length = _; rw [List.length_set, List.length_set]; exact r.er.es.len⟩, r.er.or, r.er.fl, r.er.fe⟩
  nf := r.nf
  gh := r.gh
  ex := r.ex
  own j ds q := by
    have q : (env.sl.set i .no)[j]? = some (Sl.own ds) := q
    rcases set_get q with ⟨_, q, _⟩ | ⟨hj, q⟩
    · cases q
    · rw [List.getElem?_set_ne hj]
      exact r.own j ds q
  sep j k ds es b hjk h1 h2 h3 := by
    have h1 : (env.sl.set i .no)[j]? = some (Sl.own ds) := h1
    have h2 : (env.sl.set i .no)[k]? = some (Sl.own es) := h2
    rcases set_get h1 with ⟨_, e, _⟩ | ⟨hj, h1⟩
    · cases e
    · rcases set_get h2 with ⟨_, e, _⟩ | ⟨hk, h2⟩
      · cases e
      · rw [List.getElem?_set_ne hj] at h3
        rw [List.getElem?_set_ne hk]
        exact r.sep j k ds es b hjk h1 h2 h3
end
section
variable {X : Cx} {C : Cf} {fr : Bool} {x m : Str} {pos p p2 pos2 : Pos} {j : Nat} {cnt : Nat} {sub : Nat → Nat → Bool}
theorem qs_raise {n : Nat} (T : XT X.K C.xa cnt sub) (hn : n < cnt) (hc : X.calm = true) (tk : Takes X C.W) (gC : X.mg x = some (.ref (C.xa n))) (hg : Gl X x := by rfl) (hdb : (x == ("__debug__" : Str)) = false := by decide) :
    QS X C fr (.Raise (some (.Call (.Name x p) [.Constant (.str m) j p2] [] pos)) none pos2) (sRaise n) :=
  ps_imp (ps_raise hc tk (pmk_own PySem.F.excBase_ValueError (T.f n hn).x gC (T.f n hn).k (raises_own (T.f n hn).b (T.f n hn).t) hg hdb)) fun Dn σ H ⟨G0, H0, G, env, sr, p⟩ => p σ G H sr
theorem suite_of {st : List Stmt} {cls : Value} {d : Option Addr} {t : Nat → TS} (h : ∀ n, cls = .ref (C.xa n) → d = none → PSs X st (t n)) : PSs X st (fun Dn σ H => ∃ n, cls = .ref (C.xa n) ∧ d = none ∧ t n Dn σ H) :=
  ⟨fun pins s σ H Dn I ⟨n, h1, h2, q⟩ => (h n h1 h2).run pins s σ H Dn I q⟩
theorem qs_try {np pos' : Pos} {nm : Str} {i cm : Nat} {body suite : List Stmt} {b₀ : Stmt} {g h : Env → Out} (T : XT X.K C.xa cnt sub) (hcm : cm < cnt) (hN : X.N.Nodup) (hi : X.N[i]? = some nm) (tk : Takes X C.W) (hx : X.mg x = some (.ref (C.xa cm)))
    (hs : X.stack = X.env :: X.outer) (hf : X.env.frame = some X.env.locals) (hln : X.env.kindOf nm = some .local)
    (hb : ∀ (W : WX) (pn : List (Addr × Obj)) (xe : Value → Shared → Prop), Takes (X.tr pn xe) W → PassesOwn (model X.prog X.w) X.A X.env xe → QSs (X.tr pn xe) (C.by W) fr body g)
    (hsu : ∀ (a : Addr) (oe : Obj) (n : Nat) (pn : List (Addr × Obj)), Zc (.ref (C.xa n)) none oe → (∃ vs, oe.data = .fields vs) → QSs (X.suite a ((a, oe) :: pn)) (C.hot a n) fr (b₀ :: suite) h) (hg : Gl X x := by rfl) (hdb : (x == ("__debug__" : Str)) = false := by decide) :
    QS X C fr (.Try body [.ExceptHandler (some (.Name x np)) (some nm) (b₀ :: suite) pos'] [] [] pos) (sTry cnt (fun n => sub n cm) i g h) := by
  refine ps_imp (ps_try_as (tb := fun W => tS X.K (C.by W) fr g) (ts := fun a cls d => fun Dn σ H => ∃ n, cls = .ref (C.xa n) ∧ d = none ∧ tS X.K (C.hot a n) fr h Dn σ H) (Wout := C.W) hs hf hN hi hln ⟨hg, hdb, .inl hx⟩ tk hb
    (fun a oe cls d pn hz hfl => suite_of fun n h1 h2 => by subst h1 h2; exact hsu a oe n pn hz hfl)) fun Dn σ H ⟨G0, H0, G, env, sr, p⟩ => ?_
  refine ⟨G0, H0, G, env, ⟨⟨sr.er.es, sr.er.or, sr.er.fl, sr.er.fe⟩, sr.nf, sr.gh, sr.ex, sr.own, sr.sep⟩, ?_⟩
  have lift : ∀ {W : WX} {G H e σ}, SR X.K (C.by W) G0 H0 G H e σ → SR X.K C G0 H0 G H e σ := fun r => ⟨⟨r.er.es, r.er.or, r.er.fl, r.er.fe⟩, r.nf, r.gh, r.ex, r.own, r.sep⟩
  unfold sTry at p
  cases hg' : g env with
  | nx e => rw [hg'] at p; exact fun σ' G' H' r => p σ' G' H' (lift r)
  | bk e => rw [hg'] at p; exact fun σ' G' H' r => p σ' G' H' (lift r)
  | ct e => rw [hg'] at p; exact fun σ' G' H' r => p σ' G' H' (lift r)
  | rt d S => rw [hg'] at p; exact p
  | bad => rw [hg'] at p; exact p
  | ex n e =>
    rw [hg'] at p
    dsimp only at p
    by_cases hh : n < cnt ∧ noExc e.sl = true
    · rw [if_pos hh] at p
      intro σ' G' H' r
      refine ⟨sub n cm, T.exm n cm hh.1 hcm, fun hb a na => ?_, fun hb => ?_⟩
      · rw [if_pos hb] at p
        refine ⟨n, rfl, rfl, G0, H0, G', _, (lift r).setExc hh.2 a n i, ?_⟩
        cases ho : h (e.set i (.exc n)) with
        | nx e2 =>
          rw [ho] at p
          unfold Out.tryEnd at p
          dsimp only at p
          split at p
          · rename_i hq
            exact fun σ2 G2 H2 r2 => p _ G2 H2 (SR.dropExc r2 hq)
          · exact p.elim
        | bk e2 =>
          rw [ho] at p
          unfold Out.tryEnd at p
          dsimp only at p
          split at p
          · rename_i hq
            exact fun σ2 G2 H2 r2 => p _ G2 H2 (SR.dropExc r2 hq)
          · exact p.elim
        | ct e2 =>
          rw [ho] at p
          unfold Out.tryEnd at p
          dsimp only at p
          split at p
          · rename_i hq
            exact fun σ2 G2 H2 r2 => p _ G2 H2 (SR.dropExc r2 hq)
          · exact p.elim
        | rt d S => rw [ho] at p; exact p
        | ex k e2 => rw [ho] at p; exact p.elim
        | bad => rw [ho] at p; exact p.elim
      · rw [if_neg (by rw [hb]; exact Bool.false_ne_true)] at p
        exact p σ' G' H' (lift r)
    · rw [if_neg hh] at p
      exact p.elim
/-- isinstance(e, C), e the error that the suite holds -/
def eIsE (cnt : Nat) (sub : Nat → Nat → Bool) (i m : Nat) : Env → Res D := fun env => match env.sl[i]? with
  | some (.exc n) => if n < cnt then .ok (.bool (sub n m)) else .bad
  | _ => .bad
theorem q_isE {a : Addr} {n i cm : Nat} {oe : Obj} {pn : List (Addr × Obj)} {y : Str} {pe p3 : Pos} (T : XT X.K C.xa cnt sub) (hcm : cm < cnt) (hz : Zc (.ref (C.xa n)) none oe) (hf : ∃ vs, oe.data = .fields vs) (hgi : Gl X "isinstance") (hmi : X.mg "isinstance" = none) (hx : X.mg x = some (.ref (C.xa cm)))
    (hN : X.N[i]? = some y) (hg : Gl X x := by rfl) (hv : Vis X.env.scope y := by first | exact Or.inl rfl | exact Or.inr (Or.inl rfl) | exact Or.inr (Or.inr rfl)) (hd : (y == ("__debug__" : Str)) = false := by decide) (hcd : (y == ("__classdict__" : Str)) = false := by decide) (hdb : (x == ("__debug__" : Str)) = false := by decide)
    (he : starEach [.Name y pe, .Name x p3] X.env = (false, eval (.Name y pe) X.env) :: starEach [.Name x p3] X.env := by rfl) (he2 : starEach [.Name x p3] X.env = (false, eval (.Name x p3) X.env) :: starEach [] X.env := by rfl) (hpl : (backTo pos (starEach [.Name x p3] X.env)).any (·.1) = false := by rfl) :
    QE (X.suite a ((a, oe) :: pn)) (C.hot a n) (.Call (.Name "isinstance" p) [.Name y pe, .Name x p3] [] pos) (eIsE cnt sub i cm) := by
  by_cases hn : n < cnt
  · refine pe_imp (pe_callB (X := X.suite a ((a, oe) :: pn)) (call_isE (T.exc n hn) hz hf) hgi hmi boot_isinstance (pa_cons (pe_var hN hv hd hcd) (pa_cons (pe_glob (v := .ref (C.xa cm)) hg hx rfl hdb) pa_nil he2) he) (by decide) (by decide) he hpl) fun σ H Q ⟨G, env, s, er, p⟩ => ?_
    unfold eIsE at p
    split at p
    · rename_i m hm
      obtain ⟨h1, h2⟩ := er.es.exc i m hm
      have h2 : m = n := h2
      subst h2
      rw [if_pos hn] at p
      exact ⟨.ref a, h1, .ref (C.xa cm), .ref (C.xa cm), sub m cm, rfl, fun u hu => hu, T.kit m cm hn hcm, p _ G H (.refl s) (.bl _)⟩
    · exact p.elim
  · refine ⟨fun pins s σ H Q I ⟨G, env, sg, er, p⟩ => ?_⟩
    unfold eIsE at p
    split at p
    · rename_i m hm
      obtain ⟨h1, h2⟩ := er.es.exc i m hm
      have h2 : m = n := h2
      subst h2
      rw [if_neg hn] at p
      exact p.elim
    · exact p.elim
end
/-! ### constants of the module; the law -/
section
variable {X : Cx} {C : Cf} {pos : Pos} {x : Str}
theorem q_globI {v : Int} (h : ∃ t, X.mg x = some (.int v t)) (hg : Gl X x := by rfl) (hd : (x == ("__debug__" : Str)) = false := by decide) : QE X C (.Name x pos) (eC (.int v)) := by
  obtain ⟨t, h⟩ := h
  exact q_glob (v := .int v) hg h ⟨t, rfl⟩ (fun _ => .int v) hd
theorem q_globS {v : Str} (h : ∃ t, X.mg x = some (.str v t)) (hg : Gl X x := by rfl) (hd : (x == ("__debug__" : Str)) = false := by decide) : QE X C (.Name x pos) (eC (.str v)) := by
  obtain ⟨t, h⟩ := h
  exact q_glob (v := .str v) hg h ⟨t, rfl⟩ (fun _ => .str v) hd
theorem q_globD {d : D} (h : ∃ u v, X.mg x = some u ∧ RelV v u ∧ ∀ G, Rp X.K G v d) (hg : Gl X x := by rfl) (hd : (x == ("__debug__" : Str)) = false := by decide) : QE X C (.Name x pos) (eC d) := by
  obtain ⟨u, v, h, r, rp⟩ := h
  exact q_glob hg h r rp hd
end
theorem const_tup {K : PySem.W.Frag} {u : Addr} {od : Option Addr} {its : Array Value} {n : Nat} {sl : Array (Option Value)} {xs : List V} {ds : List D} (h : K.lookup u = some ⟨.type "tuple", od, .seq its n, sl⟩) (hs : its.size ≤ sizeLine) (hv : Vals xs its.toList) (hr : ∀ G, Rps K G xs ds) :
    ∀ G, Rp K G (.ref u) (.tuple ds) := fun G => .tup (.inr ⟨_, its, n, h, rfl, rfl, hs, hv⟩) (hr G)
def spLaw (K : PySem.W.Frag) : Sp := fun vs H Q _ => ∃ (a : Addr) (ns : List Int), vs = [.ref a] ∧ SqL K H a (ns.map V.int) ∧ ns.length ≤ 63 ∧ (∀ z ∈ ns, Builtin.Int.intBits z ≤ 1048576) ∧ ∀ H', Q (.bl true) H'
theorem law_ok {P : Program} {w : World} {K : PySem.W.Frag} {mg : Str → Option Value} {base : Heap} {xa : Nat → Addr} {T : CT} {k : Nat} {f : Addr} {fd : FuncData} {ps : List Str} {Fl : FT} (F : FnOk P w K mg base (L2.CX P w) k f fd ps (spF K T xa false Fl))
    (h : ∀ ns : List Int, ns.length ≤ 63 → (∀ z ∈ ns, Builtin.Int.intBits z ≤ 1048576) → ∃ S, Fl 0 [.scr ns] [] = .ok (.bool true) S) : FnOk P w K mg base (L2.CX P w) k f fd ps (spLaw K) :=
  F.imp fun vs H Q E ⟨a, ns, e, hS, hl, hb, q⟩ => ⟨0, ⟨H, []⟩, [], [.scr ns], Nat.le_refl _, .refl _, ⟨rfl, List.nodup_nil, fun n a r h1 _ => (by cases h1)⟩, fun n a _ h => (by cases h), by
    subst e
    exact .cons (.scr hS) .nil, by
    obtain ⟨S, hF⟩ := h ns hl hb
    rw [hF]
    intro v G' H' _ _ _ rp
    cases rp
    exact q H'⟩
theorem cx_never {P : Program} {w : World} {H : Hp} {s : Shared} {e : Value} {s' : Shared} (h : L2.CX P w [] H s (fun _ _ _ => False) e s') : False := by
  obtain ⟨_, _, _, _, _, _, _, _, _, _, _, _, z⟩ := h
  exact z
theorem kit_ref {K : PySem.W.Frag} {A B : Addr} {b : Bool} (hd : PySem.W.hasDictIn K B = true) (ht : PySem.W.typeIn K (.ref B) = some (.type "type")) (h4 : PySem.W.subIn K (.ref A) (.ref B) = some b) (hs : PySem.W.subIn K (.ref B) (.ref B) = some true) : PySem.W.kitOne K (.ref A) (.ref B) = some b := by
  unfold PySem.W.kitOne
  by_cases e : A = B
  · subst e
    rw [hs] at h4
    cases h4
    rw [if_pos (beq_self_eq_true _)]
  · rw [if_neg (by simpa using e)]
    obtain ⟨cd, hc, _⟩ := PySem.W.any_some hd
    have e2 : ((PySem.W.clsIn K B).isSome && PySem.W.typeIn K (.ref B) == some (.type "type")) = true := by rw [hc, ht] <;> rfl
    unfold PySem.W.kitCls
    dsimp only
    rw [if_pos e2]
    exact h4
theorem blk_of {N N' : List Str} {s s' sc : Scope} {own : List (Str × Nat)} (hN : N = N') (hs : s = s') (h : L2.blkC N' s' sc own = true) : L2.blkC N s sc own = true := by
  subst hN
  subst hs
  exact h
end L2.FO

set_option Elab.async false
set_option linter.all false
set_option maxRecDepth 100000
set_option maxHeartbeats 4000000
namespace L2.FO
open PySem PySem.Spec PyProof.Rows
/-! ### comprehensions with two fors -/
def wipeE (l : List Sl) : List Nat → List Sl
  | [] => l
  | v :: vs => (wipeE l vs).set v .no
theorem ES.no {K : PySem.W.Frag} {z : Addr × Nat} {G : Vw} {l : List Sl} {σ : St} (e : ES K z G l σ) (i : Nat) : ES K z G (l.set i .no) (σ.set i none) := by
  refine ⟨fun j d h => ?_, fun j n h => ?_, by rw [List.length_set, List.length_set]; exact e.len⟩
  · rcases set_get h with ⟨_, q, _⟩ | ⟨hj, h⟩
    · cases q
    · rw [List.getElem?_set_ne hj]
      exact e.val j d h
  · rcases set_get h with ⟨_, q, _⟩ | ⟨hj, h⟩
    · cases q
    · rw [List.getElem?_set_ne hj]
      exact e.exc j n h
theorem ES.wipe {K : PySem.W.Frag} {z : Addr × Nat} {G : Vw} {l : List Sl} {σ : St} (e : ES K z G l σ) : ∀ (vs : List Nat), ES K z G (wipeE l vs) (L2.wipe σ vs)
  | [] => e
  | v :: vs => (ES.wipe e vs).no v
def compR2 (t : Tg) (c : Env → Res Bool) (fi1 : Env → Res (List D)) (t1 : Tg) (c1 : Env → Res Bool) (f : Env → Res D) (env : Env) : List D → Res (List D)
  | [] => .ok []
  | d :: ds => match t.parts d with
    | none => .bad
    | some ps => (c (env.setE t.is ps)).nox.bind fun b => if b = true then (fi1 (env.setE t.is ps)).nox.bind fun ws => (compR t1 c1 f (env.setE t.is ps) ws).bind fun ys => (compR2 t c fi1 t1 c1 f env ds).bind fun zs => .ok (ys ++ zs) else compR2 t c fi1 t1 c1 f env ds
def eComp2 (vs : List Nat) (t : Tg) (fi : Env → Res (List D)) (c : Env → Res Bool) (fi1 : Env → Res (List D)) (t1 : Tg) (c1 : Env → Res Bool) (f : Env → Res D) : Env → Res (List D) := fun env => (fi env).bind fun ds => (compR2 t c fi1 t1 c1 f ⟨wipeE env.sl vs, env.st, env.fl⟩ ds).bind fit
section
variable {X : Cx} {C : Cf} {elt tg iter tg1 iter1 : Expr} {ifs ifs1 : List Expr} {scope : Scope} {own : List (Str × Nat)} {pos : Pos} {t t1 : Tg} {fi fi1 : Env → Res (List D)} {c c1 : Env → Res Bool} {f : Env → Res D} {vs : List Nat}
theorem compR2_noex : ∀ (ds : List D) {env : Env} (n : Nat), compR2 t c fi1 t1 c1 f env ds ≠ .ex n
  | [], _, n, h => by cases h
  | d :: ds, env, n, h => by
    unfold compR2 at h
    split at h
    · cases h
    · rename_i ps hp
      cases hc : c (env.setE t.is ps) with
      | bad => rw [hc] at h; cases h
      | ex m => rw [hc] at h; cases h
      | ok b =>
        rw [hc] at h
        have h : (if b = true then (fi1 (env.setE t.is ps)).nox.bind fun ws => (compR t1 c1 f (env.setE t.is ps) ws).bind fun ys => (compR2 t c fi1 t1 c1 f env ds).bind fun zs => Res.ok (ys ++ zs) else compR2 t c fi1 t1 c1 f env ds) = .ex n := h
        split at h
        · cases hf : fi1 (env.setE t.is ps) with
          | bad => rw [hf] at h; cases h
          | ex m => rw [hf] at h; cases h
          | ok ws =>
            rw [hf] at h
            have h : ((compR t1 c1 f (env.setE t.is ps) ws).bind fun ys => (compR2 t c fi1 t1 c1 f env ds).bind fun zs => Res.ok (ys ++ zs)) = .ex n := h
            cases hr : compR t1 c1 f (env.setE t.is ps) ws with
            | bad => rw [hr] at h; cases h
            | ex m => exact absurd hr (lc_post.compR_noex ws m)
            | ok ys =>
              rw [hr] at h
              have h : ((compR2 t c fi1 t1 c1 f env ds).bind fun zs => Res.ok (ys ++ zs)) = .ex n := h
              cases hz : compR2 t c fi1 t1 c1 f env ds with
              | bad => rw [hz] at h; cases h
              | ok zs => rw [hz] at h; cases h
              | ex m =>
                rw [hz] at h
                cases h
                exact compR2_noex ds _ hz
        · exact compR2_noex ds _ h
theorem setV_wipeE {is vs : List Nat} {ws : List V} {ds : List D} {σ : St} {K : PySem.W.Frag} {z : Addr × Nat} {G : Vw} {l : List Sl} (e : ES K z G l σ) (r : Rps K G ws ds) : ES K z G (setE (wipeE l vs) is ds) (setV (L2.wipe σ vs) is ws) := (e.wipe vs).setAll r
theorem lc2_post {σ : St} {H : Hp} {Q : VK} (hown : own.map (·.2) = vs) (hv2 : ∀ i ∈ t.is, i ∈ vs) (hv3 : ∀ i ∈ t1.is, i ∈ vs)
    (h : tXf X.K C (eComp2 vs t fi c fi1 t1 c1 f) σ H Q) : tLc2 (tXi X.K C fi) (t.g X.K) (tXb X.K C.quiet c) (tXi X.K C.quiet fi1) (t1.g X.K) (tXb X.K C.quiet c1) (tX X.K C.quiet f) (own.map (·.2)) t1.is σ H Q := by
  rw [hown]
  obtain ⟨G, env, s, er, p⟩ := h
  refine ⟨G, env, s, er, PostF.bind p fun ds J G1 H1 e1 wk p1 => ?_⟩
  intro Dn hD
  generalize hw : (⟨wipeE env.sl vs, env.st, env.fl⟩ : Env) = ew at p1
  let word (rest : Res (List D)) (H' : Hp) : Prop := ∃ Gc acc da, Ext G1 H1 Gc H' ∧ Gc.h Dn = none ∧ H' Dn = some (.lst acc) ∧ Rps X.K Gc acc da ∧
    PostF X.K (C.xw σ) G1 H1 Q (rest.bind fun ys => fit (da ++ ys))
  have w0 : word (compR2 t c fi1 t1 c1 f ew (ds.drop 0)) (upd H1 Dn (.lst [])) := ⟨G1, [], [], Ext.newH e1.gh hD, e1.gh.free hD, upd_same, .nil, p1⟩
  refine ⟨fun i m H' => m = ds.length - i ∧ i ≤ ds.length ∧ word (compR2 t c fi1 t1 c1 f ew (ds.drop i)) H', ⟨_, rfl, Nat.zero_le _, w0⟩, ?_⟩
  rintro i m H' ⟨rfl, hi, Gc, acc, da, x1, gD, hDl, rda, pp⟩
  by_cases hlt : i < ds.length
  · refine .inr ⟨wk.go i H' (x1.gg.trans x1.gh) hlt, word (compR2 t c fi1 t1 c1 f ew (ds.drop (i + 1))), fun H'' w => ⟨ds.length - (i + 1), by omega, rfl, hlt, w⟩, fun x H2 hy => ?_⟩
    obtain ⟨d, hd⟩ : ∃ d, ds[i]? = some d := ⟨_, List.getElem?_eq_getElem hlt⟩
    have hdrop : ds.drop i = d :: ds.drop (i + 1) := by
      rw [List.drop_eq_getElem_cons hlt]
      congr 1
      rw [List.getElem?_eq_getElem hlt] at hd
      exact Option.some.inj hd
    obtain ⟨Gd, eg, rd⟩ := wk.yl i H' x H2 d Gc x1.le x1.gh hy hd
    rw [hdrop] at pp
    unfold compR2 at pp
    cases hp : t.parts d with
    | none =>
      rw [hp] at pp
      exact pp.elim
    | some ps =>
      rw [hp] at pp
      dsimp only at pp
      refine Tg.run eg.gh rd hp fun ws rw_ => ?_
      have hwl : ws.length = t.is.length := rw_.length.trans (parts_len hp)
      refine ⟨by rw [wipe_setV hv2, wipe_wipe fun i hi => hi], ?_⟩
      have er0 := er.ext ((e1.trans x1).trans eg)
      have er' : ER X.K C.quiet Gd H2 (ew.setE t.is ps) (setV (L2.wipe σ vs) t.is ws) := by
        subst hw
        exact ⟨setV_wipeE er0.es rw_, er0.or, er0.fl, er0.fe⟩
      refine ⟨Gd, _, eg.gh, er', ?_⟩
      cases hc : c (ew.setE t.is ps) with
      | bad =>
        rw [hc] at pp
        exact pp.elim
      | ex n =>
        rw [hc] at pp
        exact pp.elim
      | ok b =>
        rw [hc] at pp
        have pp : PostF X.K (C.xw σ) G1 H1 Q ((if b = true then (fi1 (ew.setE t.is ps)).nox.bind fun ws => (compR t1 c1 f (ew.setE t.is ps) ws).bind fun ys => (compR2 t c fi1 t1 c1 f ew (ds.drop (i + 1))).bind fun zs => Res.ok (ys ++ zs) else compR2 t c fi1 t1 c1 f ew (ds.drop (i + 1))).bind fun ys => fit (da ++ ys)) := pp
        intro b' G3 H3 e3 eb
        have eb' : b = b' := eb.symm
        subst eb'
        have ee := eg.trans e3
        have er3 := er'.ext e3
        cases b with
        | false =>
          rw [if_neg Bool.false_ne_true] at pp ⊢
          exact ⟨G3, acc, da, x1.trans ee, ee.keepN gD hDl, ee.hh _ _ hDl, rda.same ee.le, pp⟩
        | true =>
          rw [if_pos rfl] at pp ⊢
          refine ⟨G3, _, e3.gh, er3, ?_⟩
          cases hf : fi1 (ew.setE t.is ps) with
          | bad =>
            rw [hf] at pp
            exact pp.elim
          | ex n =>
            rw [hf] at pp
            exact pp.elim
          | ok es =>
            rw [hf] at pp
            have pp : PostF X.K (C.xw σ) G1 H1 Q (((compR t1 c1 f (ew.setE t.is ps) es).bind fun ys => (compR2 t c fi1 t1 c1 f ew (ds.drop (i + 1))).bind fun zs => Res.ok (ys ++ zs)).bind fun ys => fit (da ++ ys)) := pp
            intro J1 G4 H4 e4 wk1
            -- the inner loop
            let rest (j : Nat) : Res (List D) := (compR t1 c1 f (ew.setE t.is ps) (es.drop j)).bind fun ys => (compR2 t c fi1 t1 c1 f ew (ds.drop (i + 1))).bind fun zs => Res.ok (ys ++ zs)
            have ee4 := ee.trans e4
            let word1 (j : Nat) (H' : Hp) : Prop := ∃ Gc acc da, Ext G1 H1 Gc H' ∧ Le G4 Gc ∧ Gc.h Dn = none ∧ H' Dn = some (.lst acc) ∧ Rps X.K Gc acc da ∧ ER X.K C.quiet Gc H' (ew.setE t.is ps) (setV (L2.wipe σ vs) t.is ws) ∧ PostF X.K (C.xw σ) G1 H1 Q ((rest j).bind fun ys => fit (da ++ ys))
            have w1 : word1 0 H4 := ⟨G4, acc, da, x1.trans ee4, .refl _, ee4.keepN gD hDl, ee4.hh _ _ hDl, rda.same ee4.le, er3.ext e4, pp⟩
            refine ⟨fun j k H' => k = es.length - j ∧ j ≤ es.length ∧ word1 j H', ⟨_, rfl, Nat.zero_le _, w1⟩, ?_⟩
            rintro j k H5 ⟨rfl, hj, Gc5, acc5, da5, x5, l5, gD5, hD5, rda5, er5, pp5⟩
            by_cases hlt1 : j < es.length
            · refine .inr ⟨wk1.go j H5 (l5.h.trans x5.gh) hlt1, word1 (j + 1), fun H'' w => ⟨es.length - (j + 1), by omega, rfl, hlt1, w⟩, fun x H6 hy6 => ?_⟩
              obtain ⟨d6, hd6⟩ : ∃ d, es[j]? = some d := ⟨_, List.getElem?_eq_getElem hlt1⟩
              have hdrop6 : es.drop j = d6 :: es.drop (j + 1) := by
                rw [List.drop_eq_getElem_cons hlt1]
                congr 1
                rw [List.getElem?_eq_getElem hlt1] at hd6
                exact Option.some.inj hd6
              obtain ⟨G6, eg6, rd6⟩ := wk1.yl j H5 x H6 d6 Gc5 l5 x5.gh hy6 hd6
              have pp5 : PostF X.K (C.xw σ) G1 H1 Q (((compR t1 c1 f (ew.setE t.is ps) (es.drop j)).bind fun ys => (compR2 t c fi1 t1 c1 f ew (ds.drop (i + 1))).bind fun zs => Res.ok (ys ++ zs)).bind fun ys => fit (da5 ++ ys)) := pp5
              rw [hdrop6] at pp5
              unfold compR at pp5
              cases hp6 : t1.parts d6 with
              | none =>
                rw [hp6] at pp5
                exact pp5.elim
              | some ps6 =>
                rw [hp6] at pp5
                dsimp only at pp5
                refine Tg.run eg6.gh rd6 hp6 fun ws6 rw6 => ?_
                have hwl6 : ws6.length = t1.is.length := rw6.length.trans (parts_len hp6)
                rw [setV_wipe (fun i hi => hi) hwl6]
                refine ⟨wipe_setV fun i hi => hi, ?_⟩
                have er6 : ER X.K C.quiet G6 H6 ((ew.setE t.is ps).setE t1.is ps6) (setV (setV (L2.wipe σ vs) t.is ws) t1.is ws6) := (er5.ext eg6).setAll rw6
                refine ⟨G6, _, eg6.gh, er6, ?_⟩
                cases hc6 : c1 ((ew.setE t.is ps).setE t1.is ps6) with
                | bad => rw [hc6] at pp5; exact pp5.elim
                | ex n => rw [hc6] at pp5; exact pp5.elim
                | ok b =>
                  rw [hc6] at pp5
                  have pp5 : PostF X.K (C.xw σ) G1 H1 Q (((if b = true then (f ((ew.setE t.is ps).setE t1.is ps6)).nox.bind fun y => (compR t1 c1 f (ew.setE t.is ps) (es.drop (j + 1))).bind fun ys => .ok (y :: ys) else compR t1 c1 f (ew.setE t.is ps) (es.drop (j + 1))).bind fun ys => (compR2 t c fi1 t1 c1 f ew (ds.drop (i + 1))).bind fun zs => Res.ok (ys ++ zs)).bind fun ys => fit (da5 ++ ys)) := pp5
                  intro b' G7 H7 e7 eb
                  have eb' : b = b' := eb.symm
                  subst eb'
                  have ee7 := eg6.trans e7
                  cases b with
                  | false =>
                    rw [if_neg Bool.false_ne_true] at pp5 ⊢
                    exact ⟨G7, acc5, da5, x5.trans ee7, l5.trans ee7.le, ee7.keepN gD5 hD5, ee7.hh _ _ hD5, rda5.same ee7.le, er5.ext ee7, pp5⟩
                  | true =>
                    rw [if_pos rfl] at pp5 ⊢
                    refine ⟨G7, _, e7.gh, er6.ext e7, ?_⟩
                    cases hf7 : f ((ew.setE t.is ps).setE t1.is ps6) with
                    | bad => rw [hf7] at pp5; exact pp5.elim
                    | ex n => rw [hf7] at pp5; exact pp5.elim
                    | ok y =>
                      rw [hf7] at pp5
                      have pp5 : PostF X.K (C.xw σ) G1 H1 Q ((((compR t1 c1 f (ew.setE t.is ps) (es.drop (j + 1))).bind fun ys => Res.ok (y :: ys)).bind fun ys => (compR2 t c fi1 t1 c1 f ew (ds.drop (i + 1))).bind fun zs => Res.ok (ys ++ zs)).bind fun ys => fit (da5 ++ ys)) := pp5
                      intro yv G8 H8 e8 ry
                      have ee8 := ee7.trans e8
                      have hD8 : H8 Dn = some (.lst acc5) := ee8.hh _ _ hD5
                      have gD8 : G8.h Dn = none := ee8.keepN gD5 hD5
                      have pp6 : PostF X.K (C.xw σ) G1 H1 Q ((rest (j + 1)).bind fun ys => fit ((da5 ++ [y]) ++ ys)) := by
                        show PostF X.K (C.xw σ) G1 H1 Q (((compR t1 c1 f (ew.setE t.is ps) (es.drop (j + 1))).bind fun ys => (compR2 t c fi1 t1 c1 f ew (ds.drop (i + 1))).bind fun zs => Res.ok (ys ++ zs)).bind fun ys => fit ((da5 ++ [y]) ++ ys))
                        cases hr : compR t1 c1 f (ew.setE t.is ps) (es.drop (j + 1)) with
                        | bad => rw [hr] at pp5; exact pp5.elim
                        | ex n => exact absurd hr (lc_post.compR_noex _ n)
                        | ok ys =>
                          rw [hr] at pp5
                          have pp5 : PostF X.K (C.xw σ) G1 H1 Q (((compR2 t c fi1 t1 c1 f ew (ds.drop (i + 1))).bind fun zs => Res.ok ((y :: ys) ++ zs)).bind fun ys => fit (da5 ++ ys)) := pp5
                          show PostF X.K (C.xw σ) G1 H1 Q (((compR2 t c fi1 t1 c1 f ew (ds.drop (i + 1))).bind fun zs => Res.ok (ys ++ zs)).bind fun ys => fit ((da5 ++ [y]) ++ ys))
                          cases hz : compR2 t c fi1 t1 c1 f ew (ds.drop (i + 1)) with
                          | bad => rw [hz] at pp5; exact pp5.elim
                          | ex n => exact absurd hz (compR2_noex _ n)
                          | ok zs =>
                            rw [hz] at pp5
                            have pp5 : PostF X.K (C.xw σ) G1 H1 Q (fit (da5 ++ ((y :: ys) ++ zs))) := pp5
                            show PostF X.K (C.xw σ) G1 H1 Q (fit ((da5 ++ [y]) ++ (ys ++ zs)))
                            rw [List.append_assoc]
                            exact pp5
                      have hz : acc5.length < sizeLine := by
                        rw [rda5.length]
                        cases hr : rest (j + 1) with
                        | bad => rw [hr] at pp6; exact pp6.elim
                        | ex n =>
                          have hr : ((compR t1 c1 f (ew.setE t.is ps) (es.drop (j + 1))).bind fun ys => (compR2 t c fi1 t1 c1 f ew (ds.drop (i + 1))).bind fun zs => Res.ok (ys ++ zs)) = .ex n := hr
                          cases h1 : compR t1 c1 f (ew.setE t.is ps) (es.drop (j + 1)) with
                          | bad => rw [h1] at hr; cases hr
                          | ex n => exact absurd h1 (lc_post.compR_noex _ n)
                          | ok ys =>
                            rw [h1] at hr
                            have hr : ((compR2 t c fi1 t1 c1 f ew (ds.drop (i + 1))).bind fun zs => Res.ok (ys ++ zs)) = .ex n := hr
                            cases h2 : compR2 t c fi1 t1 c1 f ew (ds.drop (i + 1)) with
                            | bad => rw [h2] at hr; cases hr
                            | ex n => exact absurd h2 (compR2_noex _ n)
                            | ok zs => rw [h2] at hr; cases hr
                        | ok ys =>
                          rw [hr] at pp6
                          have pp6 : PostF X.K (C.xw σ) G1 H1 Q (fit ((da5 ++ [y]) ++ ys)) := pp6
                          have := (fit_postF pp6).2
                          simp only [List.length_append, List.length_cons, List.length_nil] at this
                          omega
                      have xx := (x5.trans ee8).upd_own (o := HO.lst (acc5 ++ [yv])) hD gD8
                      have er8 := er5.ext ee8
                      refine ⟨acc5, hD8, hz, G8, acc5 ++ [yv], da5 ++ [y], xx, l5.trans ee8.le, gD8, upd_same, (rda5.same ee8.le).append (.cons ry .nil), ⟨er8.es, ⟨er8.or.ln, er8.or.nd, fun m b rc q1 q2 => (er8.or.ok m b rc q1 q2).mono (.refl _) fun o q => ?_⟩, er8.fl, er8.fe⟩, pp6⟩
                      have hb : b ≠ Dn := fun z => by
                        subst z
                        have hm : b ∈ G1.ad := by
                          rw [← (x5.trans ee8).ad]
                          exact List.mem_of_getElem? q1
                        exact (er.ext e1).or.mem hm hD
                      rw [upd_ne hb]
                      exact q
            · have ej : j = es.length := by omega
              subst ej
              refine .inl ⟨wk1.st _ H5 (l5.h.trans x5.gh) rfl, Gc5, acc5, da5, x5, gD5, hD5, rda5, ?_⟩
              have pp5 : PostF X.K (C.xw σ) G1 H1 Q (((compR t1 c1 f (ew.setE t.is ps) (es.drop es.length)).bind fun ys => (compR2 t c fi1 t1 c1 f ew (ds.drop (i + 1))).bind fun zs => Res.ok (ys ++ zs)).bind fun ys => fit (da5 ++ ys)) := pp5
              rw [List.drop_length] at pp5
              have pp5 : PostF X.K (C.xw σ) G1 H1 Q (((compR2 t c fi1 t1 c1 f ew (ds.drop (i + 1))).bind fun zs => Res.ok ([] ++ zs)).bind fun ys => fit (da5 ++ ys)) := pp5
              cases hz : compR2 t c fi1 t1 c1 f ew (ds.drop (i + 1)) with
              | bad => rw [hz] at pp5; exact pp5.elim
              | ex n => exact absurd hz (compR2_noex _ n)
              | ok zs => rw [hz] at pp5; exact pp5
  · have ei : i = ds.length := by omega
    subst ei
    refine .inl ⟨wk.st _ H' (x1.gg.trans x1.gh) rfl, ?_⟩
    rw [List.drop_length] at pp
    have pp : PostF X.K (C.xw σ) G1 H1 Q (fit (da ++ [])) := pp
    rw [List.append_nil] at pp
    exact (fit_postF pp).1 Dn acc Gc H' x1 hD gD hDl rda
theorem qf_comp2 (hc : X.calm = true) (hN : X.N.Nodup) (hi : QI X C tg iter fi) (ok : BlkOk X.N X.env.scope scope own)
    (hg : ∀ (s : Shared) (H : Hp) (Cc : Addr) (cl : List (Str × Addr)) (fp : List Addr), QG (X.blk s H scope (compEnvC scope cl Cc X.env) fp) tg t) (ht : ∀ (s : Shared) (H : Hp) (Cc : Addr) (cl : List (Str × Addr)) (fp : List Addr), QTs (X.blk s H scope (compEnvC scope cl Cc X.env) fp) C.quiet ifs c)
    (hi1 : ∀ (s : Shared) (H : Hp) (Cc : Addr) (cl : List (Str × Addr)) (fp : List Addr), QI (X.blk s H scope (compEnvC scope cl Cc X.env) fp) C.quiet tg1 iter1 fi1)
    (hg1 : ∀ (s : Shared) (H : Hp) (Cc : Addr) (cl : List (Str × Addr)) (fp : List Addr), QG (X.blk s H scope (compEnvC scope cl Cc X.env) fp) tg1 t1) (ht1 : ∀ (s : Shared) (H : Hp) (Cc : Addr) (cl : List (Str × Addr)) (fp : List Addr), QTs (X.blk s H scope (compEnvC scope cl Cc X.env) fp) C.quiet ifs1 c1)
    (he : ∀ (s : Shared) (H : Hp) (Cc : Addr) (cl : List (Str × Addr)) (fp : List Addr), QE (X.blk s H scope (compEnvC scope cl Cc X.env) fp) C.quiet elt f) (hown : own.map (·.2) = vs) (hv2 : ∀ i ∈ t.is, i ∈ vs) (hv3 : ∀ i ∈ t1.is, i ∈ vs)
    (hs : ∀ x, foldedSetIterable iter X.env x = pure x := by intro _; rfl) (hs1 : ∀ env x, foldedSetIterable iter1 env x = pure x := by intro _ _; rfl) :
    QF X C (.ListComp elt [⟨tg, iter, ifs, 0⟩, ⟨tg1, iter1, ifs1, 0⟩] scope pos) (eComp2 vs t fi c fi1 t1 c1 f) :=
  pe_imp (pe_lc2 hc hN hi ok (fun i hi => by rw [hown]; exact hv3 i hi) hg ht hi1 hg1 ht1 he hs hs1) fun _ _ _ h => lc2_post hown hv2 hv3 h
theorem qs_setLc2 {fr : Bool} {i : Nat} {x : Str} {pos' lpos : Pos} {gg : Env → Out} (hc : X.calm = true) (hN : X.N.Nodup) (hix : X.N[i]? = some x) (hyl : X.env.scope.names.lookup x = some .local)
    (hsw : swapsWith (.ListComp elt [⟨tg, iter, ifs, 0⟩, ⟨tg1, iter1, ifs1, 0⟩] scope lpos) (some (.Name x pos')) pos.line X.env = pure true) (hi : QI X C tg iter fi) (ok : BlkOk X.N X.env.scope scope own)
    (hg : ∀ (s : Shared) (H : Hp) (Cc : Addr) (cl : List (Str × Addr)) (fp : List Addr), QG (X.blk s H scope (compEnvC scope cl Cc X.env) fp) tg t) (ht : ∀ (s : Shared) (H : Hp) (Cc : Addr) (cl : List (Str × Addr)) (fp : List Addr), QTs (X.blk s H scope (compEnvC scope cl Cc X.env) fp) C.quiet ifs c)
    (hi1 : ∀ (s : Shared) (H : Hp) (Cc : Addr) (cl : List (Str × Addr)) (fp : List Addr), QI (X.blk s H scope (compEnvC scope cl Cc X.env) fp) C.quiet tg1 iter1 fi1)
    (hg1 : ∀ (s : Shared) (H : Hp) (Cc : Addr) (cl : List (Str × Addr)) (fp : List Addr), QG (X.blk s H scope (compEnvC scope cl Cc X.env) fp) tg1 t1) (ht1 : ∀ (s : Shared) (H : Hp) (Cc : Addr) (cl : List (Str × Addr)) (fp : List Addr), QTs (X.blk s H scope (compEnvC scope cl Cc X.env) fp) C.quiet ifs1 c1)
    (he : ∀ (s : Shared) (H : Hp) (Cc : Addr) (cl : List (Str × Addr)) (fp : List Addr), QE (X.blk s H scope (compEnvC scope cl Cc X.env) fp) C.quiet elt f) (hown : own.map (·.2) = vs) (hv2 : ∀ i ∈ t.is, i ∈ vs) (hv3 : ∀ i ∈ t1.is, i ∈ vs)
    (hgo : ∀ Dn σ H, tS X.K C fr gg Dn σ H → tAsg (tXf X.K C (eComp2 vs t fi c fi1 t1 c1 f)) (gName i) Dn σ H)
    (hs : ∀ x, foldedSetIterable iter X.env x = pure x := by intro _; rfl) (hs1 : ∀ env x, foldedSetIterable iter1 env x = pure x := by intro _ _; rfl) :
    QS X C fr (.Assign [.Name x pos'] (.ListComp elt [⟨tg, iter, ifs, 0⟩, ⟨tg1, iter1, ifs1, 0⟩] scope lpos) pos) gg :=
  ps_imp (ps_setLc2 hc hN hix hyl hsw hi ok (fun i hi => by rw [hown]; exact hv3 i hi) hg ht hi1 hg1 ht1 he hs hs1) fun Dn σ H h => lc2_post hown hv2 hv3 (hgo Dn σ H h)
end
end L2.FO

set_option Elab.async false
set_option linter.all false
set_option maxRecDepth 100000
set_option maxHeartbeats 4000000
namespace L2.FO
open PySem PySem.Spec PyProof.Rows
/-! ### zip of a list and a tuple, of a tuple and a list, of any two -/
/-- one side of a zip: what its iterator goes over -/
structure Side (K : PySem.W.Frag) (i a : Addr) (S : Hp → List V → Prop) (T : Nat → Heap → Prop) (L : Heap → List Value → Prop) : Prop where
  obj : ∀ k h, T k h → ∃ o, h.get? i = some o ∧ ∀ v, o.data ≠ .cell v
  keep : ∀ k h h', T k h → (∀ o, h.get? i = some o → h'.get? i = some o) → T k h'
  seen : ∀ (X : Cx), X.K = K → ∀ (pins : List (Addr × Obj)) (σ : St) (H : Hp) (s : Shared) (xs : List V), Inv X pins σ H s → S H xs → ∃ its : List Value, Vals xs its ∧ L s.heap its
  inj : ∀ (X : Cx), X.K = K → ∀ (pins : List (Addr × Obj)) (σ : St) (H : Hp) (s : Shared) (xs ys : List V), Inv X pins σ H s → S H xs → S H ys → xs = ys
  dr : ∀ (P : Program) (w : World) (A : Around), A.handled = none → ∀ its : List Value, Draws P w A i [i, a] its.length (fun j v => its[j]? = some v) (fun k h => T k h ∧ L h its)
theorem side_list {K : PySem.W.Frag} {i a : Addr} (hne : a ≠ i) : Side K i a (fun H xs => SqL K H a xs) (fun k h => h.IsListIter i a k) (fun h its => h.IsList a its.toArray) where
  obj k h := fun ⟨o, e, _, d⟩ => ⟨o, e, fun v q => by rw [d] at q; cases q⟩
  keep k h h' x f := x.at f
  seen X hK pins σ H s xs I hs := by
    subst hK
    obtain ⟨its, rv, p, _⟩ := I.list hs
    exact ⟨its, rv, p.isList⟩
  inj X hK pins σ H s xs ys I h1 h2 := by
    subst hK
    exact I.list_inj h1 h2
  dr P w A hh its := by
    have := Draws.list (prog := P) (w := w) hh i a hne its.toArray
    simpa using this
theorem side_tup {K : PySem.W.Frag} {i a : Addr} (hne : a ≠ i) : Side K i a (fun H xs => SqT K H a xs) (fun k h => h.IsTupleIter i a k) (fun h its => h.IsTuple a its.toArray) where
  obj k h := fun ⟨o, e, _, d⟩ => ⟨o, e, fun v q => by rw [d] at q; cases q⟩
  keep k h h' x f := x.at f
  seen X hK pins σ H s xs I hs := by
    subst hK
    obtain ⟨its, rv, p, _⟩ := I.tuple hs
    exact ⟨its, rv, p⟩
  inj X hK pins σ H s xs ys I h1 h2 := by
    subst hK
    exact I.tuple_inj h1 h2
  dr P w A hh its := by
    have := Draws.tuple (prog := P) (w := w) hh i a hne its.toArray
    simpa using this
def ItS (S1 S2 : Hp → List V → Prop) : It :=
  ⟨fun i H => ∃ (xs ys : List V) (x y : V), S1 H xs ∧ S2 H ys ∧ xs[i]? = some x ∧ ys[i]? = some y,
    fun i H v H' => ∃ T x y, v = .ref T ∧ H T = none ∧ H' = upd H T (.tup [x, y]) ∧ (∀ xs, S1 H xs → xs[i]? = some x) ∧ ∀ ys, S2 H ys → ys[i]? = some y,
    fun i H => ∃ xs ys : List V, S1 H xs ∧ S2 H ys ∧ i = min xs.length ys.length⟩
theorem turn_zipS {P : Program} {w : World} {K : PySem.W.Frag} {elts : List Expr} {kk : Nat} {tpos : Pos} {a b z TI TO i1 i2 : Addr} {S1 S2 : Hp → List V → Prop} {T1 T2 : Nat → Heap → Prop} {L1 L2 : Heap → List Value → Prop} (s1 : Side K i1 a S1 T1 L1) (s2 : Side K i2 b S2 T2 L2) (D : ZipSep2 z TI TO i1 i2 [i1, a] [i2, b]) :
    Turn P w K (.Tuple elts kk tpos) (ItS S1 S2) [z, TI, TO, i1, i2] z (fun k h => (IsZip h z TI TO .none ∧ IsPair h TI (.ref i1) (.ref i2) ∧ ∃ x y, IsPair h TO x y) ∧ T1 k h ∧ T2 k h) where
  mem := List.mem_cons_self
  obj k h := fun ⟨⟨hz, hTI, x, y, hTO⟩, t1, t2⟩ c hc => by
    simp only [List.mem_cons, List.not_mem_nil, or_false] at hc
    rcases hc with rfl | rfl | rfl | rfl | rfl
    · exact ⟨_, hz, fun v q => nomatch q⟩
    · exact ⟨_, hTI, fun v q => nomatch q⟩
    · exact ⟨_, hTO, fun v q => nomatch q⟩
    · exact s1.obj k h t1
    · exact s2.obj k h t2
  keep k h h' := fun ⟨⟨hz, hTI, x, y, hTO⟩, t1, t2⟩ f => ⟨⟨f z (by simp) _ hz, f TI (by simp) _ hTI, x, y, f TO (by simp) _ hTO⟩, s1.keep k h h' t1 (f i1 (by simp)), s2.keep k h h' t2 (f i2 (by simp))⟩
  item := by
    intro X hP hw hK hc k pins s σ H E I hf ⟨⟨hz, hTI, x0, y0, hTO⟩, t1, t2⟩ ⟨xs, ys, x, y, q1, q2, hx, hy⟩
    obtain ⟨its1, v1, l1⟩ := s1.seen X hK pins σ H s xs I q1
    obtain ⟨its2, v2, l2⟩ := s2.seen X hK pins σ H s ys I q2
    obtain ⟨u1, hu1, r1⟩ := v1.get hx
    obtain ⟨u2, hu2, r2⟩ := v2.get hy
    subst hP hw
    have hzl := Heap.lt_size hz
    have hfree : (X.A.in1).handled = none := I.ok.hd hc
    refine wpAny_pyNext_zipD2_item D (s1.dr _ _ _ hfree its1) (s2.dr _ _ _ hfree its2) hz hTI hTO ⟨t1, l1⟩ ⟨t2, l2⟩ (List.getElem?_eq_some_iff.mp hu1).1 (List.getElem?_eq_some_iff.mp hu2).1 fun w1 w2 h' tk p1 p2 z' TO' n1 n2 hT hsz hk => ?_
    cases hu1.symm.trans p1
    cases hu2.symm.trans p2
    refine ⟨_, rfl, wpAny_letOwnedTupleGo_zip (s := { s with heap := h', toks := tk }) z' fun h'' z'' sb => ?_⟩
    have away : ∀ c, c ≠ z → ∀ o, h'.get? c = some o → h''.get? c = some o := fun c hc o q => (sb.2 _ hc).trans q
    have hT2 : h''.get? s.heap.objs.size = some { cls := .type "tuple", data := .seq #[u1, u2] } := away _ (Nat.ne_of_gt hzl) _ hT
    have fr : H s.heap.objs.size = none := I.hok.fresh (Nat.le_refl _)
    have I1 : Inv X pins σ (upd H s.heap.objs.size (.tup [x, y])) { s with heap := h'', toks := tk } :=
      I.turnedNew (t' := tk) (ch := [z, TI, TO, i1, i2]) (fun c o hb q => by
        simp only [List.mem_cons, List.not_mem_nil, or_false, not_or] at hb
        obtain ⟨b1, b2, b3, b4, b5⟩ := hb
        exact away c b1 o (hk c o b1 b3 b4 b5 q)) hf (Nat.le_refl _) ⟨by show 2 ≤ sizeLine; decide, [u1, u2], .cons r1 (.cons r2 .nil), ⟨_, hT2, rfl, _, rfl⟩⟩
    refine ⟨.ref s.heap.objs.size, _, I1, rfl, ⟨_, x, y, rfl, fr, rfl, fun l hl => by rw [s1.inj X hK pins σ H s _ _ I hl q1]; exact hx, fun l hl => by rw [s2.inj X hK pins σ H s _ _ I hl q2]; exact hy⟩, ⟨⟨z'', away _ D.TIz _ (hk _ _ D.TIz D.TITO D.TIi1 D.TIi2 hTI), u1, u2, away _ D.TOz _ TO'⟩, s1.keep _ _ _ n1.1 (away i1 D.zi1.symm), s2.keep _ _ _ n2.1 (away i2 D.zi2.symm)⟩, fun c hcm => ?_⟩
    have old : H c = none := (hf c hcm).1
    have hlt : c ≠ s.heap.objs.size := by
      have live : ∃ o, s.heap.get? c = some o := by
        simp only [List.mem_cons, List.not_mem_nil, or_false] at hcm
        rcases hcm with rfl | rfl | rfl | rfl | rfl
        · exact ⟨_, hz⟩
        · exact ⟨_, hTI⟩
        · exact ⟨_, hTO⟩
        · exact (s1.obj _ _ t1).imp fun _ q => q.1
        · exact (s2.obj _ _ t2).imp fun _ q => q.1
      obtain ⟨o, q⟩ := live
      exact Nat.ne_of_lt (Heap.lt_size q)
    rw [upd_ne hlt, old]
  done := by
    intro X hP hw hK hc k pins s σ H E I hf ⟨⟨hz, hTI, x0, y0, hTO⟩, t1, t2⟩ ⟨xs, ys, q1, q2, he⟩
    obtain ⟨its1, v1, l1⟩ := s1.seen X hK pins σ H s xs I q1
    obtain ⟨its2, v2, l2⟩ := s2.seen X hK pins σ H s ys I q2
    have e1 := v1.length
    have e2 := v2.length
    subst hP hw
    have hfree : (X.A.in1).handled = none := I.ok.hd hc
    refine wpAny_pyNext_zipD2_end D (s1.dr _ _ _ hfree its1) (s2.dr _ _ _ hfree its2) hz hTI hTO ⟨t1, l1⟩ ⟨t2, l2⟩ (by omega) (by omega) (by omega) fun h' tk hk => ⟨rfl, I.turnedL (t' := tk) (ch := [z, TI, TO, i1, i2]) (fun c o hb q => ?_) hf⟩
    simp only [List.mem_cons, List.not_mem_nil, or_false, not_or] at hb
    exact hk c o hb.1 hb.2.2.1 hb.2.2.2.1 hb.2.2.2.2 q
  self := fun A i s Q E st h => wpAny_pyIter_zip st.1.1 h
section
variable {X : Cx} {C : Cf} {e e' : Expr} {fs : Env → Res (List D)} {p pos tpos : Pos} {elts : List Expr} {kk : Nat}
theorem run_zipS {pins : List (Addr × Obj)} {σ : St} {H : Hp} {s : Shared} {R : It → Hp → Prop} {a b : Addr} {S1 S2 : Hp → List V → Prop} {T1 T2 : Addr → Nat → Heap → Prop} {L1 L2 : Heap → List Value → Prop} {o1 o2 : Obj} {its1 its2 : List Value}
    (k1 : ∀ i, a ≠ i → Side X.K i a S1 (T1 i) L1) (k2 : ∀ i, b ≠ i → Side X.K i b S2 (T2 i) L2) (B1 : Begins (.ref a) o1 fun h => L1 h its1) (B2 : Begins (.ref b) o2 fun h => L2 h its2)
    (b1 : ∀ (i : Addr) (h : Heap), h.get? i = some o1 → T1 i 0 h) (b2 : ∀ (i : Addr) (h : Heap), h.get? i = some o2 → T2 i 0 h) (I : Inv X pins σ H s) (l1 : L1 s.heap its1) (l2 : L2 s.heap its2) (lt1 : a < s.heap.objs.size) (lt2 : b < s.heap.objs.size) (q : R (ItS S1 S2) H) :
    wpAny (model X.prog X.w) X.A (call (.type "zip") [.ref a, .ref b]) (fun v s1 => wpAny (model X.prog X.w) X.A (pyIter v) (PIE X pins σ (.Tuple elts kk tpos) R) X.xe s1) X.xe s := by
  refine zip_begins2 B1 B2 l1 l2 fun h' hz hTI hTO g1 g2 hsz hk => wpAny_pyIter_zip hz ?_
  have I2 : Inv X pins σ H { s with heap := h' } := I.kept (t' := s.toks) hk
  have new : ∀ j : Nat, FpOk X pins H (s.heap.objs.size + j) := fun j => I.fpOk (Nat.le_add_right _ _) (I.hok.fresh (Nat.le_add_right _ _))
  refine ⟨s.heap.objs.size + 4, [s.heap.objs.size + 4, s.heap.objs.size + 2, s.heap.objs.size + 3, s.heap.objs.size, s.heap.objs.size + 1], _, _, H, rfl, I2, turn_zipS (k1 _ (Nat.ne_of_lt lt1)) (k2 _ (Nat.ne_of_lt (Nat.lt_succ_of_lt lt2))) (zip_sep2 (fp1 := [a]) (fp2 := [b]) (fun c hc => by
    rw [List.mem_singleton] at hc
    rw [hc]
    exact lt1) fun c hc => by
    rw [List.mem_singleton] at hc
    rw [hc]
    exact lt2), ⟨⟨hz, hTI, _, _, hTO⟩, b1 _ _ g1, b2 _ _ g2⟩, fun c hc => ?_, q⟩
  simp only [List.mem_cons, List.not_mem_nil, or_false] at hc
  rcases hc with rfl | rfl | rfl | rfl | rfl
  · exact new 4
  · exact new 2
  · exact new 3
  · exact new 0
  · exact new 1
theorem zipS_4 {pins : List (Addr × Obj)} {σ : St} {H1 : Hp} {s1 : Shared} {R : It → Hp → Prop} {a b : Addr} {xs ys : List V} (I1 : Inv X pins σ H1 s1) (q : (SqL X.K H1 a xs ∧ SqL X.K H1 b ys ∧ R (ItS (fun H zs => SqL X.K H a zs) fun H zs => SqL X.K H b zs) H1) ∨ (SqL X.K H1 a xs ∧ SqT X.K H1 b ys ∧ R (ItS (fun H zs => SqL X.K H a zs) fun H zs => SqT X.K H b zs) H1) ∨
    (SqT X.K H1 a xs ∧ SqL X.K H1 b ys ∧ R (ItS (fun H zs => SqT X.K H a zs) fun H zs => SqL X.K H b zs) H1) ∨ (SqT X.K H1 a xs ∧ SqT X.K H1 b ys ∧ R (ItS (fun H zs => SqT X.K H a zs) fun H zs => SqT X.K H b zs) H1)) :
    wpAny (model X.prog X.w) X.A (call (.type "zip") [.ref a, .ref b]) (fun v s1 => wpAny (model X.prog X.w) X.A (pyIter v) (PIE X pins σ (.Tuple elts kk tpos) R) X.xe s1) X.xe s1 := by
  have bl : ∀ (l i : Addr) (h : Heap), h.get? i = some { cls := .type "list_iterator", data := .fields #[.ref l, .int 0 0] } → h.IsListIter i l 0 := fun l i h g => ⟨_, g, rfl, rfl⟩
  have bt : ∀ (l i : Addr) (h : Heap), h.get? i = some { cls := .type "tuple_iterator", data := .fields #[.ref l, .int 0 0] } → h.IsTupleIter i l 0 := fun l i h g => ⟨_, g, rfl, rfl⟩
  have tl : ∀ (l : Addr) (ar : Array Value), s1.heap.IsTuple l ar → l < s1.heap.objs.size := fun l ar ⟨_, g, _⟩ => Heap.lt_size g
  rcases q with ⟨h1, h2, q⟩ | ⟨h1, h2, q⟩ | ⟨h1, h2, q⟩ | ⟨h1, h2, q⟩
  · obtain ⟨_, _, p1, _⟩ := I1.list h1
    obtain ⟨_, _, p2, _⟩ := I1.list h2
    exact run_zipS (fun i h => side_list h) (fun i h => side_list h) (begins_list _ _) (begins_list _ _) (bl a) (bl b) I1 p1.isList p2.isList p1.lt p2.lt q
  · obtain ⟨_, _, p1, _⟩ := I1.list h1
    obtain ⟨_, _, p2, _⟩ := I1.tuple h2
    exact run_zipS (fun i h => side_list h) (fun i h => side_tup h) (begins_list _ _) (begins_tuple _ _) (bl a) (bt b) I1 p1.isList p2 p1.lt (tl _ _ p2) q
  · obtain ⟨_, _, p1, _⟩ := I1.tuple h1
    obtain ⟨_, _, p2, _⟩ := I1.list h2
    exact run_zipS (fun i h => side_tup h) (fun i h => side_list h) (begins_tuple _ _) (begins_list _ _) (bt a) (bl b) I1 p1 p2.isList (tl _ _ p1) p2.lt q
  · obtain ⟨_, _, p1, _⟩ := I1.tuple h1
    obtain ⟨_, _, p2, _⟩ := I1.tuple h2
    exact run_zipS (fun i h => side_tup h) (fun i h => side_tup h) (begins_tuple _ _) (begins_tuple _ _) (bt a) (bt b) I1 p1 p2 (tl _ _ p1) (tl _ _ p2) q
def iZipS (K : PySem.W.Frag) (ta : TA) : TI := fun σ H R => ta σ H fun vs H1 => ∃ a b xs ys, vs = [.ref a, .ref b] ∧
  ((SqL K H1 a xs ∧ SqL K H1 b ys ∧ R (ItS (fun H zs => SqL K H a zs) fun H zs => SqL K H b zs) H1) ∨ (SqL K H1 a xs ∧ SqT K H1 b ys ∧ R (ItS (fun H zs => SqL K H a zs) fun H zs => SqT K H b zs) H1) ∨
    (SqT K H1 a xs ∧ SqL K H1 b ys ∧ R (ItS (fun H zs => SqT K H a zs) fun H zs => SqL K H b zs) H1) ∨ (SqT K H1 a xs ∧ SqT K H1 b ys ∧ R (ItS (fun H zs => SqT K H a zs) fun H zs => SqT K H b zs) H1))
theorem pi_zipS {ta : TA} (hg : Gl X "zip") (hm : X.mg "zip" = none) (ha : PA X [e, e'] ta)
    (hs : starEach [e, e'] X.env = (false, eval e X.env) :: starEach [e'] X.env := by rfl) (hpl : (backTo pos (starEach [e'] X.env)).any (·.1) = false := by rfl) :
    PI X (.Tuple elts kk tpos) (.Call (.Name "zip" p) [e, e'] [] pos) (iZipS X.K ta) := by
  refine ⟨fun pins s σ H R I h => ?_⟩
  refine Call_ (ld_blt I hg hm PyProof.Rows.boot_zip (PyProof.Rows.callWith_type1 (thn (ha.run pos pins s σ H _ I h) fun us s1 wq => ?_) hs hpl))
  obtain ⟨vs, H1, I1, r1, q⟩ := wq
  obtain ⟨a, b, xs, ys, ex, q⟩ := q
  subst ex
  cases r1 with
  | cons r rr =>
    cases rr with
    | cons r' rr =>
      cases rr
      cases r
      cases r'
      exact zipS_4 I1 q
/-- what stays through steps of the heap -/
theorem wk_zipS {K : PySem.W.Frag} {G : Vw} {S1 S2 : Hp → List V → Prop} {xs ys : List V} {ds es : List D} (m1 : ∀ H, Same G.h H → S1 H xs) (m2 : ∀ H, Same G.h H → S2 H ys) (hs : Rps K G xs ds) (hs2 : Rps K G ys es) : Wk K (ItS S1 S2) G (zipD ds es) where
  go i H s hi := by
    rw [zipD_length] at hi
    have hx : i < xs.length := by rw [hs.length]; omega
    have hy : i < ys.length := by rw [hs2.length]; omega
    exact ⟨xs, ys, xs[i], ys[i], m1 H s, m2 H s, List.getElem?_eq_getElem hx, List.getElem?_eq_getElem hy⟩
  yl i H v H' d Gc s1 s2 y hd := by
    obtain ⟨T, x, y', rfl, hT, rfl, f1, f2⟩ := y
    obtain ⟨dx, dy, g1, g2, rfl⟩ := zipD_get hd
    obtain ⟨v1, hv1, r1⟩ := hs.get g1
    obtain ⟨v2, hv2, r2⟩ := hs2.get g2
    cases (f1 xs (m1 H (s1.h.trans s2))).symm.trans hv1
    cases (f2 ys (m2 H (s1.h.trans s2))).symm.trans hv2
    have sg := s1.trans (Ext.new (o := HO.tup [x, y']) s2 hT).le
    exact ⟨_, Ext.new s2 hT, .tup (.inl (.inl upd_same)) (.cons (r1.same sg) (.cons (r2.same sg) .nil))⟩
  st i H s hi := ⟨xs, ys, m1 H s, m2 H s, by
    rw [zipD_length] at hi
    rw [hs.length, hs2.length, hi]⟩
def gZip : List D → Res (List D) := fun ds => match ds with
  | [.list xs, .list ys] => .ok (zipD xs ys)
  | [.list xs, .tuple ys] => .ok (zipD xs ys)
  | [.tuple xs, .list ys] => .ok (zipD xs ys)
  | [.tuple xs, .tuple ys] => .ok (zipD xs ys)
  | _ => .bad
def iZS (fs : Env → Res (List D)) : Env → Res (List D) := fun env => (fs env).bind gZip
theorem qi_zipS (hg : Gl X "zip") (hm : X.mg "zip" = none) (ha : QA X C [e, e'] fs) (hs : starEach [e, e'] X.env = (false, eval e X.env) :: starEach [e'] X.env := by rfl) (hpl : (backTo pos (starEach [e'] X.env)).any (·.1) = false := by rfl) :
    QI X C (.Tuple elts kk tpos) (.Call (.Name "zip" p) [e, e'] [] pos) (iZS fs) :=
  pi_imp (pi_zipS hg hm ha hs hpl) fun σ H R ⟨G, env, s, er, p⟩ => ⟨G, env, s, er, Post.bind p fun ds vs G1 H1 e1 r1 p1 => by
    unfold gZip at p1
    split at p1
    · cases r1 with
      | cons r1 r2 =>
        cases r2 with
        | cons r2 r3 =>
          cases r3
          cases r1 with
          | lst h hs =>
            cases r2 with
            | lst h2 hs2 => exact ⟨_, _, _, _, rfl, .inl ⟨.inl (Rd.same e1.gh h), .inl (Rd.same e1.gh h2), p1 _ _ _ (.refl e1.gh) (wk_zipS (fun H s => .inl (Rd.same s h)) (fun H s => .inl (Rd.same s h2)) hs hs2)⟩⟩
    · cases r1 with
      | cons r1 r2 =>
        cases r2 with
        | cons r2 r3 =>
          cases r3
          cases r1 with
          | lst h hs =>
            cases r2 with
            | tup h2 hs2 => exact ⟨_, _, _, _, rfl, .inr (.inl ⟨.inl (Rd.same e1.gh h), SqT.same e1.gh h2, p1 _ _ _ (.refl e1.gh) (wk_zipS (fun H s => .inl (Rd.same s h)) (fun H s => SqT.same s h2) hs hs2)⟩)⟩
    · cases r1 with
      | cons r1 r2 =>
        cases r2 with
        | cons r2 r3 =>
          cases r3
          cases r1 with
          | tup h hs =>
            cases r2 with
            | lst h2 hs2 => exact ⟨_, _, _, _, rfl, .inr (.inr (.inl ⟨SqT.same e1.gh h, .inl (Rd.same e1.gh h2), p1 _ _ _ (.refl e1.gh) (wk_zipS (fun H s => SqT.same s h) (fun H s => .inl (Rd.same s h2)) hs hs2)⟩))⟩
    · cases r1 with
      | cons r1 r2 =>
        cases r2 with
        | cons r2 r3 =>
          cases r3
          cases r1 with
          | tup h hs =>
            cases r2 with
            | tup h2 hs2 => exact ⟨_, _, _, _, rfl, .inr (.inr (.inr ⟨SqT.same e1.gh h, SqT.same e1.gh h2, p1 _ _ _ (.refl e1.gh) (wk_zipS (fun H s => SqT.same s h) (fun H s => SqT.same s h2) hs hs2)⟩))⟩
    · exact p1.elim⟩
end
end L2.FO

set_option Elab.async false
set_option linter.all false
set_option maxRecDepth 100000
set_option maxHeartbeats 4000000
namespace L2.FO
open PySem PySem.Spec PyProof.Rows
/-! ### in, not in, of scalars -/
def svV : D → V
  | .bool b => .bl b
  | .int i => .int i
  | .str x => .str x
  | _ => .non
theorem rp_svV {K : PySem.W.Frag} {G : Vw} {v : V} {d : D} (r : Rp K G v d) (s : scal d = true) : v = svV d := by
  cases r with
  | non => rfl
  | bl b => rfl
  | int i => rfl
  | str x => rfl
  | _ => exact absurd s Bool.false_ne_true
theorem rps_svV {K : PySem.W.Frag} {G : Vw} : ∀ {ds : List D} {vs : List V}, Rps K G vs ds → ds.all scal = true → vs = ds.map svV
  | [], _, .nil, _ => rfl
  | d :: ds, _, .cons r rs, s => by
    rw [List.all_cons, Bool.and_eq_true] at s
    rw [rp_svV r s.1, rps_svV rs s.2]
    rfl
theorem flat_sv {d : D} (s : scal d = true) : flatV (svV d) = true := by
  cases d with
  | none => rfl
  | bool b => rfl
  | int i => rfl
  | str x => rfl
  | _ => exact absurd s Bool.false_ne_true
theorem flats_sv : ∀ {ds : List D}, ds.all scal = true → (ds.map svV).all flatV = true
  | [], _ => rfl
  | d :: ds, s => by
    rw [List.all_cons, Bool.and_eq_true] at s
    rw [List.map_cons, List.all_cons, flat_sv s.1, flats_sv s.2]
    rfl
def eqS (x y : D) : Bool := eqV (svV x) (svV y)
def inD (x : D) (ds : List D) : Bool := ds.any fun y => eqS y x
theorem inD_V (x : D) : ∀ (ds : List D), inV (svV x) (ds.map svV) = inD x ds
  | [] => rfl
  | d :: ds => by
    have := inD_V x ds
    unfold inV inD at *
    rw [List.map_cons, List.any_cons, List.any_cons, this]
    rfl
def gInN (neg : Bool) : D → D → Res D := fun x y => match y with
  | .list ds => if scal x = true ∧ ds.all scal = true then .ok (.bool (if neg = true then !inD x ds else inD x ds)) else .bad
  | .tuple ds => if scal x = true ∧ ds.all scal = true then .ok (.bool (if neg = true then !inD x ds else inD x ds)) else .bad
  | .scr ns => match x with
    | .int i => .ok (.bool (if neg = true then !decide (i ∈ ns) else decide (i ∈ ns)))
    | _ => .bad
  | _ => .bad
def gIn := gInN false
def gNotIn := gInN true
theorem gInN_noex {neg : Bool} : ∀ x y, NoEx (gInN neg x y) := by
  intro x y n h
  unfold gInN at h
  split at h
  · split at h <;> cases h
  · split at h <;> cases h
  · split at h <;> cases h
  · cases h
theorem inV_ints (i : Int) : ∀ (ns : List Int), inV (.int i) (ns.map V.int) = decide (i ∈ ns)
  | [] => rfl
  | n :: ns => by
    have := inV_ints i ns
    unfold inV at *
    rw [List.map_cons, List.any_cons, this]
    show (n == i || decide (i ∈ ns)) = _
    by_cases h : n = i
    · subst h
      simp
    · have h2 : (n == i) = false := beq_false_of_ne h
      have h3 : i ≠ n := fun e => h e.symm
      rw [h2, Bool.false_or]
      simp [List.mem_cons, h3]
theorem all_flat_ints : ∀ (ns : List Int), (ns.map V.int).all flatV = true
  | [] => rfl
  | n :: ns => by
    rw [List.map_cons, List.all_cons, all_flat_ints ns]
    rfl
theorem gInN_op {K : PySem.W.Frag} {neg : Bool} : OpF K (gInN neg) (rIn K neg) := by
  intro x y dx dy G H Q s rx ry p
  have fin : ∀ {ds : List D} {vs : List V} {a : Addr}, (SqL K H a vs ∨ SqT K H a vs) → Rps K G vs ds → y = .ref a → Post (Rp K) (fun _ _ => False) G H Q (if scal dx = true ∧ ds.all scal = true then .ok (.bool (if neg = true then !inD dx ds else inD dx ds)) else .bad) → rIn K neg x y H Q := by
    intro ds vs a hq rs hy p
    by_cases h : scal dx = true ∧ ds.all scal = true
    · rw [if_pos h] at p
      have hx := rp_svV rx h.1
      have hv := rps_svV rs h.2
      subst hx hv
      refine ⟨a, _, hy, hq, flat_sv h.1, flats_sv h.2, ?_⟩
      rw [inD_V]
      exact p _ G H (.refl s) (.bl _)
    · rw [if_neg h] at p
      exact p.elim
  cases ry with
  | lst h hs => exact fin (.inl (.inl (Rd.same s h))) hs rfl p
  | tup h hs => exact fin (.inr (SqT.same s h)) hs rfl p
  | scr h =>
    cases rx with
    | int i =>
      refine ⟨_, _, rfl, .inl (Same.seq s h), rfl, all_flat_ints _, ?_⟩
      rw [inV_ints]
      exact p _ G H (.refl s) (.bl _)
    | _ => exact p.elim
  | _ => exact p.elim
section
variable {X : Cx} {C : Cf} {a b : Expr} {fa fb : Env → Res D} {pos : Pos}
theorem q_in (ha : QE X C a fa) (hb : QE X C b fb) (hm : behindInMarks .In b = false := by rfl) : QE X C (.Compare a [.In] [b] pos) (e2 gIn fa fb) := q_cmp op_in_seq gInN_op gInN_noex hm ha hb
theorem q_notIn (ha : QE X C a fa) (hb : QE X C b fb) (hm : behindInMarks .NotIn b = false := by rfl) : QE X C (.Compare a [.NotIn] [b] pos) (e2 gNotIn fa fb) := q_cmp op_notIn_seq gInN_op gInN_noex hm ha hb
theorem qt_in (ha : QE X C a fa) (hb : QE X C b fb) (hm : behindInMarks .In b = false := by rfl) : QT X C (.Compare a [.In] [b] pos) (eB (e2 gIn fa fb)) := qt_cmp op_in_seq gInN_op gInN_noex hm ha hb
theorem qt_notIn (ha : QE X C a fa) (hb : QE X C b fb) (hm : behindInMarks .NotIn b = false := by rfl) : QT X C (.Compare a [.NotIn] [b] pos) (eB (e2 gNotIn fa fb)) := qt_cmp op_notIn_seq gInN_op gInN_noex hm ha hb
end
/-! ### isinstance of a caught error: several classes, ValueError -/
def rIsET (K : PySem.W.Frag) (D a : Addr) : List V → Hp → VK → Prop := fun xs H Q => ∃ (tp : Addr) (cs : List V) (us : List Value) (b : Bool), xs = [.ref a, .ref tp] ∧ H tp = some (.tup cs) ∧ Paired ClsV cs us ∧ PySem.W.kitAny K (.ref D) us = some b ∧ Q (.bl b) H
theorem call_isET {X : Cx} {a D : Addr} {oe : Obj} {pn : List (Addr × Obj)} (C : ExcC X.K D) (hz : Zc (.ref D) none oe) (hf : ∃ vs, oe.data = .fields vs) : CallR (X.suite a ((a, oe) :: pn)) (.builtin "isinstance") (rIsET X.K D a) := by
  intro pins s σ H xs us Q I r h
  obtain ⟨tp, cs, ws, b, rfl, hT, k, e, q⟩ := h
  obtain ⟨u1, u2, rfl, r1, r2⟩ := vals2 r
  cases (show u1 = Value.ref a from r1)
  cases (show u2 = Value.ref tp from r2)
  obtain ⟨hget, _⟩ := I.pin (a, oe) (List.mem_append.mpr (.inl List.mem_cons_self))
  obtain ⟨vs, hv⟩ := hf
  have J : PySem.W.InstAt s.heap a oe D none := by
    obtain ⟨oc, od, oda, osl⟩ := oe
    obtain ⟨h1, h2⟩ := hz
    dsimp only at h1 h2 hv
    subst h1 h2 hv
    exact ⟨hget, rfl, rfl, trivial⟩
  obtain ⟨_, its, rv, o, h1, h2, n, h3⟩ := (show ObjOk X.prog X.w H s.heap tp (.tup cs) from I.hok tp _ hT)
  have e3 := ClsV.all k rv
  subst e3
  obtain ⟨oc, od, dt, sl⟩ := o
  simp only at h2 h3
  subst h2 h3
  exact PySem.W.kia_tup (PySem.W.handS_kitx_exc C.hg C.hk C.hs C.hd C.ha C.hn C.ht C.hm) I.kIn J h1 e (fun z => nomatch z) fun tk => ⟨.bl b, H, I.kept (t' := tk) fun _ _ z => z, rfl, q⟩
/-- the written classes -/
def tCl (xa : Nat → Addr) (ms : List Nat) : TA := fun _ H Q => Q (ms.map fun m => .ref (xa m)) H
section
variable {X : Cx} {C : Cf} {pos : Pos} {x : Str} {es : List Expr} {xa : Nat → Addr} {ms : List Nat} {m : Nat} {cnt : Nat} {sub : Nat → Nat → Bool}
theorem pcl_nil : PA X [] (tCl xa []) := pa_nil
theorem pcl_cons {p : Pos} (hx : X.mg x = some (.ref (xa m))) (h : PA X es (tCl xa ms)) (hg : Gl X x := by rfl) (hdb : (x == ("__debug__" : Str)) = false := by decide) (hs : starEach (.Name x p :: es) X.env = (false, eval (.Name x p) X.env) :: starEach es X.env := by rfl) : PA X (.Name x p :: es) (tCl xa (m :: ms)) :=
  pa_cons (pe_glob (v := .ref (xa m)) hg hx rfl hdb) h hs
def eIsET (cnt : Nat) (sub : Nat → Nat → Bool) (i : Nat) (ms : List Nat) : Env → Res D := fun env => match env.sl[i]? with
  | some (.exc n) => if n < cnt then .ok (.bool (ms.any (sub n))) else .bad
  | _ => .bad
theorem kitAny_own {K : PySem.W.Frag} {n : Nat} (T : XT K xa cnt sub) (hn : n < cnt) : ∀ (ms : List Nat), (∀ m ∈ ms, m < cnt) → PySem.W.kitAny K (.ref (xa n)) (ms.map fun m => .ref (xa m)) = some (ms.any (sub n))
  | [], _ => rfl
  | m :: ms, h => by
    have k := T.kit n m hn (h m List.mem_cons_self)
    refine kitAny_cons k (fun hb => ?_) fun hb => ?_
    · rw [kitAny_own T hn ms fun k hk => h k (List.mem_cons_of_mem _ hk), List.any_cons, hb]
      rfl
    · rw [List.any_cons, hb]
      rfl
theorem paired_own : ∀ (ms : List Nat), Paired ClsV (ms.map fun m => V.ref (xa m)) (ms.map fun m => Value.ref (xa m))
  | [] => .nil
  | m :: ms => .cons (.own _) (paired_own ms)
theorem q_isET {a : Addr} {n i kt : Nat} {oe : Obj} {pn : List (Addr × Obj)} {y : Str} {p pe pt : Pos} (T : XT X.K C.xa cnt sub) (hcm : ∀ m ∈ ms, m < cnt) (hz : Zc (.ref (C.xa n)) none oe) (hf : ∃ vs, oe.data = .fields vs) (hgi : Gl X "isinstance") (hmi : X.mg "isinstance" = none) (hsz : ms.length ≤ sizeLine) (hes : PA (X.suite a ((a, oe) :: pn)) es (tCl C.xa ms))
    (hN : X.N[i]? = some y) (hv : Vis X.env.scope y := by first | exact Or.inl rfl | exact Or.inr (Or.inl rfl) | exact Or.inr (Or.inr rfl)) (hd : (y == ("__debug__" : Str)) = false := by decide) (hcd : (y == ("__classdict__" : Str)) = false := by decide)
    (he : starEach [.Name y pe, .Tuple es kt pt] X.env = (false, eval (.Name y pe) X.env) :: starEach [.Tuple es kt pt] X.env := by rfl) (he2 : starEach [.Tuple es kt pt] X.env = (false, eval (.Tuple es kt pt) X.env) :: starEach [] X.env := by rfl) (hpl : (backTo pos (starEach [.Tuple es kt pt] X.env)).any (·.1) = false := by rfl) :
    QE (X.suite a ((a, oe) :: pn)) (C.hot a n) (.Call (.Name "isinstance" p) [.Name y pe, .Tuple es kt pt] [] pos) (eIsET cnt sub i ms) := by
  by_cases hn : n < cnt
  · refine pe_imp (pe_callB (X := X.suite a ((a, oe) :: pn)) (call_isET (T.exc n hn) hz hf) hgi hmi boot_isinstance (pa_cons (pe_var hN hv hd hcd) (pa_cons (pe_tup hes) pa_nil he2) he) (by decide) (by decide) he hpl) fun σ H Q ⟨G, env, s, er, p⟩ => ?_
    unfold eIsET at p
    split at p
    · rename_i m hm
      obtain ⟨h1, h2⟩ := er.es.exc i m hm
      have h2 : m = n := h2
      subst h2
      rw [if_pos hn] at p
      exact ⟨.ref a, h1, by rw [List.length_map]; exact hsz, fun q hq => ⟨q, _, _, _, rfl, upd_same, paired_own ms, kitAny_own T hn ms hcm, p _ G _ (Ext.newH s hq) (.bl _)⟩⟩
    · exact p.elim
  · refine ⟨fun pins s σ H Q I ⟨G, env, sg, er, p⟩ => ?_⟩
    unfold eIsET at p
    split at p
    · rename_i m hm
      obtain ⟨h1, h2⟩ := er.es.exc i m hm
      have h2 : m = n := h2
      subst h2
      rw [if_neg hn] at p
      exact p.elim
    · exact p.elim
/-- isinstance(e, ValueError), a builtin base of all own classes -/
def eIsEV (cnt : Nat) (i : Nat) : Env → Res D := fun env => match env.sl[i]? with
  | some (.exc n) => if n < cnt then .ok (.bool true) else .bad
  | _ => .bad
theorem kit_ve {K : PySem.W.Frag} {A : Addr} {b : String} (hm : PySem.W.kitMeta b = true) (h : PySem.W.subIn K (.ref A) (.type b) = some true) : PySem.W.kitOne K (.ref A) (.type b) = some true := by
  unfold PySem.W.kitOne
  rw [if_neg (by simp)]
  unfold PySem.W.kitCls
  dsimp only
  rw [if_pos hm]
  exact h
theorem q_isEV {a : Addr} {n i : Nat} {oe : Obj} {pn : List (Addr × Obj)} {y : Str} {b : String} {p pe p3 : Pos} (T : XT X.K C.xa cnt sub) (VE : ∀ n, n < cnt → PySem.W.kitOne X.K (.ref (C.xa n)) (.type b) = some true) (hz : Zc (.ref (C.xa n)) none oe) (hf : ∃ vs, oe.data = .fields vs) (hgi : Gl X "isinstance") (hmi : X.mg "isinstance" = none) (hgT : Gl X x) (hmT : X.mg x = none) (hvT : bootBuiltins x = some (.type b)) (hnT : x ≠ "__name__")
    (hN : X.N[i]? = some y) (hv : Vis X.env.scope y := by first | exact Or.inl rfl | exact Or.inr (Or.inl rfl) | exact Or.inr (Or.inr rfl)) (hd : (y == ("__debug__" : Str)) = false := by decide) (hcd : (y == ("__classdict__" : Str)) = false := by decide) (hdb : (x == ("__debug__" : Str)) = false := by decide)
    (he : starEach [.Name y pe, .Name x p3] X.env = (false, eval (.Name y pe) X.env) :: starEach [.Name x p3] X.env := by rfl) (he2 : starEach [.Name x p3] X.env = (false, eval (.Name x p3) X.env) :: starEach [] X.env := by rfl) (hpl : (backTo pos (starEach [.Name x p3] X.env)).any (·.1) = false := by rfl) :
    QE (X.suite a ((a, oe) :: pn)) (C.hot a n) (.Call (.Name "isinstance" p) [.Name y pe, .Name x p3] [] pos) (eIsEV cnt i) := by
  by_cases hn : n < cnt
  · refine pe_imp (pe_callB (X := X.suite a ((a, oe) :: pn)) (call_isE (T.exc n hn) hz hf) hgi hmi boot_isinstance (pa_cons (pe_var hN hv hd hcd) (pa_cons (pe_bltn (v := .ty b) hgT hmT hvT rfl hnT hdb) pa_nil he2) he) (by decide) (by decide) he hpl) fun σ H Q ⟨G, env, s, er, p⟩ => ?_
    unfold eIsEV at p
    split at p
    · rename_i m hm
      obtain ⟨h1, h2⟩ := er.es.exc i m hm
      have h2 : m = n := h2
      subst h2
      rw [if_pos hn] at p
      exact ⟨.ref a, h1, .ty b, .type b, true, rfl, fun u hu => hu, VE m hn, p _ G H (.refl s) (.bl _)⟩
    · exact p.elim
  · refine ⟨fun pins s σ H Q I ⟨G, env, sg, er, p⟩ => ?_⟩
    unfold eIsEV at p
    split at p
    · rename_i m hm
      obtain ⟨h1, h2⟩ := er.es.exc i m hm
      have h2 : m = n := h2
      subst h2
      rw [if_neg hn] at p
      exact p.elim
    · exact p.elim
end
end L2.FO

set_option Elab.async false
set_option linter.all false
set_option maxRecDepth 100000
set_option maxHeartbeats 4000000
namespace L2.FO
open PySem PySem.Spec PyProof.Rows
/-! ### try .. except X: without a name -/
def Out.noX : Out → Out
  | .ex _ _ => .bad
  | o => o
def sTryN (cnt : Nat) (sub : Nat → Bool) (b h : Env → Out) : Env → Out := fun env => match b env with
  | .ex n e => if n < cnt then (if sub n = true then (h e).noX else .ex n e) else .bad
  | o => o
section
variable {X : Cx} {C : Cf} {fr : Bool} {x : Str} {pos : Pos} {cnt : Nat} {sub : Nat → Nat → Bool}
theorem qs_tryN {np pos' : Pos} {cm : Nat} {body suite : List Stmt} {b₀ : Stmt} {g h : Env → Out} (T : XT X.K C.xa cnt sub) (hcm : cm < cnt) (tk : Takes X C.W) (hx : X.mg x = some (.ref (C.xa cm)))
    (hs : X.stack = X.env :: X.outer) (hf : X.env.frame = some X.env.locals)
    (hb : ∀ (W : WX) (pn : List (Addr × Obj)) (xe : Value → Shared → Prop), Takes (X.tr pn xe) W → PassesOwn (model X.prog X.w) X.A X.env xe → QSs (X.tr pn xe) (C.by W) fr body g)
    (hsu : ∀ (a : Addr) (oe : Obj) (n : Nat) (pn : List (Addr × Obj)), Zc (.ref (C.xa n)) none oe → (∃ vs, oe.data = .fields vs) → QSs (X.suite a ((a, oe) :: pn)) (C.by fun _ _ _ _ => False) fr (b₀ :: suite) h) (hg : Gl X x := by rfl) (hdb : (x == ("__debug__" : Str)) = false := by decide) :
    QS X C fr (.Try body [.ExceptHandler (some (.Name x np)) none (b₀ :: suite) pos'] [] [] pos) (sTryN cnt (fun n => sub n cm) g h) := by
  refine ps_imp (ps_try_only (tb := fun W => tS X.K (C.by W) fr g) (ts := fun a cls d => fun Dn σ H => ∃ n, cls = .ref (C.xa n) ∧ d = none ∧ tS X.K (C.by fun _ _ _ _ => False) fr h Dn σ H) (Wout := C.W) hs hf ⟨hg, hdb, .inl hx⟩ tk hb
    (fun a oe cls d pn hz hfl => suite_of fun n h1 h2 => by subst h1 h2; exact hsu a oe n pn hz hfl)) fun Dn σ H ⟨G0, H0, G, env, sr, p⟩ => ?_
  refine ⟨G0, H0, G, env, ⟨⟨sr.er.es, sr.er.or, sr.er.fl, sr.er.fe⟩, sr.nf, sr.gh, sr.ex, sr.own, sr.sep⟩, ?_⟩
  have lift : ∀ {W : WX} {G H e σ}, SR X.K (C.by W) G0 H0 G H e σ → SR X.K C G0 H0 G H e σ := fun r => ⟨⟨r.er.es, r.er.or, r.er.fl, r.er.fe⟩, r.nf, r.gh, r.ex, r.own, r.sep⟩
  have low : ∀ {W : WX} {G H e σ}, SR X.K C G0 H0 G H e σ → SR X.K (C.by W) G0 H0 G H e σ := fun r => ⟨⟨r.er.es, r.er.or, r.er.fl, r.er.fe⟩, r.nf, r.gh, r.ex, r.own, r.sep⟩
  unfold sTryN at p
  cases hg' : g env with
  | nx e => rw [hg'] at p; exact fun σ' G' H' r => p σ' G' H' (lift r)
  | bk e => rw [hg'] at p; exact fun σ' G' H' r => p σ' G' H' (lift r)
  | ct e => rw [hg'] at p; exact fun σ' G' H' r => p σ' G' H' (lift r)
  | rt d S => rw [hg'] at p; exact p
  | bad => rw [hg'] at p; exact p
  | ex n e =>
    rw [hg'] at p
    dsimp only at p
    by_cases hh : n < cnt
    · rw [if_pos hh] at p
      intro σ' G' H' r
      refine ⟨sub n cm, T.exm n cm hh hcm, fun hb a na => ?_, fun hb => ?_⟩
      · rw [if_pos hb] at p
        refine ⟨n, rfl, rfl, G0, H0, G', e, low (lift r), ?_⟩
        cases ho : h e with
        | nx e2 => rw [ho] at p; exact fun σ2 G2 H2 r2 => p σ2 G2 H2 (lift r2)
        | bk e2 => rw [ho] at p; exact fun σ2 G2 H2 r2 => p σ2 G2 H2 (lift r2)
        | ct e2 => rw [ho] at p; exact fun σ2 G2 H2 r2 => p σ2 G2 H2 (lift r2)
        | rt d S => rw [ho] at p; exact p
        | ex k e2 => rw [ho] at p; exact p.elim
        | bad => rw [ho] at p; exact p.elim
      · rw [if_neg (by rw [hb]; exact Bool.false_ne_true)] at p
        exact p σ' G' H' (lift r)
    · rw [if_neg hh] at p
      exact p.elim
end
def tryN (cnt : Nat) (sub : Nat → Bool) (h : Env → Out) : Out → Out
  | .ex n e => if n < cnt then (if sub n = true then (h e).noX else .ex n e) else .bad
  | o => o
theorem sTryN_eq (cnt : Nat) (sub : Nat → Bool) (b h : Env → Out) : sTryN cnt sub b h = fun env => tryN cnt sub h (b env) := by
  funext env
  unfold sTryN
  cases b env <;> rfl
theorem tryN_ex (cnt : Nat) (sub : Nat → Bool) (h : Env → Out) (n : Nat) (e : Env) : tryN cnt sub h (.ex n e) = if n < cnt then (if sub n = true then (h e).noX else .ex n e) else .bad := rfl
theorem tryN_nx (cnt : Nat) (sub : Nat → Bool) (h : Env → Out) (e : Env) : tryN cnt sub h (.nx e) = .nx e := rfl
theorem tryN_rt (cnt : Nat) (sub : Nat → Bool) (h : Env → Out) (d : D) (S : Store) : tryN cnt sub h (.rt d S) = .rt d S := rfl
theorem noX_nx (e : Env) : (Out.nx e).noX = .nx e := rfl
theorem noX_rt (d : D) (S : Store) : (Out.rt d S).noX = .rt d S := rfl
end L2.FO

set_option Elab.async false
set_option linter.all false
set_option maxRecDepth 100000
set_option maxHeartbeats 4000000
namespace L2.FO
open PySem PySem.Spec PyProof.Rows

theorem fzL_nil (p : Nat → Bool) : fzL p [] = [] := rfl
theorem fzL_cons (p : Nat → Bool) (s : Sl) (e : List Sl) : fzL p (s :: e) = (if p 0 = true then s.fz else s) :: fzL (fun i => p (i + 1)) e := by
  unfold fzL
  rw [List.mapIdx_cons]
theorem fzT_nil : fzL (fun _ => true) [] = [] := rfl
theorem fzT_cons (s : Sl) (e : List Sl) : fzL (fun _ => true) (s :: e) = s.fz :: fzL (fun _ => true) e := by
  rw [fzL_cons, if_pos rfl]
theorem fu_mk (l : List Sl) (S : Store) (n : Nat) : fu ⟨l, S, n⟩ = ⟨fzL (fun _ => true) l, S, n⟩ := rfl
theorem fd_mk (l : List Sl) (S : Store) (n : Nat) : fd ⟨l, S, n⟩ = ⟨l.map (Sl.der S), S, n⟩ := rfl
theorem fz_val (d : D) : Sl.fz (.val d) = .val d := rfl
theorem fz_own (d : List D) : Sl.fz (.own d) = .val (.list d) := rfl
theorem fz_no : Sl.fz .no = .no := rfl
theorem fz_exc (n : Nat) : Sl.fz (.exc n) = .exc n := rfl
theorem env_set (l : List Sl) (S : Store) (n i : Nat) (x : Sl) : Env.set ⟨l, S, n⟩ i x = ⟨l.set i x, S, n⟩ := rfl
theorem env_to (l : List Sl) (S S' : Store) (n : Nat) : Env.to ⟨l, S, n⟩ S' = ⟨l, S', n⟩ := rfl
theorem env_setE (l : List Sl) (S : Store) (n : Nat) (is : List Nat) (ds : List D) : Env.setE ⟨l, S, n⟩ is ds = ⟨setE l is ds, S, n⟩ := rfl
theorem seq_rt (d : D) (S : Store) (h : Env → Out) : (Out.rt d S).seq h = .rt d S := rfl
theorem out_ok {α : Type} (env : Env) (a : α) (k : α → Out) : (Res.ok a).out env k = k a := rfl
theorem out_ex {α : Type} (env : Env) (n : Nat) (k : α → Out) : (Res.ex n).out env k = .ex n env := rfl
theorem out_bad {α : Type} (env : Env) (k : α → Out) : (Res.bad).out env k = .bad := rfl
theorem outM_ok {α : Type} (env : Env) (a : α) (S : Store) (k : α → Env → Out) : (Rs.ok a S).out env k = k a (env.to S) := rfl
theorem outM_ex {α : Type} (env : Env) (n : Nat) (S : Store) (k : α → Env → Out) : (Rs.ex n S : Rs α).out env k = .ex n (env.to S) := rfl
theorem bindM_ok {α β : Type} (a : α) (S : Store) (k : α → Store → Rs β) : (Rs.ok a S).bind k = k a S := rfl
theorem bindM_ex {α β : Type} (n : Nat) (S : Store) (k : α → Store → Rs β) : (Rs.ex n S : Rs α).bind k = .ex n S := rfl
theorem m_ok {α : Type} (a : α) (S : Store) : (Res.ok a).m S = .ok a S := rfl
theorem m_ex {α : Type} (n : Nat) (S : Store) : (Res.ex n : Res α).m S = .ex n S := rfl
theorem pure_same (d : D) (S : Store) : (Rs.ok d S).pure S = .ok d := by
  unfold Rs.pure
  dsimp only
  rw [if_pos (by rw [beq_self_eq_true]; rfl)]
theorem pure_old {d : D} {S S' : Store} (h : old S.length d = true) : (Rs.ok d S').pure S = .ok d := by
  unfold Rs.pure
  dsimp only
  rw [if_pos (by rw [h, Bool.or_true])]
theorem pure_ex (n : Nat) (S S' : Store) : (Rs.ex n S').pure S = .ex n := rfl
theorem made_ok (i : Nat) (S : Store) : (Rs.ok .none S).made i = .ok (.obj i) S := rfl
theorem made_ex (i n : Nat) (S : Store) : (Rs.ex n S).made i = .ex n S := rfl
theorem olds_ints (n : Nat) : ∀ (xs : List Int), olds n (xs.map D.int) = true
  | [] => rfl
  | x :: xs => by
    show (true && olds n (xs.map D.int)) = true
    rw [olds_ints n xs]
    rfl
theorem olds_append (n : Nat) : ∀ (xs ys : List D), olds n (xs ++ ys) = (olds n xs && olds n ys)
  | [], ys => rfl
  | x :: xs, ys => by
    show (old n x && olds n (xs ++ ys)) = ((old n x && olds n xs) && olds n ys)
    rw [olds_append n xs ys, Bool.and_assoc]
theorem fa0 {n fl : Nat} {S : Store} {w : Env → Out} : runF 0 n w fl [] S = (w ⟨List.replicate (n - 0) .no, S, fl⟩).fin := rfl
theorem fa1 {n fl : Nat} {S : Store} {w : Env → Out} {a : D} : runF 1 n w fl [a] S = (w ⟨.val a :: List.replicate (n - 1) .no, S, fl⟩).fin := rfl
theorem fa2 {n fl : Nat} {S : Store} {w : Env → Out} {a b : D} : runF 2 n w fl [a, b] S = (w ⟨.val a :: .val b :: List.replicate (n - 2) .no, S, fl⟩).fin := rfl
theorem fa3 {n fl : Nat} {S : Store} {w : Env → Out} {a b c : D} : runF 3 n w fl [a, b, c] S = (w ⟨.val a :: .val b :: .val c :: List.replicate (n - 3) .no, S, fl⟩).fin := rfl
theorem fa4 {n fl : Nat} {S : Store} {w : Env → Out} {a b c d : D} : runF 4 n w fl [a, b, c, d] S = (w ⟨.val a :: .val b :: .val c :: .val d :: List.replicate (n - 4) .no, S, fl⟩).fin := rfl
theorem fa5 {n fl : Nat} {S : Store} {w : Env → Out} {a b c d e : D} : runF 5 n w fl [a, b, c, d, e] S = (w ⟨.val a :: .val b :: .val c :: .val d :: .val e :: List.replicate (n - 5) .no, S, fl⟩).fin := rfl
theorem fa6 {n fl : Nat} {S : Store} {w : Env → Out} {a b c d e f : D} : runF 6 n w fl [a, b, c, d, e, f] S = (w ⟨.val a :: .val b :: .val c :: .val d :: .val e :: .val f :: List.replicate (n - 6) .no, S, fl⟩).fin := rfl
theorem fin_rt (d : D) (S : Store) : (Out.rt d S).fin = .ok d S := rfl
theorem fin_nx (e : Env) : (Out.nx e).fin = .ok .none e.st := rfl
theorem fin_bk (e : Env) : (Out.bk e).fin = .bad := rfl
theorem fin_ct (e : Env) : (Out.ct e).fin = .bad := rfl
theorem fin_bad : Out.bad.fin = .bad := rfl
theorem fin_ex (n : Nat) (e : Env) : (Out.ex n e).fin = .ex n e.st := rfl
theorem onlyL_list (l : List D) (S : Store) : onlyL (.ok (.list l) S) = .ok (.list l) S := rfl
theorem onlyL_ex (n : Nat) (S : Store) : onlyL (.ex n S) = .ex n S := rfl
def tryK (cnt : Nat) (sub : Nat → Bool) (i : Nat) (h : Env → Out) : Out → Out
  | .ex n e => if n < cnt ∧ noExc e.sl = true then (if sub n = true then (h (e.set i (.exc n))).tryEnd i else .ex n e) else .bad
  | o => o
theorem sTry_eq (cnt : Nat) (sub : Nat → Bool) (i : Nat) (b h : Env → Out) : sTry cnt sub i b h = fun env => tryK cnt sub i h (b env) := by
  funext env
  unfold sTry tryK
  cases b env <;> rfl
theorem tryK_ex (cnt : Nat) (sub : Nat → Bool) (i : Nat) (h : Env → Out) (n : Nat) (e : Env) : tryK cnt sub i h (.ex n e) = if n < cnt ∧ noExc e.sl = true then (if sub n = true then (h (e.set i (.exc n))).tryEnd i else .ex n e) else .bad := rfl
theorem tryK_nx (cnt : Nat) (sub : Nat → Bool) (i : Nat) (h : Env → Out) (e : Env) : tryK cnt sub i h (.nx e) = .nx e := rfl
theorem tryK_rt (cnt : Nat) (sub : Nat → Bool) (i : Nat) (h : Env → Out) (d : D) (S : Store) : tryK cnt sub i h (.rt d S) = .rt d S := rfl
theorem tryK_bk (cnt : Nat) (sub : Nat → Bool) (i : Nat) (h : Env → Out) (e : Env) : tryK cnt sub i h (.bk e) = .bk e := rfl
theorem tryK_ct (cnt : Nat) (sub : Nat → Bool) (i : Nat) (h : Env → Out) (e : Env) : tryK cnt sub i h (.ct e) = .ct e := rfl
theorem noExc_nil : noExc [] = true := rfl
theorem noExc_val (d : D) (e : List Sl) : noExc (.val d :: e) = noExc e := rfl
theorem noExc_own (d : List D) (e : List Sl) : noExc (.own d :: e) = noExc e := rfl
theorem noExc_no (e : List Sl) : noExc (.no :: e) = noExc e := rfl
def loopK (k : Env → Out) : Out → Out
  | .nx e => k e
  | .ct e => k e
  | .bk e => .nx e
  | .rt d S => .rt d S
  | .ex n e => .ex n e
  | .bad => .bad
theorem lp_nil (t : Tg) (b : Env → Out) (e : Env) : loopF t b [] e = .nx e := rfl
theorem lp_cons (i : Nat) (b : Env → Out) (d : D) (ds : List D) (e : Env) : loopF (.nm i) b (d :: ds) e = loopK (loopF (.nm i) b ds) (b (e.set i (.val d))) := by
  show (match b (e.set i (.val d)) with
      | .nx e' => loopF (.nm i) b ds e'
      | .ct e' => loopF (.nm i) b ds e'
      | .bk e' => .nx e'
      | .rt d S => .rt d S
      | .ex n e' => .ex n e'
      | .bad => .bad) = _
  unfold loopK
  cases b (e.set i (.val d)) <;> rfl
theorem lp_consT {is : List Nat} {b : Env → Out} {d : D} {ds : List D} {e : Env} {ps : List D} (h : Tg.parts (.tp is) d = some ps) : loopF (.tp is) b (d :: ds) e = loopK (loopF (.tp is) b ds) (b (e.setE is ps)) := by
  unfold loopF
  rw [h]
  show (match b (e.setE is ps) with
      | .nx e' => loopF (.tp is) b ds e'
      | .ct e' => loopF (.tp is) b ds e'
      | .bk e' => .nx e'
      | .rt d S => .rt d S
      | .ex n e' => .ex n e'
      | .bad => .bad) = _
  unfold loopK
  cases b (e.setE is ps) <;> rfl
theorem lpk_nx (k : Env → Out) (e : Env) : loopK k (.nx e) = k e := rfl
theorem lpk_ct (k : Env → Out) (e : Env) : loopK k (.ct e) = k e := rfl
theorem lpk_bk (k : Env → Out) (e : Env) : loopK k (.bk e) = .nx e := rfl
theorem lpk_rt (k : Env → Out) (d : D) (S : Store) : loopK k (.rt d S) = .rt d S := rfl
theorem lpk_ex (k : Env → Out) (n : Nat) (e : Env) : loopK k (.ex n e) = .ex n e := rfl
theorem lpk_bad (k : Env → Out) : loopK k .bad = .bad := rfl
/-! ### == -/
theorem gEq_ii (i j : Int) : gEq (.int i) (.int j) = .ok (.bool (i == j)) := rfl
theorem gNe_ii (i j : Int) : gNe (.int i) (.int j) = .ok (.bool (!(i == j))) := rfl
theorem gEq_bb (i j : Bool) : gEq (.bool i) (.bool j) = .ok (.bool (i == j)) := rfl
theorem gNe_bb (i j : Bool) : gNe (.bool i) (.bool j) = .ok (.bool (!(i == j))) := rfl
theorem toPs_map {α : Type} (f : α → D) : ∀ (xs : List α), toPs (xs.map f) = xs.map fun x => toP (f x)
  | [] => rfl
  | x :: xs => by
    show toP (f x) :: toPs (xs.map f) = _
    rw [toPs_map f xs, List.map_cons]
theorem eqv_ints : ∀ (xs ys : List Int), PyData.eqvAll (toPs (xs.map D.int)) (toPs (ys.map D.int)) = decide (xs = ys)
  | [], [] => rfl
  | [], _ :: _ => rfl
  | _ :: _, [] => rfl
  | x :: xs, y :: ys => by
    show (x == y && PyData.eqvAll (toPs (xs.map D.int)) (toPs (ys.map D.int))) = _
    rw [eqv_ints xs ys]
    by_cases h : x = y
    · subst h
      by_cases h2 : xs = ys
      · subst h2
        simp
      · simp [h2]
    · simp [h]
theorem lay_ints : ∀ (xs : List Int), PyData.canLayAll0 (toPs (xs.map D.int)) = true
  | [] => rfl
  | x :: xs => by
    show (true && PyData.canLayAll0 (toPs (xs.map D.int))) = true
    rw [lay_ints xs]
    rfl
theorem depth_ints : ∀ (xs : List Int), PyData.depthAll (toPs (xs.map D.int)) = 0
  | [] => rfl
  | x :: xs => by
    show max 0 (PyData.depthAll (toPs (xs.map D.int))) = 0
    rw [depth_ints xs]
    rfl
theorem shaped_ints (xs : List Int) : SeqAt.shaped (toP (.list (xs.map D.int))) = true := by
  unfold SeqAt.shaped
  rw [Bool.and_eq_true]
  refine ⟨lay_ints xs, decide_eq_true ?_⟩
  show PyData.depthAll (toPs (xs.map D.int)) + 1 ≤ 64
  rw [depth_ints]
  decide
theorem shaped_tints (xs : List Int) : SeqAt.shaped (toP (.tuple (xs.map D.int))) = true := by
  unfold SeqAt.shaped
  rw [Bool.and_eq_true]
  refine ⟨lay_ints xs, decide_eq_true ?_⟩
  show PyData.depthAll (toPs (xs.map D.int)) + 1 ≤ 64
  rw [depth_ints]
  decide
theorem gEq_ll (xs ys : List Int) : gEq (.list (xs.map D.int)) (.list (ys.map D.int)) = .ok (.bool (decide (xs = ys))) := by
  unfold gEq
  rw [if_pos ⟨shaped_ints xs, shaped_ints ys⟩]
  show Res.ok (D.bool (PyData.eqvAll _ _)) = _
  rw [eqv_ints]
theorem gNe_ll (xs ys : List Int) : gNe (.list (xs.map D.int)) (.list (ys.map D.int)) = .ok (.bool (!decide (xs = ys))) := by
  unfold gNe
  rw [if_pos ⟨shaped_ints xs, shaped_ints ys⟩]
  show Res.ok (D.bool (!PyData.eqvAll _ _)) = _
  rw [eqv_ints]
theorem gEq_tt (xs ys : List Int) : gEq (.tuple (xs.map D.int)) (.tuple (ys.map D.int)) = .ok (.bool (decide (xs = ys))) := by
  unfold gEq
  rw [if_pos ⟨shaped_tints xs, shaped_tints ys⟩]
  show Res.ok (D.bool (PyData.eqvAll _ _)) = _
  rw [eqv_ints]
theorem gNe_tt (xs ys : List Int) : gNe (.tuple (xs.map D.int)) (.tuple (ys.map D.int)) = .ok (.bool (!decide (xs = ys))) := by
  unfold gNe
  rw [if_pos ⟨shaped_tints xs, shaped_tints ys⟩]
  show Res.ok (D.bool (!PyData.eqvAll _ _)) = _
  rw [eqv_ints]
/-- lists of lists of ints -/
theorem eqv_intss : ∀ (xs ys : List (List Int)), PyData.eqvAll (toPs (xs.map fun l => D.list (l.map D.int))) (toPs (ys.map fun l => D.list (l.map D.int))) = decide (xs = ys)
  | [], [] => rfl
  | [], _ :: _ => rfl
  | _ :: _, [] => rfl
  | x :: xs, y :: ys => by
    show (PyData.eqvAll (toPs (x.map D.int)) (toPs (y.map D.int)) && PyData.eqvAll (toPs (xs.map fun l => D.list (l.map D.int))) (toPs (ys.map fun l => D.list (l.map D.int)))) = _
    rw [eqv_ints, eqv_intss xs ys]
    by_cases h : x = y
    · subst h
      by_cases h2 : xs = ys
      · subst h2
        simp
      · simp [h2]
    · simp [h]
theorem lay_intss : ∀ (xs : List (List Int)), PyData.canLayAll0 (toPs (xs.map fun l => D.list (l.map D.int))) = true
  | [] => rfl
  | x :: xs => by
    show (PyData.canLayAll0 (toPs (x.map D.int)) && PyData.canLayAll0 (toPs (xs.map fun l => D.list (l.map D.int)))) = true
    rw [lay_ints, lay_intss xs]
    rfl
theorem depth_intss : ∀ (xs : List (List Int)), PyData.depthAll (toPs (xs.map fun l => D.list (l.map D.int))) ≤ 1
  | [] => Nat.zero_le _
  | x :: xs => by
    show max (PyData.depthAll (toPs (x.map D.int)) + 1) (PyData.depthAll (toPs (xs.map fun l => D.list (l.map D.int)))) ≤ 1
    rw [depth_ints]
    exact Nat.max_le.mpr ⟨Nat.le_refl _, depth_intss xs⟩
theorem shaped_intss (xs : List (List Int)) : SeqAt.shaped (toP (.list (xs.map fun l => D.list (l.map D.int)))) = true := by
  unfold SeqAt.shaped
  rw [Bool.and_eq_true]
  refine ⟨lay_intss xs, decide_eq_true ?_⟩
  show PyData.depthAll (toPs (xs.map fun l => D.list (l.map D.int))) + 1 ≤ 64
  have := depth_intss xs
  omega
theorem gEq_LL (xs ys : List (List Int)) : gEq (.list (xs.map fun l => D.list (l.map D.int))) (.list (ys.map fun l => D.list (l.map D.int))) = .ok (.bool (decide (xs = ys))) := by
  unfold gEq
  rw [if_pos ⟨shaped_intss xs, shaped_intss ys⟩]
  show Res.ok (D.bool (PyData.eqvAll _ _)) = _
  rw [eqv_intss]
theorem gNe_LL (xs ys : List (List Int)) : gNe (.list (xs.map fun l => D.list (l.map D.int))) (.list (ys.map fun l => D.list (l.map D.int))) = .ok (.bool (!decide (xs = ys))) := by
  unfold gNe
  rw [if_pos ⟨shaped_intss xs, shaped_intss ys⟩]
  show Res.ok (D.bool (!PyData.eqvAll _ _)) = _
  rw [eqv_intss]
theorem seq_nx (e : Env) (h : Env → Out) : (Out.nx e).seq h = h e := rfl
theorem seq_ex (n : Nat) (e : Env) (h : Env → Out) : (Out.ex n e).seq h = .ex n e := rfl
theorem seq_bad (h : Env → Out) : Out.bad.seq h = .bad := rfl
theorem seq_bk (e : Env) (h : Env → Out) : (Out.bk e).seq h = .bk e := rfl
theorem seq_ct (e : Env) (h : Env → Out) : (Out.ct e).seq h = .ct e := rfl
theorem bind_ok {α β : Type} (a : α) (k : α → Res β) : (Res.ok a).bind k = k a := rfl
theorem bind_ex {α β : Type} (n : Nat) (k : α → Res β) : (Res.ex n : Res α).bind k = .ex n := rfl
theorem bind_bad {α β : Type} (k : α → Res β) : (Res.bad : Res α).bind k = .bad := rfl
theorem map_ok {α β : Type} (a : α) (f : α → β) : (Res.ok a).map f = .ok (f a) := rfl
theorem map_ex {α β : Type} (n : Nat) (f : α → β) : (Res.ex n : Res α).map f = .ex n := rfl
theorem map_bad {α β : Type} (f : α → β) : (Res.bad : Res α).map f = .bad := rfl
theorem nox_ok {α : Type} (a : α) : (Res.ok a).nox = .ok a := rfl
theorem gAdd_ii (i j : Int) : gAdd (.int i) (.int j) = .ok (.int (i + j)) := rfl
theorem gSub_ii (i j : Int) : gSub (.int i) (.int j) = .ok (.int (i - j)) := rfl
theorem gAnd_ii (i j : Int) : gAnd (.int i) (.int j) = .ok (.int (Builtin.bitAnd i j)) := rfl
theorem gOr_ii (i j : Int) : gOr (.int i) (.int j) = .ok (.int (Builtin.bitOr i j)) := rfl
theorem gXor_ii (i j : Int) : gXor (.int i) (.int j) = .ok (.int (Builtin.bitXor i j)) := rfl
theorem gLt_ii (i j : Int) : gLt (.int i) (.int j) = .ok (.bool (decide (i < j))) := rfl
theorem gLe_ii (i j : Int) : gLe (.int i) (.int j) = .ok (.bool (decide (i ≤ j))) := rfl
theorem gGt_ii (i j : Int) : gGt (.int i) (.int j) = .ok (.bool (decide (j < i))) := rfl
theorem gGe_ii (i j : Int) : gGe (.int i) (.int j) = .ok (.bool (decide (j ≤ i))) := rfl
theorem gMul_ii (i j : Int) : gMul (.int i) (.int j) = if Builtin.Int.intBits i + Builtin.Int.intBits j ≤ 134217728 then .ok (.int (i * j)) else .bad := by
  unfold gMul i2
  dsimp only
  by_cases h : Builtin.Int.intBits i + Builtin.Int.intBits j ≤ 134217728
  · rw [if_pos h, if_pos (decide_eq_true h)]
  · rw [if_neg h, if_neg (by simpa using h)]
theorem gDiv_ii (i j : Int) : gDiv (.int i) (.int j) = if 0 < j ∧ j.natAbs.log2 < 9000 then .ok (.int (i / j)) else .bad := by
  unfold gDiv i2
  dsimp only
  by_cases h : 0 < j ∧ j.natAbs.log2 < 9000
  · rw [if_pos h, if_pos (decide_eq_true h)]
  · rw [if_neg h, if_neg (by simpa using h)]
theorem gMod_ii (i j : Int) : gMod (.int i) (.int j) = if 0 < j then .ok (.int (i % j)) else .bad := by
  unfold gMod i2
  dsimp only
  by_cases h : 0 < j
  · rw [if_pos h, if_pos (decide_eq_true h)]
  · rw [if_neg h, if_neg (by simpa using h)]
theorem gPow_s {i j : Int} (h0 : 0 ≤ j) (h1 : j ≤ 1000000) (g0 : 0 ≤ i) (g1 : i ≤ 1000000) : gPow (.int i) (.int j) = .ok (.int (i ^ j.toNat)) := by
  have q : (2 : Nat) ^ 64 = 18446744073709551616 := by decide
  unfold gPow i2
  dsimp only
  rw [if_pos (decide_eq_true ⟨h0, by omega, by omega⟩)]
theorem gShl_ii (i j : Int) : gShl (.int i) (.int j) = if 0 ≤ j ∧ Builtin.Int.intBits i + j.toNat ≤ 134217728 then .ok (.int (i * 2 ^ j.toNat)) else .bad := by
  unfold gShl i2
  dsimp only
  by_cases h : 0 ≤ j ∧ Builtin.Int.intBits i + j.toNat ≤ 134217728
  · rw [if_pos h, if_pos (decide_eq_true h)]
  · rw [if_neg h, if_neg (fun q => h (of_decide_eq_true q))]
theorem gShr_ii (i j : Int) : gShr (.int i) (.int j) = if 0 ≤ j then .ok (.int (i / 2 ^ j.toNat)) else .bad := by
  unfold gShr i2
  dsimp only
  by_cases h : 0 ≤ j
  · rw [if_pos h, if_pos (decide_eq_true h)]
  · rw [if_neg h, if_neg (by simpa using h)]
/-- bits -/
theorem and_mask (i : Int) (k : Nat) : Builtin.bitAnd i (2 ^ k - 1) = i % 2 ^ k := PySem.W.kbt_mask i k
theorem and_255 (i : Int) : Builtin.bitAnd i 255 = i % 256 := and_mask i 8
/-- an int of so many bits at most -/
theorem bits_le_iff {n : Int} {k : Nat} : Builtin.Int.intBits n ≤ k ↔ n.natAbs < 2 ^ k := by
  unfold Builtin.Int.intBits
  by_cases hm : n = 0
  · subst hm
    have : (0 : Nat) < 2 ^ k := Nat.two_pow_pos k
    simp [this]
  · have h1 : (n == 0) = false := by simpa using hm
    have h2 : n.natAbs ≠ 0 := by omega
    rw [h1]
    show n.natAbs.log2 + 1 ≤ k ↔ n.natAbs < 2 ^ k
    rw [← Nat.log2_lt h2]
    omega
noncomputable def rng1 (j : Int) : Res (List D) := @ite _ ((-j).toNat ≤ 1000000000 ∧ j.toNat ≤ 1000000000) (Classical.propDecidable _) (.ok (rngD 0 1 j.toNat)) .bad
noncomputable def rng2 (i j : Int) : Res (List D) := @ite _ ((-i).toNat ≤ 1000000000 ∧ i.toNat ≤ 1000000000 ∧ (-j).toNat ≤ 1000000000 ∧ j.toNat ≤ 1000000000) (Classical.propDecidable _) (.ok (rngD i 1 (j - i).toNat)) .bad
noncomputable def rg1 (ds : List D) : Res (List D) := match ds with
  | [.int j] => rng1 j
  | _ => .bad
noncomputable def rg2 (ds : List D) : Res (List D) := match ds with
  | [.int i, .int j] => rng2 i j
  | _ => .bad
theorem iR1_eq (fs : Env → Res (List D)) : iR1 fs = fun env => (fs env).bind rg1 := rfl
theorem iR2_eq (fs : Env → Res (List D)) : iR2 fs = fun env => (fs env).bind rg2 := rfl
theorem rg1_i (j : Int) : rg1 [.int j] = rng1 j := rfl
theorem rg2_i (i j : Int) : rg2 [.int i, .int j] = rng2 i j := rfl
noncomputable def rng3 (i j c : Int) : Res (List D) := @ite _ (c ≠ 0 ∧ c.natAbs < 1073741824 ∧ Builtin.Range.small i j c = true ∧ 0 ≤ Builtin.Range.rangeSize i j c) (Classical.propDecidable _) (.ok (rngD i c (Builtin.Range.rangeSize i j c).toNat)) .bad
noncomputable def rg3 (ds : List D) : Res (List D) := match ds with
  | [.int i, .int j, .int c] => rng3 i j c
  | _ => .bad
theorem iR3_eq (fs : Env → Res (List D)) : iR3 fs = fun env => (fs env).bind rg3 := rfl
theorem rg3_i (i j c : Int) : rg3 [.int i, .int j, .int c] = rng3 i j c := rfl
theorem rng1_of {j : Int} (h0 : 0 ≤ j) (h : j ≤ 1000000) : rng1 j = .ok (rngD 0 1 j.toNat) := if_pos ⟨by omega, by omega⟩
theorem rng2_of {i j : Int} (h0 : 0 ≤ i) (h : i ≤ 1000000) (g0 : 0 ≤ j) (g : j ≤ 1000000) : rng2 i j = .ok (rngD i 1 (j - i).toNat) := if_pos ⟨by omega, by omega, by omega, by omega⟩
theorem gDiv_s (i : Int) {j : Int} (h : 0 < j) (h2 : j ≤ 18446744073709551616) : gDiv (.int i) (.int j) = .ok (.int (i / j)) := by
  have q : j.natAbs.log2 < 65 := (Nat.log2_lt (by omega)).mpr (by
    have : (2 : Nat) ^ 65 = 36893488147419103232 := by decide
    omega)
  rw [gDiv_ii, if_pos ⟨h, by omega⟩]
theorem gMod_s (i : Int) {j : Int} (h : 0 < j) : gMod (.int i) (.int j) = .ok (.int (i % j)) := by
  rw [gMod_ii, if_pos h]
theorem gShr_s (i : Int) {j : Int} (h0 : 0 ≤ j) : gShr (.int i) (.int j) = .ok (.int (i / 2 ^ j.toNat)) := by
  rw [gShr_ii, if_pos h0]
/-- the script's numbers -/
def cell (ns : List Int) (k : Nat) : Int := ns.getD k 0
theorem atI_ofNat {α : Type} (xs : List α) (k : Nat) : atI xs (k : Int) = xs[k]? := by
  unfold atI ixN
  rw [if_pos (by omega)]
  by_cases h : k < xs.length
  · rw [if_pos (by omega)]
    rfl
  · rw [if_neg (by omega)]
    exact (List.getElem?_eq_none (by omega)).symm
theorem gIx_list {xs : List D} {k : Nat} {d : D} (h : xs[k]? = some d) : gIx (.list xs) (.int (k : Int)) = .ok d := by
  unfold gIx
  dsimp only
  rw [atI_ofNat, h]
theorem gIx_ints {xs : List Int} {k : Nat} {n : Int} (h : xs[k]? = some n) : gIx (.list (xs.map D.int)) (.int (k : Int)) = .ok (.int n) := by
  exact gIx_list (by rw [List.getElem?_map, h]; rfl)
theorem gIx_scr {ns : List Int} {k : Nat} {n : Int} (h : ns[k]? = some n) : gIx (.scr ns) (.int (k : Int)) = .ok (.int n) := by
  unfold gIx
  dsimp only
  rw [atI_ofNat, h]
theorem pow256 (k : Nat) : (256 : Int) ^ k = ((2 ^ (8 * k) : Nat) : Int) := by
  rw [Nat.pow_mul, Int.natCast_pow]
  rfl
theorem pow256_pos (k : Nat) : (0 : Int) < 256 ^ k := Int.pow_pos (by decide)
theorem natAbs_lt_pow {n : Int} {k : Nat} (h0 : 0 ≤ n) : n.natAbs < 2 ^ (8 * k) ↔ n < 256 ^ k := by
  rw [pow256]
  omega
/-- the bytes of a number, the lowest first -/
def tl : Nat → Int → List Int
  | 0, _ => []
  | k + 1, n => (n % 256) :: tl k (n / 256)
theorem tl_length : ∀ (k : Nat) (n : Int), (tl k n).length = k
  | 0, _ => rfl
  | k + 1, n => by
    show (tl k (n / 256)).length + 1 = k + 1
    rw [tl_length k]
theorem tl_byte : ∀ (k : Nat) (n : Int), ∀ b ∈ tl k n, 0 ≤ b ∧ b < 256
  | 0, _, b, h => by cases h
  | k + 1, n, b, h => by
    rcases List.mem_cons.mp h with e | e
    · subst e
      exact ⟨Int.emod_nonneg _ (by decide), Int.emod_lt_of_pos _ (by decide)⟩
    · exact tl_byte k _ b e
/-- the number of bytes, the lowest first -/
def ofL : List Int → Int
  | [] => 0
  | b :: bs => b + 256 * ofL bs
theorem ofL_tl : ∀ (k : Nat) (n : Int), 0 ≤ n → n < 256 ^ k → ofL (tl k n) = n
  | 0, n, h0, h => by
    rw [Int.pow_zero] at h
    show (0 : Int) = n
    omega
  | k + 1, n, h0, h => by
    show n % 256 + 256 * ofL (tl k (n / 256)) = n
    rw [Int.pow_succ] at h
    rw [ofL_tl k (n / 256) (by omega) (by omega)]
    omega
theorem ofL_bound : ∀ (bs : List Int), (∀ b ∈ bs, 0 ≤ b ∧ b < 256) → 0 ≤ ofL bs ∧ ofL bs < 256 ^ bs.length
  | [], _ => ⟨Int.le_refl _, by show (0 : Int) < 256 ^ 0; decide⟩
  | b :: bs, h => by
    obtain ⟨h1, h2⟩ := ofL_bound bs fun x hx => h x (List.mem_cons_of_mem _ hx)
    obtain ⟨g1, g2⟩ := h b List.mem_cons_self
    show 0 ≤ b + 256 * ofL bs ∧ b + 256 * ofL bs < 256 ^ (bs.length + 1)
    rw [Int.pow_succ]
    omega
theorem ofL_append : ∀ (bs cs : List Int), ofL (bs ++ cs) = ofL bs + 256 ^ bs.length * ofL cs
  | [], cs => by
    show ofL cs = 0 + 256 ^ 0 * ofL cs
    rw [Int.pow_zero]
    omega
  | b :: bs, cs => by
    show b + 256 * ofL (bs ++ cs) = (b + 256 * ofL bs) + 256 ^ (bs.length + 1) * ofL cs
    rw [ofL_append bs cs, Int.pow_succ, Int.mul_add, Int.mul_comm (256 ^ bs.length) 256, Int.mul_assoc]
    omega
/-! ### with room told by lengths and sizes -/
theorem fit_of {ds : List D} (h : ds.length ≤ 16777216) : fit ds = .ok ds := by
  unfold fit
  rw [if_pos h]
theorem gCat_of {xs ys : List D} (h : xs.length + ys.length ≤ 16777216) : gCat (.list xs) (.list ys) = .ok (xs ++ ys) := by
  unfold gCat
  dsimp only
  rw [fit_of (by rw [List.length_append]; exact h)]
theorem bits64 {i : Int} (h1 : -18446744073709551616 < i) (h2 : i < 18446744073709551616) : Builtin.Int.intBits i ≤ 64 := bits_le_iff.mpr (by
  have q : (2 : Nat) ^ 64 = 18446744073709551616 := by decide
  omega)
theorem gMul_s {i j : Int} (h1 : -18446744073709551616 < i) (h2 : i < 18446744073709551616) (h3 : -18446744073709551616 < j) (h4 : j < 18446744073709551616) : gMul (.int i) (.int j) = .ok (.int (i * j)) := by
  rw [gMul_ii, if_pos]
  have := bits64 h1 h2
  have := bits64 h3 h4
  omega
theorem gMul_b {i j : Int} (h : Builtin.Int.intBits i + Builtin.Int.intBits j ≤ 134217728) : gMul (.int i) (.int j) = .ok (.int (i * j)) := by
  rw [gMul_ii, if_pos h]
theorem gShl_s {i j : Int} (h1 : -18446744073709551616 < i) (h2 : i < 18446744073709551616) (h3 : 0 ≤ j) (h4 : j ≤ 1000000) : gShl (.int i) (.int j) = .ok (.int (i * 2 ^ j.toNat)) := by
  rw [gShl_ii, if_pos]
  have := bits64 h1 h2
  refine ⟨h3, ?_⟩
  omega
theorem gShl_b {i j : Int} (h3 : 0 ≤ j) (h : Builtin.Int.intBits i + j.toNat ≤ 134217728) : gShl (.int i) (.int j) = .ok (.int (i * 2 ^ j.toNat)) := by
  rw [gShl_ii, if_pos ⟨h3, h⟩]
theorem all_scal_ints (xs : List Int) : (xs.map D.int).all scal = true := by
  rw [List.all_map]
  exact List.all_eq_true.mpr fun _ _ => rfl
theorem fit_0 : fit ([] : List D) = .ok [] := rfl
theorem fit_1 (a0 : D) : fit [a0] = .ok [a0] := rfl
theorem fit_2 (a0 a1 : D) : fit [a0, a1] = .ok [a0, a1] := rfl
theorem fit_3 (a0 a1 a2 : D) : fit [a0, a1, a2] = .ok [a0, a1, a2] := rfl
theorem fit_4 (a0 a1 a2 a3 : D) : fit [a0, a1, a2, a3] = .ok [a0, a1, a2, a3] := rfl
theorem fit_5 (a0 a1 a2 a3 a4 : D) : fit [a0, a1, a2, a3, a4] = .ok [a0, a1, a2, a3, a4] := rfl
theorem fit_6 (a0 a1 a2 a3 a4 a5 : D) : fit [a0, a1, a2, a3, a4, a5] = .ok [a0, a1, a2, a3, a4, a5] := rfl
theorem fit_7 (a0 a1 a2 a3 a4 a5 a6 : D) : fit [a0, a1, a2, a3, a4, a5, a6] = .ok [a0, a1, a2, a3, a4, a5, a6] := rfl
theorem fit_8 (a0 a1 a2 a3 a4 a5 a6 a7 : D) : fit [a0, a1, a2, a3, a4, a5, a6, a7] = .ok [a0, a1, a2, a3, a4, a5, a6, a7] := rfl
theorem fit_9 (a0 a1 a2 a3 a4 a5 a6 a7 a8 : D) : fit [a0, a1, a2, a3, a4, a5, a6, a7, a8] = .ok [a0, a1, a2, a3, a4, a5, a6, a7, a8] := rfl
theorem fit_10 (a0 a1 a2 a3 a4 a5 a6 a7 a8 a9 : D) : fit [a0, a1, a2, a3, a4, a5, a6, a7, a8, a9] = .ok [a0, a1, a2, a3, a4, a5, a6, a7, a8, a9] := rfl
theorem fit_11 (a0 a1 a2 a3 a4 a5 a6 a7 a8 a9 a10 : D) : fit [a0, a1, a2, a3, a4, a5, a6, a7, a8, a9, a10] = .ok [a0, a1, a2, a3, a4, a5, a6, a7, a8, a9, a10] := rfl
theorem fit_12 (a0 a1 a2 a3 a4 a5 a6 a7 a8 a9 a10 a11 : D) : fit [a0, a1, a2, a3, a4, a5, a6, a7, a8, a9, a10, a11] = .ok [a0, a1, a2, a3, a4, a5, a6, a7, a8, a9, a10, a11] := rfl
theorem fit_13 (a0 a1 a2 a3 a4 a5 a6 a7 a8 a9 a10 a11 a12 : D) : fit [a0, a1, a2, a3, a4, a5, a6, a7, a8, a9, a10, a11, a12] = .ok [a0, a1, a2, a3, a4, a5, a6, a7, a8, a9, a10, a11, a12] := rfl
theorem fit_14 (a0 a1 a2 a3 a4 a5 a6 a7 a8 a9 a10 a11 a12 a13 : D) : fit [a0, a1, a2, a3, a4, a5, a6, a7, a8, a9, a10, a11, a12, a13] = .ok [a0, a1, a2, a3, a4, a5, a6, a7, a8, a9, a10, a11, a12, a13] := rfl
theorem fit_15 (a0 a1 a2 a3 a4 a5 a6 a7 a8 a9 a10 a11 a12 a13 a14 : D) : fit [a0, a1, a2, a3, a4, a5, a6, a7, a8, a9, a10, a11, a12, a13, a14] = .ok [a0, a1, a2, a3, a4, a5, a6, a7, a8, a9, a10, a11, a12, a13, a14] := rfl
theorem fit_16 (a0 a1 a2 a3 a4 a5 a6 a7 a8 a9 a10 a11 a12 a13 a14 a15 : D) : fit [a0, a1, a2, a3, a4, a5, a6, a7, a8, a9, a10, a11, a12, a13, a14, a15] = .ok [a0, a1, a2, a3, a4, a5, a6, a7, a8, a9, a10, a11, a12, a13, a14, a15] := rfl
end L2.FO

set_option Elab.async false
set_option linter.all false
set_option maxRecDepth 100000
set_option maxHeartbeats 4000000
namespace L2.FO
open PySem PySem.Spec PyProof.Rows
theorem bAnd_nn (a b : Nat) : Builtin.bitAnd (a : Int) (b : Int) = ((a &&& b : Nat) : Int) := by
  unfold Builtin.bitAnd
  rw [decide_eq_true (show (0 : Int) ≤ a by omega), decide_eq_true (show (0 : Int) ≤ b by omega)]
  rfl
theorem bOr_nn (a b : Nat) : Builtin.bitOr (a : Int) (b : Int) = ((a ||| b : Nat) : Int) := by
  have h : ∀ c : Nat, decide (0 ≤ Builtin.bitNot (c : Int)) = false := fun c => decide_eq_false (by unfold Builtin.bitNot; omega)
  have g : ∀ c : Nat, Builtin.bitNot (Builtin.bitNot (c : Int)) = c := fun c => by unfold Builtin.bitNot; omega
  unfold Builtin.bitOr Builtin.bitAnd
  rw [h a, h b]
  dsimp only
  rw [g, g, g]
  rfl
theorem or_xor_and : ∀ (k a b : Nat), a < 2 ^ k → (a ||| b) = (a ^^^ b) + (a &&& b)
  | 0, a, b, h => by
    have : a = 0 := by
      rw [Nat.pow_zero] at h
      omega
    subst this
    rw [Nat.zero_or, Nat.zero_xor, Nat.zero_and]
    rfl
  | k + 1, a, b, h => by
    have q := or_xor_and k (a / 2) (b / 2) (by rw [Nat.pow_succ] at h; omega)
    rw [← Nat.or_div_two, ← Nat.xor_div_two, ← Nat.and_div_two] at q
    have m : ∀ x : Nat, x % 2 = x % 2 ^ 1 := fun x => rfl
    have q1 : (a ||| b) % 2 = (a % 2) ||| (b % 2) := by rw [m (a ||| b), Nat.or_mod_two_pow]
    have q2 : (a ^^^ b) % 2 = (a % 2) ^^^ (b % 2) := by rw [m (a ^^^ b), Nat.xor_mod_two_pow]
    have q3 : (a &&& b) % 2 = (a % 2) &&& (b % 2) := by rw [m (a &&& b), Nat.and_mod_two_pow]
    rcases Nat.mod_two_eq_zero_or_one a with ha | ha <;> rcases Nat.mod_two_eq_zero_or_one b with hb | hb <;> rw [ha, hb] at q1 q2 q3
    · have r1 : (a ||| b) % 2 = 0 := q1
      have r2 : (a ^^^ b) % 2 = 0 := q2
      have r3 : (a &&& b) % 2 = 0 := q3
      omega
    · have r1 : (a ||| b) % 2 = 1 := q1
      have r2 : (a ^^^ b) % 2 = 1 := q2
      have r3 : (a &&& b) % 2 = 0 := q3
      omega
    · have r1 : (a ||| b) % 2 = 1 := q1
      have r2 : (a ^^^ b) % 2 = 1 := q2
      have r3 : (a &&& b) % 2 = 0 := q3
      omega
    · have r1 : (a ||| b) % 2 = 1 := q1
      have r2 : (a ^^^ b) % 2 = 0 := q2
      have r3 : (a &&& b) % 2 = 1 := q3
      omega
theorem bXor_nn (a b : Nat) : Builtin.bitXor (a : Int) (b : Int) = ((a ^^^ b : Nat) : Int) := by
  unfold Builtin.bitXor
  rw [bOr_nn, bAnd_nn, or_xor_and a a b Nat.lt_two_pow_self]
  omega
theorem bMask_n (a k : Nat) : Builtin.bitAnd (a : Int) (2 ^ k - 1) = ((a % 2 ^ k : Nat) : Int) := by
  rw [and_mask]
  rw [Int.natCast_emod, Int.natCast_pow]
  rfl
theorem bMask32 (a : Int) : Builtin.bitAnd a 4294967295 = a % 4294967296 := and_mask a 32
theorem shr_n (a k : Nat) : (a : Int) / 2 ^ k = ((a / 2 ^ k : Nat) : Int) := by
  rw [Int.natCast_ediv, Int.natCast_pow]
  rfl
/-- a word beside itself -/
theorem tw_or {x : Nat} (h : x < 4294967296) : (x * 4294967296 ||| x) = x * 4294967296 + x := by
  have q := Nat.shiftLeft_add_eq_or_of_lt (i := 32) (b := x) (by
    have : (2 : Nat) ^ 32 = 4294967296 := by decide
    omega) x
  rw [Nat.shiftLeft_eq, show (2 : Nat) ^ 32 = 4294967296 from by decide] at q
  exact q.symm
/-- a word turned by so many bits to the right -/
def rr (x c : Nat) : Nat := (x * 4294967296 + x) / 2 ^ c % 4294967296
theorem rr_val {x c d : Nat} (h : x < 4294967296) (hc : c + d = 32) (h0 : 0 < c) : rr x c = x / 2 ^ c + x * 2 ^ d % 4294967296 := by
  unfold rr
  have e32 : (4294967296 : Nat) = 2 ^ d * 2 ^ c := by
    rw [← Nat.pow_add, Nat.add_comm d c, hc]
  have hp : 0 < 2 ^ c := Nat.two_pow_pos c
  have e1 : (x * 4294967296 + x) / 2 ^ c = x * 2 ^ d + x / 2 ^ c := by
    rw [e32, ← Nat.mul_assoc, Nat.add_comm, Nat.add_mul_div_right _ _ hp, Nat.add_comm]
  rw [e1]
  have h1 : x / 2 ^ c < 2 ^ d := (Nat.div_lt_iff_lt_mul hp).mpr (by rw [← e32]; exact h)
  have h2 : x * 2 ^ d % 4294967296 = 2 ^ d * (x % 2 ^ c) := by
    rw [e32, Nat.mul_comm x, Nat.mul_mod_mul_left]
  have h3 : x % 2 ^ c < 2 ^ c := Nat.mod_lt _ hp
  have h4 : 2 ^ d * (x % 2 ^ c) + x / 2 ^ c < 4294967296 := by
    have : 2 ^ d * (x % 2 ^ c + 1) ≤ 2 ^ d * 2 ^ c := Nat.mul_le_mul_left _ h3
    rw [Nat.mul_add, Nat.mul_one] at this
    omega
  rw [Nat.add_mod, h2, Nat.mod_eq_of_lt (a := x / 2 ^ c) (by omega), Nat.mod_eq_of_lt h4]
  omega
theorem rr_or {x c d : Nat} (h : x < 4294967296) (hc : c + d = 32) (h0 : 0 < c) : (x / 2 ^ c ||| x * 2 ^ d % 4294967296) = rr x c := by
  rw [rr_val h hc h0]
  have e32 : (4294967296 : Nat) = 2 ^ d * 2 ^ c := by
    rw [← Nat.pow_add, Nat.add_comm d c, hc]
  have h1 : x / 2 ^ c < 2 ^ d := (Nat.div_lt_iff_lt_mul (Nat.two_pow_pos c)).mpr (by rw [← e32]; exact h)
  have h2 : x * 2 ^ d % 4294967296 = 2 ^ d * (x % 2 ^ c) := by
    rw [e32, Nat.mul_comm x, Nat.mul_mod_mul_left]
  have q := Nat.shiftLeft_add_eq_or_of_lt h1 (x % 2 ^ c)
  rw [Nat.shiftLeft_eq, Nat.mul_comm (x % 2 ^ c)] at q
  rw [h2, Nat.or_comm, ← q, Nat.add_comm]
theorem rr_lt (x c : Nat) : rr x c < 4294967296 := Nat.mod_lt _ (by decide)
/-- the two half turns of a schedule -/
def hz (x : Nat) : Nat := rr x 7 ^^^ rr x 18 ^^^ x / 2 ^ 3
def ho (x : Nat) : Nat := rr x 17 ^^^ rr x 19 ^^^ x / 2 ^ 10
theorem xor3_mod (a b c : Nat) : (a ^^^ b ^^^ c) % 4294967296 = (a % 4294967296) ^^^ (b % 4294967296) ^^^ (c % 4294967296) := by
  have e : (4294967296 : Nat) = 2 ^ 32 := by decide
  rw [e, Nat.xor_mod_two_pow, Nat.xor_mod_two_pow]
theorem tw_half {x : Nat} (i j k : Nat) (h : x < 4294967296) : ((x * 4294967296 + x) / 2 ^ i ^^^ (x * 4294967296 + x) / 2 ^ j ^^^ x / 2 ^ k) % 4294967296 = rr x i ^^^ rr x j ^^^ x / 2 ^ k := by
  rw [xor3_mod]
  have : x / 2 ^ k ≤ x := Nat.div_le_self _ _
  rw [Nat.mod_eq_of_lt (a := x / 2 ^ k) (by omega)]
  rfl
/-- a comprehension whose element is told for each item -/
theorem compR_on {α : Type} {i : Nat} {f : Env → Res D} {env : Env} (h g : α → D) : ∀ (js : List α), (∀ j ∈ js, f (env.set i (.val (h j))) = .ok (g j)) → compR (.nm i) cYes f env (js.map h) = .ok (js.map g)
  | [], _ => rfl
  | j :: js, q => by
    have q1 := q j List.mem_cons_self
    have q2 := compR_on h g js fun k hk => q k (List.mem_cons_of_mem _ hk)
    rw [List.map_cons, List.map_cons]
    unfold compR
    show ((f (env.set i (.val (h j)))).nox.bind fun y => (compR (.nm i) cYes f env (js.map h)).bind fun ys => Res.ok (y :: ys)) = _
    rw [q1, q2]
    rfl
theorem sIx_nn {n d s : Nat} (h : s ≤ n) : HT.sIx n d (some (s : Int)) = s := by
  unfold HT.sIx
  dsimp only
  rw [if_neg (by omega), Int.toNat_natCast, Nat.min_eq_left h]
theorem cut_nn {xs : List D} {s e : Nat} (h : s ≤ xs.length) (h2 : e ≤ xs.length) : cutD xs (some (s : Int)) (some (e : Int)) = (xs.drop s).take (e - s) := by
  unfold cutD
  rw [sIx_nn h, sIx_nn h2]
theorem cut_to {xs : List D} {e : Nat} (h2 : e ≤ xs.length) : cutD xs none (some (e : Int)) = xs.take e := by
  unfold cutD
  rw [sIx_nn h2]
  show (xs.drop 0).take (e - 0) = _
  rw [List.drop_zero, Nat.sub_zero]
theorem cut_from {xs : List D} {s : Nat} (h2 : s ≤ xs.length) : cutD xs (some (s : Int)) none = xs.drop s := by
  unfold cutD
  rw [sIx_nn h2]
  show (xs.drop s).take (xs.length - s) = _
  rw [List.take_of_length_le (by rw [List.length_drop]; exact Nat.le_refl _)]
theorem cut_over {xs : List D} {e : Nat} (h2 : xs.length ≤ e) : cutD xs none (some (e : Int)) = xs := by
  unfold cutD HT.sIx
  dsimp only
  rw [if_neg (by omega), Int.toNat_natCast, Nat.min_eq_right h2, List.drop_zero, Nat.sub_zero, List.take_length]
theorem cR_nil (t : Tg) (c : Env → Res Bool) (f : Env → Res D) (env : Env) : compR t c f env [] = .ok [] := rfl
theorem cR_cons (i : Nat) (f : Env → Res D) (env : Env) (d : D) (ds : List D) : compR (.nm i) cYes f env (d :: ds) = (f (env.set i (.val d))).nox.bind fun y => (compR (.nm i) cYes f env ds).bind fun ys => .ok (y :: ys) := rfl
theorem cR_consT (i j : Nat) (f : Env → Res D) (env : Env) (x y : D) (ds : List D) : compR (.tp [i, j]) cYes f env (.tuple [x, y] :: ds) = (f ((env.set i (.val x)).set j (.val y))).nox.bind fun y => (compR (.tp [i, j]) cYes f env ds).bind fun ys => .ok (y :: ys) := rfl
end L2.FO

set_option Elab.async false
set_option linter.all false
set_option maxRecDepth 100000
set_option maxHeartbeats 4000000
namespace L2.FO
open PySem PySem.Spec PyProof.Rows
/-! ### lists of ints, loops, ranges -/
abbrev IL (xs : List Int) : D := .list (xs.map .int)
def okB (bs : List Int) : Prop := ∀ b ∈ bs, 0 ≤ b ∧ b < 256
theorem okB.nil : okB [] := fun b h => by cases h
theorem okB.cons {b : Int} {bs : List Int} (h : okB (b :: bs)) : (0 ≤ b ∧ b < 256) ∧ okB bs := ⟨h b List.mem_cons_self, fun x hx => h x (List.mem_cons_of_mem _ hx)⟩
theorem okB.mk {b : Int} {bs : List Int} (h0 : 0 ≤ b) (h1 : b < 256) (h : okB bs) : okB (b :: bs) := fun x hx => by
  rcases List.mem_cons.mp hx with e | e
  · rw [e]
    exact ⟨h0, h1⟩
  · exact h x e
theorem okB.app {as bs : List Int} (h : okB as) (g : okB bs) : okB (as ++ bs) := fun b hb => by
  rcases List.mem_append.mp hb with q | q
  · exact h b q
  · exact g b q
theorem okB.rev {bs : List Int} (h : okB bs) : okB bs.reverse := fun b hb => h b (List.mem_reverse.mp hb)
theorem okB.take {bs : List Int} (h : okB bs) (n : Nat) : okB (bs.take n) := fun b hb => h b (List.mem_of_mem_take hb)
theorem okB.drop {bs : List Int} (h : okB bs) (n : Nat) : okB (bs.drop n) := fun b hb => h b (List.mem_of_mem_drop hb)
theorem okB.rep (n : Nat) {b : Int} (h : 0 ≤ b ∧ b < 256) : okB (List.replicate n b) := fun x hx => by
  rw [List.eq_of_mem_replicate hx]
  exact h
theorem okB.tl (k : Nat) (n : Int) : okB (tl k n) := tl_byte k n
/-- a loop whose turns all go on, by an invariant of what is left, what is reached, and the state -/
theorem loop_inv {α β : Type} (emb : α → D) {i : Nat} {L : Env → Out} (I : List α → β → Env → Prop) (f : β → α → β)
    (step : ∀ (x : α) (xs : List α) (b : β) (e : Env), I (x :: xs) b e → ∃ e', L (e.set i (.val (emb x))) = .nx e' ∧ I xs (f b x) e') :
    ∀ (xs : List α) (b : β) (e : Env), I xs b e → ∃ e', loopF (.nm i) L (xs.map emb) e = .nx e' ∧ I [] (xs.foldl f b) e'
  | [], b, e, h => ⟨e, rfl, h⟩
  | x :: xs, b, e, h => by
    obtain ⟨e1, h1, h2⟩ := step x xs b e h
    obtain ⟨e2, h3, h4⟩ := loop_inv emb I f step xs (f b x) e1 h2
    refine ⟨e2, ?_, h4⟩
    rw [List.map_cons, lp_cons, h1, lpk_nx]
    exact h3
/-- .. over tuples -/
theorem loop_invT {α β : Type} (emb : α → D) (ps : α → List D) {is : List Nat} {L : Env → Out} (hp : ∀ x, Tg.parts (.tp is) (emb x) = some (ps x)) (I : List α → β → Env → Prop) (f : β → α → β)
    (step : ∀ (x : α) (xs : List α) (b : β) (e : Env), I (x :: xs) b e → ∃ e', L (e.setE is (ps x)) = .nx e' ∧ I xs (f b x) e') :
    ∀ (xs : List α) (b : β) (e : Env), I xs b e → ∃ e', loopF (.tp is) L (xs.map emb) e = .nx e' ∧ I [] (xs.foldl f b) e'
  | [], b, e, h => ⟨e, rfl, h⟩
  | x :: xs, b, e, h => by
    obtain ⟨e1, h1, h2⟩ := step x xs b e h
    obtain ⟨e2, h3, h4⟩ := loop_invT emb ps hp I f step xs (f b x) e1 h2
    refine ⟨e2, ?_, h4⟩
    rw [List.map_cons, lp_consT (hp x), h1, lpk_nx]
    exact h3
theorem rngD_eq (lo : Int) (n : Nat) : rngD lo 1 n = (List.range n).map fun i : Nat => D.int (lo + (i : Int)) := by
  unfold rngD
  refine List.map_congr_left fun i _ => ?_
  rw [Int.mul_one]
theorem rng1_n {z : Int} {n : Nat} (e : z = (n : Int)) (h : n ≤ 1000000) : rng1 z = .ok ((List.range n).map fun i : Nat => D.int (i : Int)) := by
  subst e
  rw [rng1_of (by omega) (by omega), rngD_eq, Int.toNat_natCast]
  congr 1
  refine List.map_congr_left fun i _ => ?_
  rw [Int.zero_add]
theorem rng2_n {y z : Int} {a b : Nat} (e : y = (a : Int)) (e2 : z = (b : Int)) (h : a ≤ 1000000) (h2 : b ≤ 1000000) : rng2 y z = .ok ((List.range (b - a)).map fun i : Nat => D.int ((a + i : Nat) : Int)) := by
  subst e
  subst e2
  rw [rng2_of (by omega) (by omega) (by omega) (by omega), rngD_eq]
  rw [show ((b : Int) - (a : Int)).toNat = b - a by omega]
  congr 1
/-- how many turns -/
def turns (n k : Nat) : Nat := (n + k - 1) / k
theorem rng3_n {y z : Int} {n k : Nat} (e : y = (n : Int)) (e2 : z = (k : Int)) (hn : n ≤ 16777216) (hk : 0 < k) (hk2 : k ≤ 16777216) : rng3 0 y z = .ok ((List.range (turns n k)).map fun i : Nat => D.int ((k * i : Nat) : Int)) := by
  subst e
  subst e2
  have hs : Builtin.Range.rangeSize 0 n k = ((turns n k : Nat) : Int) := by
    unfold Builtin.Range.rangeSize turns
    rw [if_pos (show (k : Int) > 0 by omega)]
    by_cases h0 : n = 0
    · subst h0
      rw [if_neg (by omega)]
      rw [Nat.zero_add, Nat.div_eq_of_lt (by omega)]
      rfl
    · rw [if_pos (by omega)]
      have e3 : n + k - 1 = (n - 1) + k := by omega
      rw [e3, Nat.add_div_right _ hk]
      have e4 : (n : Int) - 0 - 1 = ((n - 1 : Nat) : Int) := by omega
      rw [e4, ← Int.natCast_ediv]
      rfl
  have hsm : Builtin.Range.small 0 n k = true := by
    have ht : turns n k ≤ n := by
      unfold turns
      rcases Nat.eq_zero_or_pos n with z | z
      · subst z
        rw [Nat.div_eq_of_lt (by omega)]
        exact Nat.le_refl _
      · refine Nat.div_le_of_le_mul ?_
        have : n + k ≤ k * n + 1 := by
          cases n with
          | zero => omega
          | succ m =>
            cases k with
            | zero => omega
            | succ j =>
              rw [Nat.mul_succ, Nat.succ_mul]
              omega
        omega
    unfold Builtin.Range.small
    rw [hs]
    simp only [Builtin.Range.rangeFitsLong, Bool.and_eq_true, Bool.or_eq_true, decide_eq_true_eq, beq_iff_eq, show (k : Int) > 0 by omega, if_true]
    omega
  have hc : (k : Int) ≠ 0 ∧ (k : Int).natAbs < 1073741824 ∧ Builtin.Range.small 0 n k = true ∧ 0 ≤ Builtin.Range.rangeSize 0 n k := ⟨by omega, by omega, hsm, by rw [hs]; omega⟩
  have e5 : rng3 0 n k = .ok (rngD 0 k (Builtin.Range.rangeSize 0 n k).toNat) := if_pos hc
  rw [e5, hs, Int.toNat_natCast]
  unfold rngD
  refine congrArg Res.ok (List.map_congr_left fun i _ => ?_)
  refine congrArg D.int ?_
  rw [Int.natCast_mul, Int.mul_comm (k : Int)]
  exact Int.zero_add _
/-- pieces -/
def pieces {α : Type} (k : Nat) (xs : List α) : List (List α) := (List.range (turns xs.length k)).map fun i => (xs.drop (k * i)).take k
theorem bits8 {z : Int} (h0 : 0 ≤ z) {k : Nat} (h : z < 256 ^ k) : Builtin.Int.intBits z ≤ 8 * k := bits_le_iff.mpr ((natAbs_lt_pow h0).mpr h)
theorem fb_val (acc b x y : Int) : (acc * 256 + b) * x + y = acc * (x * 256) + (y + x * (b + 256 * 0)) := by
  rw [Int.mul_zero, Int.add_zero, Int.add_mul, Int.mul_assoc, Int.mul_comm 256 x, Int.mul_comm b]
  omega
theorem fb_fold : ∀ (bs : List Int) (acc : Int), bs.foldl (fun a b => a * 256 + b) acc = acc * 256 ^ bs.length + ofL bs.reverse
  | [], acc => by
    show acc = acc * 256 ^ 0 + 0
    rw [Int.pow_zero]
    omega
  | b :: bs, acc => by
    rw [List.foldl_cons, fb_fold bs, List.reverse_cons, ofL_append, List.length_reverse, List.length_cons, Int.pow_succ, show ofL [b] = b + 256 * 0 from rfl, fb_val]
theorem tl_fold : ∀ (xs : List Nat) (acc : List Int) (m : Int), xs.foldl (fun (p : List Int × Int) _ => (p.1 ++ [p.2 % 256], p.2 / 256)) (acc, m) = (acc ++ tl xs.length m, m / 256 ^ xs.length)
  | [], acc, m => by
    show (acc, m) = (acc ++ [], m / 256 ^ 0)
    rw [List.append_nil, Int.pow_zero, Int.ediv_one]
  | x :: xs, acc, m => by
    rw [List.foldl_cons, tl_fold xs, List.append_assoc, List.length_cons, Int.pow_succ, Int.mul_comm, Int.ediv_ediv_of_nonneg (by decide)]
    rfl
theorem cell_lt {ns : List Int} {k : Nat} (h : k < ns.length) : ns[k]? = some (cell ns k) := by
  unfold cell
  rw [List.getD_eq_getElem?_getD, List.getElem?_eq_getElem h]
  rfl
theorem cell_ge {ns : List Int} {k : Nat} (h : ¬ k < ns.length) : cell ns k = 0 := by
  unfold cell
  rw [List.getD_eq_getElem?_getD, List.getElem?_eq_none (Nat.le_of_not_lt h)]
  rfl
theorem bits_le_of {n m : Int} (h : n.natAbs ≤ m.natAbs) : Builtin.Int.intBits n ≤ Builtin.Int.intBits m := by
  have h1 : m.natAbs < 2 ^ Builtin.Int.intBits m := bits_le_iff.mp (Nat.le_refl _)
  exact bits_le_iff.mpr (by omega)
theorem cell_bits {ns : List Int} (hb : ∀ z ∈ ns, Builtin.Int.intBits z ≤ 1048576) (k : Nat) : Builtin.Int.intBits (cell ns k) ≤ 1048576 := by
  by_cases h : k < ns.length
  · exact hb _ (List.mem_of_getElem? (cell_lt h))
  · rw [cell_ge h]
    decide
/-- a comprehension over a list of items with a test -/
theorem compR_if {α : Type} {i : Nat} {c : Env → Res Bool} {f : Env → Res D} {env : Env} (h g : α → D) (p : α → Bool) : ∀ (js : List α), (∀ j ∈ js, c (env.set i (.val (h j))) = .ok (p j) ∧ (p j = true → f (env.set i (.val (h j))) = .ok (g j))) → compR (.nm i) c f env (js.map h) = .ok ((js.filter p).map g)
  | [], _ => rfl
  | j :: js, q => by
    obtain ⟨q1, q2⟩ := q j List.mem_cons_self
    have q3 := compR_if h g p js fun k hk => q k (List.mem_cons_of_mem _ hk)
    rw [List.map_cons, List.filter_cons]
    unfold compR
    show ((c (env.set i (.val (h j)))).nox.bind fun b => if b = true then (f (env.set i (.val (h j)))).nox.bind fun y => (compR (.nm i) c f env (js.map h)).bind fun ys => Res.ok (y :: ys) else compR (.nm i) c f env (js.map h)) = _
    rw [q1, q3]
    show (if p j = true then _ else _) = _
    by_cases hp : p j = true
    · rw [if_pos hp, if_pos hp, q2 hp]
      rfl
    · rw [if_neg hp, if_neg hp]
/-- two fors, both over names -/
theorem compR2_on {α β : Type} {i j : Nat} {fi1 : Env → Res (List D)} {f : Env → Res D} {env : Env} (h : α → D) (k : α → List β) (h1 : β → D) (g : α → β → D) :
    ∀ (xs : List α), (∀ x ∈ xs, fi1 (env.set i (.val (h x))) = .ok ((k x).map h1) ∧ ∀ y ∈ k x, f ((env.set i (.val (h x))).set j (.val (h1 y))) = .ok (g x y)) →
      compR2 (.nm i) cYes fi1 (.nm j) cYes f env (xs.map h) = .ok ((xs.map fun x => (k x).map (g x)).flatten)
  | [], _ => rfl
  | x :: xs, q => by
    obtain ⟨q1, q2⟩ := q x List.mem_cons_self
    have q3 := compR2_on (j := j) h k h1 g xs fun y hy => q y (List.mem_cons_of_mem _ hy)
    rw [List.map_cons, List.map_cons, List.flatten_cons]
    unfold compR2
    show ((fi1 (env.set i (.val (h x)))).nox.bind fun ws => (compR (.nm j) cYes f (env.set i (.val (h x))) ws).bind fun ys => (compR2 (.nm i) cYes fi1 (.nm j) cYes f env (xs.map h)).bind fun zs => Res.ok (ys ++ zs)) = _
    rw [q1, q3]
    show ((compR (.nm j) cYes f (env.set i (.val (h x))) ((k x).map h1)).bind fun ys => Res.ok (ys ++ _)) = _
    rw [compR_on h1 (g x) _ q2]
    rfl
theorem sIx_any {n d s : Nat} : HT.sIx n d (some (s : Int)) = min s n := by
  unfold HT.sIx
  dsimp only
  rw [if_neg (by omega), Int.toNat_natCast]
theorem cut_any {xs : List D} {s e : Nat} : cutD xs (some (s : Int)) (some (e : Int)) = (xs.drop s).take (e - s) := by
  unfold cutD
  rw [sIx_any, sIx_any]
  by_cases hs : s ≤ xs.length
  · rw [Nat.min_eq_left hs]
    by_cases he : e ≤ xs.length
    · rw [Nat.min_eq_left he]
    · rw [Nat.min_eq_right (by omega), List.take_of_length_le (by rw [List.length_drop]; omega), List.take_of_length_le (by rw [List.length_drop]; omega)]
  · have e1 : min s xs.length = xs.length := Nat.min_eq_right (by omega)
    have e2 : xs.drop xs.length = [] := List.drop_of_length_le (Nat.le_refl _)
    have e3 : xs.drop s = [] := List.drop_of_length_le (by omega)
    rw [e1, e2, e3, List.take_nil, List.take_nil]
theorem turns_le (n : Nat) {k : Nat} (hk : 0 < k) : turns n k ≤ n := by
  unfold turns
  rcases Nat.eq_zero_or_pos n with z | z
  · subst z
    rw [Nat.div_eq_of_lt (by omega)]
    exact Nat.le_refl _
  · refine Nat.div_le_of_le_mul ?_
    have : n + k ≤ k * n + 1 := by
      cases n with
      | zero => omega
      | succ m =>
        cases k with
        | zero => omega
        | succ j =>
          rw [Nat.mul_succ, Nat.succ_mul]
          omega
    omega
theorem wh_stop {vw : Env → Env} {c : Env → Res Bool} {b : Env → Out} {n : Nat} {e : Env} (h : c (vw e) = .ok false) : whileN vw c b (n + 1) e = .nx e := by
  unfold whileN
  rw [h]
  rfl
theorem wh_nx {vw : Env → Env} {c : Env → Res Bool} {b : Env → Out} {n : Nat} {e e' : Env} (h : c (vw e) = .ok true) (h2 : b e = .nx e') : whileN vw c b (n + 1) e = whileN vw c b n e' := by
  conv => lhs; unfold whileN
  rw [h, out_ok, if_pos rfl, h2]
theorem wh_ex {vw : Env → Env} {c : Env → Res Bool} {b : Env → Out} {n m : Nat} {e e' : Env} (h : c (vw e) = .ok true) (h2 : b e = .ex m e') : whileN vw c b (n + 1) e = .ex m e' := by
  conv => lhs; unfold whileN
  rw [h, out_ok, if_pos rfl, h2]
theorem ssq {a b : Env → Out} {e e' : Env} (h : a e = .nx e') : sSeq a b e = b e' := by
  show (a e).seq b = _
  rw [h]
  rfl
/-! statement by statement -/
theorem ssqf {a b : Env → Out} {e e' : Env} {r : Rs D} (h : a e = .nx e') (g : (b e').fin = r) : (sSeq a b e).fin = r := by
  rw [ssq h]
  exact g
theorem ssqr {a b : Env → Out} {e : Env} {d : D} {S : Store} (h : a e = .rt d S) : (sSeq a b e).fin = .ok d S := by
  show ((a e).seq b).fin = _
  rw [h]
  rfl
theorem ssqx {a b : Env → Out} {e : Env} {l : List Sl} {S : Store} {k n : Nat} (h : a e = .ex n ⟨l, S, k⟩) : (sSeq a b e).fin = .ex n S := by
  show ((a e).seq b).fin = _
  rw [h]
  rfl
theorem ssqn {a b : Env → Out} {e e' : Env} {o : Out} (h : a e = .nx e') (g : b e' = o) : sSeq a b e = o := by
  rw [ssq h]
  exact g
theorem ssqnr {a b : Env → Out} {e : Env} {d : D} {S : Store} (h : a e = .rt d S) : sSeq a b e = .rt d S := by
  show (a e).seq b = _
  rw [h]
  rfl
theorem ssqnx {a b : Env → Out} {e e' : Env} {n : Nat} (h : a e = .ex n e') : sSeq a b e = .ex n e' := by
  show (a e).seq b = _
  rw [h]
  rfl
end L2.FO

set_option Elab.async false
set_option linter.all false
set_option maxRecDepth 100000
set_option maxHeartbeats 4000000
namespace L2.FO
open PySem PySem.Spec PyProof.Rows
/-! ### words -/
def w32 : Nat := 4294967296
def rlw (x c : Nat) : Nat := (x % 2 ^ (32 - c)) * 2 ^ c + x / 2 ^ (32 - c)
def rrw (x c : Nat) : Nat := x / 2 ^ c + (x % 2 ^ c) * 2 ^ (32 - c)
theorem p32 {c : Nat} (hc : c ≤ 32) : 2 ^ (32 - c) * 2 ^ c = 4294967296 := by
  rw [← Nat.pow_add, Nat.sub_add_cancel hc]
theorem hi_lt {x c : Nat} (hx : x < 4294967296) (hc : c ≤ 32) : x / 2 ^ (32 - c) < 2 ^ c := (Nat.div_lt_iff_lt_mul (Nat.two_pow_pos _)).mpr (by rw [Nat.mul_comm, p32 hc]; exact hx)
theorem rlw_lt {x c : Nat} (hx : x < 4294967296) (hc : c ≤ 32) : rlw x c < 4294967296 := by
  have h1 := hi_lt hx hc
  have h2 : x % 2 ^ (32 - c) < 2 ^ (32 - c) := Nat.mod_lt _ (Nat.two_pow_pos _)
  have h3 : (x % 2 ^ (32 - c) + 1) * 2 ^ c ≤ 2 ^ (32 - c) * 2 ^ c := Nat.mul_le_mul_right _ h2
  rw [p32 hc, Nat.add_mul, Nat.one_mul] at h3
  unfold rlw
  omega
theorem rrw_lt {x c : Nat} (hx : x < 4294967296) (hc : c ≤ 32) : rrw x c < 4294967296 := by
  have h1 : x / 2 ^ c < 2 ^ (32 - c) := (Nat.div_lt_iff_lt_mul (Nat.two_pow_pos _)).mpr (by rw [p32 hc]; exact hx)
  have h2 : x % 2 ^ c < 2 ^ c := Nat.mod_lt _ (Nat.two_pow_pos _)
  have h3 : (x % 2 ^ c + 1) * 2 ^ (32 - c) ≤ 2 ^ c * 2 ^ (32 - c) := Nat.mul_le_mul_right _ h2
  rw [Nat.mul_comm (2 ^ c), p32 hc, Nat.add_mul, Nat.one_mul] at h3
  unfold rrw
  omega
theorem mul_mod32 {x c : Nat} (hc : c ≤ 32) : x * 2 ^ c % 4294967296 = (x % 2 ^ (32 - c)) * 2 ^ c := by
  rw [← p32 hc, Nat.mul_mod_mul_right]
theorem or_add {a b k : Nat} (h : b < 2 ^ k) : (a * 2 ^ k ||| b) = a * 2 ^ k + b := by
  have q := Nat.shiftLeft_add_eq_or_of_lt h a
  rw [Nat.shiftLeft_eq] at q
  exact q.symm
theorem or_mod32 (a b : Nat) : (a ||| b) % 4294967296 = (a % 4294967296 ||| b % 4294967296) := by
  rw [show (4294967296 : Nat) = 2 ^ 32 from by decide, Nat.or_mod_two_pow]
theorem rl_or {x c : Nat} (hx : x < 4294967296) (hc : c ≤ 32) : (x * 2 ^ c ||| x / 2 ^ (32 - c)) % 4294967296 = rlw x c := by
  have h1 := hi_lt hx hc
  have h3 : x / 2 ^ (32 - c) ≤ x := Nat.div_le_self _ _
  rw [or_mod32, mul_mod32 hc, Nat.mod_eq_of_lt (a := x / 2 ^ (32 - c)) (by omega), or_add h1]
  rfl
theorem rr_or' {x c : Nat} (hx : x < 4294967296) (hc : c ≤ 32) : (x / 2 ^ c ||| x * 2 ^ (32 - c)) % 4294967296 = rrw x c := by
  have h1 : x / 2 ^ c < 2 ^ (32 - c) := (Nat.div_lt_iff_lt_mul (Nat.two_pow_pos _)).mpr (by rw [p32 hc]; exact hx)
  have h3 : x / 2 ^ c ≤ x := Nat.div_le_self _ _
  have e := mul_mod32 (x := x) (c := 32 - c) (by omega)
  rw [show 32 - (32 - c) = c by omega] at e
  rw [Nat.or_comm, or_mod32, e, Nat.mod_eq_of_lt (a := x / 2 ^ c) (by omega), or_add h1]
  unfold rrw
  omega
theorem dm {A B P : Nat} (h : B < P) : (A * P + B) / P = A ∧ (A * P + B) % P = B := by
  have hp : 0 < P := by omega
  rw [Nat.add_comm, Nat.add_mul_div_right _ _ hp, Nat.add_mul_mod_self_right, Nat.div_eq_of_lt h, Nat.mod_eq_of_lt h, Nat.zero_add]
  exact ⟨rfl, rfl⟩
theorem rr_rl {x c : Nat} (hx : x < 4294967296) (hc : c ≤ 32) : rrw (rlw x c) c = x := by
  have h1 := hi_lt hx hc
  unfold rrw rlw
  obtain ⟨e1, e2⟩ := dm (A := x % 2 ^ (32 - c)) h1
  rw [e1, e2, Nat.mod_add_div']
theorem rl_rr {x c : Nat} (hx : x < 4294967296) (hc : c ≤ 32) : rlw (rrw x c) c = x := by
  have h1 : x / 2 ^ c < 2 ^ (32 - c) := (Nat.div_lt_iff_lt_mul (Nat.two_pow_pos _)).mpr (by rw [p32 hc]; exact hx)
  unfold rrw rlw
  obtain ⟨e1, e2⟩ := dm (A := x % 2 ^ c) h1
  rw [Nat.add_comm (x / 2 ^ c), e1, e2, Nat.div_add_mod']
/-- by bits -/
def bit (x k : Nat) : Nat := x / 2 ^ k % 2
theorem mod_succ (x n : Nat) : x % 2 ^ (n + 1) = x % 2 ^ n + bit x n * 2 ^ n := by
  unfold bit
  rw [Nat.pow_succ, Nat.mod_mul, Nat.mul_comm (2 ^ n)]
def rsum (x c : Nat) : Nat → Nat
  | 0 => 0
  | n + 1 => rsum x c n + bit x n * 2 ^ ((n + c) % 32)
theorem rsum_lo (x c : Nat) (hc : c ≤ 32) : ∀ n, n ≤ 32 - c → rsum x c n = (x % 2 ^ n) * 2 ^ c
  | 0, _ => by
    show 0 = _
    rw [Nat.pow_zero, Nat.mod_one, Nat.zero_mul]
  | n + 1, h => by
    show rsum x c n + _ = _
    rw [rsum_lo x c hc n (by omega), mod_succ, Nat.mod_eq_of_lt (show n + c < 32 by omega), Nat.add_mul, Nat.pow_add, Nat.mul_assoc]
theorem rsum_hi (x c : Nat) (hc : c ≤ 32) : ∀ n, n ≤ c → rsum x c (32 - c + n) = (x % 2 ^ (32 - c)) * 2 ^ c + x / 2 ^ (32 - c) % 2 ^ n
  | 0, _ => by
    rw [Nat.add_zero, rsum_lo x c hc _ (Nat.le_refl _), Nat.pow_zero, Nat.mod_one, Nat.add_zero]
  | n + 1, h => by
    show rsum x c (32 - c + n) + bit x (32 - c + n) * 2 ^ ((32 - c + n + c) % 32) = _
    rw [rsum_hi x c hc n (by omega), mod_succ, show (32 - c + n + c) % 32 = n by omega]
    have e : bit x (32 - c + n) = bit (x / 2 ^ (32 - c)) n := by
      unfold bit
      rw [Nat.pow_add, ← Nat.div_div_eq_div_mul]
    rw [e, Nat.add_assoc]
theorem rsum_eq {x c : Nat} (hx : x < 4294967296) (hc : c ≤ 31) : rsum x c 32 = rlw x c := by
  have h := rsum_hi x c (by omega) c (Nat.le_refl _)
  rw [Nat.sub_add_cancel (by omega)] at h
  rw [h, Nat.mod_eq_of_lt (hi_lt hx (by omega))]
  rfl
theorem w_bits {x : Nat} (h : x < 4294967296) : Builtin.Int.intBits (x : Int) ≤ 32 := bits_le_iff.mpr (by
  have : (2 : Nat) ^ 32 = 4294967296 := by decide
  omega)
theorem shl_n (x c : Nat) : (x : Int) * 2 ^ c = ((x * 2 ^ c : Nat) : Int) := by
  rw [Int.natCast_mul, Int.natCast_pow]
  rfl
theorem mask_n (x : Nat) : Builtin.bitAnd (x : Int) 4294967295 = ((x % 4294967296 : Nat) : Int) := by
  rw [bMask32]
  omega
/-- words as ints -/
abbrev cs (ws : List Nat) : List Int := ws.map fun n : Nat => (n : Int)
def okW (ws : List Nat) : Prop := ∀ x ∈ ws, x < 4294967296
end L2.FO

set_option Elab.async false
set_option linter.all false
set_option maxRecDepth 100000
set_option maxHeartbeats 4000000
namespace L2.FO
open PySem PySem.Spec PyProof.Rows
/-! ### primes, by primitive roots -/
/-- p is a prime -/
def Pr (p : Nat) : Prop := 2 ≤ p ∧ ∀ d, d ∣ p → d = 1 ∨ d = p
theorem pr_dvd {p a b : Nat} (h : Pr p) (d : p ∣ a * b) : p ∣ a ∨ p ∣ b := by
  rcases h.2 (Nat.gcd p a) (Nat.gcd_dvd_left p a) with g | g
  · exact .inr (Nat.Coprime.dvd_of_dvd_mul_left g d)
  · refine .inl ?_
    rw [← g]
    exact Nat.gcd_dvd_right p a
/-- the least factor -/
theorem pr_factor : ∀ (n : Nat), 2 ≤ n → ∃ q, Pr q ∧ q ∣ n := by
  intro n
  induction n using Nat.strongRecOn with
  | _ n ih =>
    intro h
    by_cases hp : ∀ d, d ∣ n → d = 1 ∨ d = n
    · exact ⟨n, ⟨h, hp⟩, Nat.dvd_refl n⟩
    · have hp := Classical.not_forall.mp hp
      obtain ⟨d, hd⟩ := hp
      have hd := Classical.not_imp.mp hd
      obtain ⟨h1, h2⟩ := hd
      have h2 := not_or.mp h2
      have h0 : d ≤ n := Nat.le_of_dvd (by omega) h1
      have hz : d ≠ 0 := fun e => by
        rw [e, Nat.zero_dvd] at h1
        omega
      obtain ⟨q, hq, hqd⟩ := ih d (by omega) (by omega)
      exact ⟨q, hq, Nat.dvd_trans hqd h1⟩
/-- powers, quickly: g ^ n modulo p, the bits of n from the lowest -/
def pm (p : Nat) : Nat → Nat → Nat → Nat → Nat
  | 0, _, _, r => r
  | k + 1, n, g, r => pm p k (n / 2) (g * g % p) (if n % 2 = 1 then r * g % p else r)
theorem pm_eq {p : Nat} : ∀ (k n g r : Nat), n < 2 ^ k → pm p k n g r % p = r * g ^ n % p
  | 0, n, g, r, h => by
    have : n = 0 := by
      rw [Nat.pow_zero] at h
      omega
    subst this
    rw [Nat.pow_zero, Nat.mul_one]
    rfl
  | k + 1, n, g, r, h => by
    have hk : n / 2 < 2 ^ k := by
      rw [Nat.pow_succ] at h
      omega
    have hg : (g * g % p) ^ (n / 2) % p = g ^ (2 * (n / 2)) % p := by
      rw [← Nat.pow_mod, ← Nat.pow_two, ← Nat.pow_mul]
    show pm p k (n / 2) (g * g % p) (if n % 2 = 1 then r * g % p else r) % p = _
    rw [pm_eq k _ _ _ hk]
    by_cases h1 : n % 2 = 1
    · rw [if_pos h1, Nat.mul_mod, Nat.mod_mod, hg, ← Nat.mul_mod, show r * g * g ^ (2 * (n / 2)) = r * g ^ n by
        rw [Nat.mul_assoc, ← Nat.pow_succ', show (2 * (n / 2)).succ = n by omega]]
    · rw [if_neg h1, Nat.mul_mod, hg, ← Nat.mul_mod, show 2 * (n / 2) = n by omega]
/-- the certificate: n is made of the given numbers alone -/
def strip : Nat → Nat → List Nat → Nat
  | 0, n, _ => n
  | k + 1, n, [] => n
  | k + 1, n, q :: qs => if q ≠ 0 ∧ n % q = 0 then strip k (n / q) (q :: qs) else strip k n qs
theorem strip_one {r : Nat} (hr : Pr r) : ∀ (k n : Nat) (qs : List Nat), strip k n qs = 1 → r ∣ n → ∃ q ∈ qs, r ∣ q
  | 0, n, qs, h, d => by
    have h : n = 1 := h
    rw [h] at d
    have := Nat.le_of_dvd (by decide) d
    have := hr.1
    omega
  | k + 1, n, [], h, d => by
    have h : n = 1 := h
    rw [h] at d
    have := Nat.le_of_dvd (by decide) d
    have := hr.1
    omega
  | k + 1, n, q :: qs, h, d => by
    unfold strip at h
    by_cases hq : q ≠ 0 ∧ n % q = 0
    · rw [if_pos hq] at h
      have e : n = q * (n / q) := (Nat.mul_div_cancel' (Nat.dvd_of_mod_eq_zero hq.2)).symm
      rw [e] at d
      rcases pr_dvd hr d with d | d
      · exact ⟨q, List.mem_cons_self, d⟩
      · exact strip_one hr k _ _ h d
    · rw [if_neg hq] at h
      obtain ⟨x, hx, dx⟩ := strip_one hr k _ _ h d
      exact ⟨x, List.mem_cons_of_mem _ hx, dx⟩
def cert (p g : Nat) (qs : List Nat) : Bool := decide (2 < p) && decide (pm p 300 (p - 1) g 1 % p = 1) && decide (strip 300 (p - 1) qs = 1) && qs.all fun q => decide (pm p 300 ((p - 1) / q) g 1 % p ≠ 1)
/-- g is a primitive root of p: every number that is not 0 modulo p is a power of g -/
structure Prim (p g : Nat) : Prop where
  two : 2 < p
  one : g ^ (p - 1) % p = 1
  ord : ∀ n, 0 < n → n < p - 1 → g ^ n % p ≠ 1
/-- the least exponent -/
theorem least_exp {p g : Nat} (h2 : 2 < p) (h1 : g ^ (p - 1) % p = 1) : ∃ d, 0 < d ∧ d ≤ p - 1 ∧ g ^ d % p = 1 ∧ ∀ n, 0 < n → n < d → g ^ n % p ≠ 1 := by
  have key : ∀ m, 0 < m → g ^ m % p = 1 → ∃ d, 0 < d ∧ d ≤ m ∧ g ^ d % p = 1 ∧ ∀ n, 0 < n → n < d → g ^ n % p ≠ 1 := by
    intro m
    induction m using Nat.strongRecOn with
    | _ m ih =>
      intro h0 hm
      by_cases hh : ∀ n, 0 < n → n < m → g ^ n % p ≠ 1
      · exact ⟨m, h0, Nat.le_refl m, hm, hh⟩
      · obtain ⟨n, hn⟩ := Classical.not_forall.mp hh
        obtain ⟨n0, hn⟩ := Classical.not_imp.mp hn
        obtain ⟨nm, hn⟩ := Classical.not_imp.mp hn
        obtain ⟨d, d0, dn, d1, dm⟩ := ih n nm n0 (Classical.not_not.mp hn)
        exact ⟨d, d0, by omega, d1, dm⟩
  exact key (p - 1) (by omega) h1
theorem pow_one_mul {p g d : Nat} (h : g ^ d % p = 1) (hp : 2 < p) (k : Nat) : g ^ (d * k) % p = 1 := by
  rw [Nat.pow_mul, Nat.pow_mod, h, Nat.one_pow]
  exact Nat.mod_eq_of_lt (by omega)
theorem prim_of_cert {p g : Nat} {qs : List Nat} (hq : ∀ q ∈ qs, Pr q) (hk : p < 2 ^ 300) (h : cert p g qs = true) : Prim p g := by
  unfold cert at h
  simp only [Bool.and_eq_true, decide_eq_true_eq, List.all_eq_true] at h
  obtain ⟨⟨⟨h2, h1⟩, hs⟩, hn⟩ := h
  have e1 : ∀ n, n < p → pm p 300 n g 1 % p = g ^ n % p := fun n hn => by
    rw [pm_eq 300 n g 1 (Nat.lt_trans hn hk), Nat.one_mul]
  rw [e1 _ (by omega)] at h1
  refine ⟨h2, h1, fun n n0 nl n1 => ?_⟩
  obtain ⟨d, d0, dl, d1, dm⟩ := least_exp h2 h1
  have dvd : ∀ m, g ^ m % p = 1 → d ∣ m := fun m hm => by
    have e : m = d * (m / d) + m % d := (Nat.div_add_mod m d).symm
    have q : g ^ (m % d) % p = 1 := by
      have z : g ^ m % p = g ^ (m % d) % p := by
        conv => lhs; rw [e, Nat.pow_add, Nat.mul_mod, pow_one_mul d1 h2, Nat.one_mul, Nat.mod_mod]
      rw [← z, hm]
    rcases Nat.eq_zero_or_pos (m % d) with r | r
    · exact Nat.dvd_of_mod_eq_zero r
    · exact absurd q (dm _ r (Nat.mod_lt _ d0))
  have hd := dvd _ h1
  have hdn := Nat.le_of_dvd n0 (dvd _ n1)
  obtain ⟨c, hc⟩ := hd
  have c2 : 2 ≤ c := by
    rcases Nat.lt_or_ge c 2 with z | z
    · have : c = 0 ∨ c = 1 := by omega
      rcases this with r | r
      · rw [r, Nat.mul_zero] at hc
        omega
      · rw [r, Nat.mul_one] at hc
        omega
    · exact z
  obtain ⟨r, hr, hrc⟩ := pr_factor c c2
  obtain ⟨q, hqm, hrq⟩ := strip_one hr 300 (p - 1) qs hs (by rw [hc]; exact Nat.dvd_trans hrc (Nat.dvd_mul_left c d))
  have hrq' : r = q := by
    rcases (hq q hqm).2 r hrq with z | z
    · have := hr.1
      omega
    · exact z
  subst hrq'
  have hz := hn r hqm
  have hr0 : 0 < r := by
    have := hr.1
    omega
  rw [e1 _ (Nat.lt_of_le_of_lt (Nat.div_le_self _ _) (by omega))] at hz
  obtain ⟨f, hf⟩ := hrc
  refine hz ?_
  rw [hc, hf, show d * (r * f) = r * (d * f) by rw [← Nat.mul_assoc, Nat.mul_comm d r, Nat.mul_assoc], Nat.mul_div_cancel_left _ hr0]
  exact pow_one_mul d1 h2 f
/-! pigeons -/
theorem nodup_sub {α : Type} [DecidableEq α] : ∀ (l m : List α), l.Nodup → (∀ x ∈ l, x ∈ m) → l.length ≤ m.length
  | [], _, _, _ => Nat.zero_le _
  | x :: l, m, h, s => by
    have hx := s x List.mem_cons_self
    have hn := List.nodup_cons.mp h
    have := nodup_sub l (m.erase x) hn.2 fun y hy => by
      have hne : y ≠ x := fun e => hn.1 (e ▸ hy)
      exact (List.mem_erase_of_ne hne).mpr (s y (List.mem_cons_of_mem _ hy))
    rw [List.length_erase_of_mem hx] at this
    have h0 := List.length_pos_of_mem hx
    rw [List.length_cons]
    omega
theorem nodup_all {α : Type} [DecidableEq α] {l m : List α} (h : l.Nodup) (s : ∀ x ∈ l, x ∈ m) (hl : m.length ≤ l.length) : ∀ x ∈ m, x ∈ l := fun x hx => by
  by_cases hh : x ∈ l
  · exact hh
  · have := nodup_sub (x :: l) m (List.nodup_cons.mpr ⟨hh, h⟩) fun y hy => by
      rcases List.mem_cons.mp hy with e | e
      · rw [e]
        exact hx
      · exact s y e
    rw [List.length_cons] at this
    omega
namespace Prim
variable {p g : Nat}
theorem cop (h : Prim p g) (n : Nat) : g ^ n % p ≠ 0 := fun e => by
  have e1 := pow_one_mul h.one h.two (n + 1)
  have hp := h.two
  have : (p - 1) * (n + 1) = n + ((p - 1) * (n + 1) - n) := by
    have : n + 1 ≤ (p - 1) * (n + 1) := Nat.le_mul_of_pos_left _ (by omega)
    omega
  rw [this, Nat.pow_add, Nat.mul_mod, e, Nat.zero_mul, Nat.zero_mod] at e1
  cases e1
theorem inj (h : Prim p g) {m n : Nat} (hn : n < p - 1) (hm : m ≤ n) (e : g ^ m % p = g ^ n % p) : m = n := by
  rcases Nat.lt_or_ge m n with hl | hl
  · have e2 : g ^ (m + (p - 1 - n)) % p = 1 := by
      rw [Nat.pow_add, Nat.mul_mod, e, ← Nat.mul_mod, ← Nat.pow_add, show n + (p - 1 - n) = p - 1 by omega]
      exact h.one
    exact absurd e2 (h.ord _ (by omega) (by omega))
  · omega
theorem pow_of (h : Prim p g) {a : Nat} (ha : a % p ≠ 0) : ∃ k, k < p - 1 ∧ g ^ k % p = a % p := by
  have hp := h.two
  let l := (List.range (p - 1)).map fun k => g ^ k % p
  have hnd : l.Nodup := by
    show ((List.range (p - 1)).map fun k => g ^ k % p).Nodup
    refine List.Pairwise.map _ ?_ (List.Pairwise.and_mem.mp List.nodup_range)
    intro x y hxy e
    have hx := List.mem_range.mp hxy.1
    have hy := List.mem_range.mp hxy.2.1
    rcases Nat.le_total x y with z | z
    · exact hxy.2.2 (h.inj hy z e)
    · exact hxy.2.2 (h.inj hx z e.symm).symm
  have hin : ∀ x ∈ l, x ∈ List.range' 1 (p - 1) := fun x hx => by
    obtain ⟨k, _, e⟩ := List.mem_map.mp hx
    have h0 := h.cop k
    have hl := Nat.mod_lt (g ^ k) (show 0 < p by omega)
    refine List.mem_range'_1.mpr ?_
    omega
  have := nodup_all hnd hin (by show (List.range' 1 (p - 1)).length ≤ ((List.range (p - 1)).map fun k => g ^ k % p).length; rw [List.length_range', List.length_map, List.length_range]; exact Nat.le_refl _) (a % p) (List.mem_range'_1.mpr (by
    have := Nat.mod_lt a (show 0 < p by omega)
    omega))
  obtain ⟨k, hk, e⟩ := List.mem_map.mp this
  exact ⟨k, List.mem_range.mp hk, e⟩
theorem pr (h : Prim p g) : Pr p := by
  have hp := h.two
  refine ⟨by omega, fun d hd => ?_⟩
  by_cases e : d = p
  · exact .inr e
  · left
    have hl := Nat.le_of_dvd (by omega) hd
    have h0 : d ≠ 0 := fun z => by
      rw [z, Nat.zero_dvd] at hd
      omega
    have hm : d % p = d := Nat.mod_eq_of_lt (by omega)
    obtain ⟨k, hk, ek⟩ := h.pow_of (a := d) (by rw [hm]; exact h0)
    have e1 : d * g ^ (p - 1 - k) % p = 1 := by
      rw [Nat.mul_mod, ← ek, ← Nat.mul_mod, ← Nat.pow_add, show k + (p - 1 - k) = p - 1 by omega]
      exact h.one
    have hd1 : d ∣ 1 := by
      have q := Nat.div_add_mod (d * g ^ (p - 1 - k)) p
      rw [e1] at q
      have a : d ∣ p * (d * g ^ (p - 1 - k) / p) := Nat.dvd_trans hd (Nat.dvd_mul_right _ _)
      exact (Nat.dvd_add_right a).mp (by rw [q]; exact Nat.dvd_mul_right _ _)
    exact Nat.eq_one_of_dvd_one hd1
/-- Fermat -/
theorem fermat (h : Prim p g) {a : Nat} (ha : a % p ≠ 0) : a ^ (p - 1) % p = 1 := by
  obtain ⟨k, _, e⟩ := h.pow_of ha
  rw [Nat.pow_mod, ← e, ← Nat.pow_mod, ← Nat.pow_mul, Nat.mul_comm]
  exact pow_one_mul h.one h.two k
end Prim
/-- small primes by trial -/
def trial : Nat → Nat → Nat → Bool
  | 0, _, _ => true
  | k + 1, d, n => decide (n % d ≠ 0) && trial k (d + 1) n
theorem trial_ok : ∀ (k d n : Nat), trial k d n = true → ∀ e, d ≤ e → e < d + k → n % e ≠ 0
  | 0, d, n, _, e, h1, h2 => by omega
  | k + 1, d, n, h, e, h1, h2 => by
    unfold trial at h
    rw [Bool.and_eq_true, decide_eq_true_eq] at h
    rcases Nat.eq_or_lt_of_le h1 with z | z
    · rw [← z]
      exact h.1
    · exact trial_ok k (d + 1) n h.2 e z (by omega)
theorem pr_trial {n k : Nat} (h2 : 2 ≤ n) (hk : n < (k + 2) * (k + 2)) (h : trial k 2 n = true) : Pr n := by
  refine ⟨h2, fun d hd => ?_⟩
  obtain ⟨c, hc⟩ := hd
  by_cases d1 : d = 1
  · exact .inl d1
  · right
    have no : ∀ e f, n = e * f → 2 ≤ e → e < k + 2 → False := fun e f he h1 h3 => trial_ok k 2 n h e h1 (by omega) (by rw [he, Nat.mul_mod_right])
    have d0 : d ≠ 0 := fun z => by
      rw [z, Nat.zero_mul] at hc
      omega
    have dk : k + 2 ≤ d := by
      rcases Nat.lt_or_ge d (k + 2) with z | z
      · exact (no d c hc (by omega) z).elim
      · exact z
    have c0 : c ≠ 0 := fun z => by
      rw [z, Nat.mul_zero] at hc
      omega
    by_cases c1 : c = 1
    · rw [hc, c1, Nat.mul_one]
    · exfalso
      have ck : k + 2 ≤ c := by
        rcases Nat.lt_or_ge c (k + 2) with z | z
        · exact (no c d (by rw [hc, Nat.mul_comm]) (by omega) z).elim
        · exact z
      have := Nat.mul_le_mul dk ck
      omega

/-! ### the prime of the curve -/
@[irreducible] def PP : Nat := 57896044618658097711785492504343953926634992332820282019728792003956564819949
theorem pr_2 : Pr 2 := pr_trial (k := 0) (by decide) (by decide) rfl
theorem pr_3 : Pr 3 := pr_trial (k := 0) (by decide) (by decide) rfl
theorem pr_5 : Pr 5 := pr_trial (k := 1) (by decide) (by decide) rfl
theorem pr_7 : Pr 7 := pr_trial (k := 1) (by decide) (by decide) (by decide +kernel)
theorem pr_13 : Pr 13 := pr_trial (k := 2) (by decide) (by decide) (by decide +kernel)
theorem pr_19 : Pr 19 := pr_trial (k := 3) (by decide) (by decide) (by decide +kernel)
theorem pr_31 : Pr 31 := pr_trial (k := 4) (by decide) (by decide) (by decide +kernel)
theorem pr_47 : Pr 47 := pr_trial (k := 5) (by decide) (by decide) (by decide +kernel)
theorem pr_107 : Pr 107 := pr_trial (k := 9) (by decide) (by decide) (by decide +kernel)
theorem pr_127 : Pr 127 := pr_trial (k := 10) (by decide) (by decide) (by decide +kernel)
theorem pr_223 : Pr 223 := pr_trial (k := 13) (by decide) (by decide) (by decide +kernel)
theorem pr_353 : Pr 353 := pr_trial (k := 17) (by decide) (by decide) (by decide +kernel)
theorem pr_4153 : Pr 4153 := pr_trial (k := 63) (by decide) (by decide) (by decide +kernel)
theorem pr_57467 : Pr 57467 := pr_trial (k := 238) (by decide) (by decide) (by decide +kernel)
theorem pr_65147 : Pr 65147 := pr_trial (k := 254) (by decide) (by decide) (by decide +kernel)
theorem pr_75707 : Pr 75707 := pr_trial (k := 274) (by decide) (by decide) (by decide +kernel)
theorem pr_132049 : Pr 132049 := pr_trial (k := 362) (by decide) (by decide) (by decide +kernel)
theorem pr_430751 : Pr 430751 := pr_trial (k := 655) (by decide) (by decide) (by decide +kernel)
theorem pr_1923133 : Pr 1923133 := pr_trial (k := 1385) (by decide) (by decide) (by decide +kernel)
theorem pr_8574133 : Pr 8574133 := pr_trial (k := 2927) (by decide) (by decide) (by decide +kernel)
theorem pr_2773320623 : Pr 2773320623 := pr_trial (k := 52661) (by decide) (by decide +kernel) (by decide +kernel)
theorem prim_72106336199 : Prim 72106336199 7 := prim_of_cert (qs := [2, 13, 2773320623]) (fun q h => by
  simp only [List.mem_cons, List.not_mem_nil, or_false] at h
  rcases h with rfl | rfl | rfl
  · exact pr_2
  · exact pr_13
  · exact pr_2773320623) (by decide +kernel) (by decide +kernel)
theorem pr_72106336199 : Pr 72106336199 := prim_72106336199.pr
theorem prim_1919519569386763 : Prim 1919519569386763 2 := prim_of_cert (qs := [2, 3, 7, 19, 47, 127, 8574133]) (fun q h => by
  simp only [List.mem_cons, List.not_mem_nil, or_false] at h
  rcases h with rfl | rfl | rfl | rfl | rfl | rfl | rfl
  · exact pr_2
  · exact pr_3
  · exact pr_7
  · exact pr_19
  · exact pr_47
  · exact pr_127
  · exact pr_8574133) (by decide +kernel) (by decide +kernel)
theorem pr_1919519569386763 : Pr 1919519569386763 := prim_1919519569386763.pr
theorem prim_31757755568855353 : Prim 31757755568855353 10 := prim_of_cert (qs := [2, 3, 31, 107, 223, 4153, 430751]) (fun q h => by
  simp only [List.mem_cons, List.not_mem_nil, or_false] at h
  rcases h with rfl | rfl | rfl | rfl | rfl | rfl | rfl
  · exact pr_2
  · exact pr_3
  · exact pr_31
  · exact pr_107
  · exact pr_223
  · exact pr_4153
  · exact pr_430751) (by decide +kernel) (by decide +kernel)
theorem pr_31757755568855353 : Pr 31757755568855353 := prim_31757755568855353.pr
theorem prim_75445702479781427272750846543864801 : Prim 75445702479781427272750846543864801 7 := prim_of_cert (qs := [2, 3, 5, 75707, 72106336199, 1919519569386763]) (fun q h => by
  simp only [List.mem_cons, List.not_mem_nil, or_false] at h
  rcases h with rfl | rfl | rfl | rfl | rfl | rfl
  · exact pr_2
  · exact pr_3
  · exact pr_5
  · exact pr_75707
  · exact pr_72106336199
  · exact pr_1919519569386763) (by decide +kernel) (by decide +kernel)
theorem pr_75445702479781427272750846543864801 : Pr 75445702479781427272750846543864801 := prim_75445702479781427272750846543864801.pr
theorem prim_74058212732561358302231226437062788676166966415465897661863160754340907 : Prim 74058212732561358302231226437062788676166966415465897661863160754340907 2 := prim_of_cert (qs := [2, 3, 353, 57467, 132049, 1923133, 31757755568855353, 75445702479781427272750846543864801]) (fun q h => by
  simp only [List.mem_cons, List.not_mem_nil, or_false] at h
  rcases h with rfl | rfl | rfl | rfl | rfl | rfl | rfl | rfl
  · exact pr_2
  · exact pr_3
  · exact pr_353
  · exact pr_57467
  · exact pr_132049
  · exact pr_1923133
  · exact pr_31757755568855353
  · exact pr_75445702479781427272750846543864801) (by decide +kernel) (by decide +kernel)
theorem pr_74058212732561358302231226437062788676166966415465897661863160754340907 : Pr 74058212732561358302231226437062788676166966415465897661863160754340907 := prim_74058212732561358302231226437062788676166966415465897661863160754340907.pr
theorem prim_P : Prim PP 2 := prim_of_cert (qs := [2, 3, 65147, 74058212732561358302231226437062788676166966415465897661863160754340907]) (fun q h => by
  simp only [List.mem_cons, List.not_mem_nil, or_false] at h
  rcases h with rfl | rfl | rfl | rfl
  · exact pr_2
  · exact pr_3
  · exact pr_65147
  · exact pr_74058212732561358302231226437062788676166966415465897661863160754340907) (by decide +kernel) (by decide +kernel)
theorem PP_pos : 0 < PP := by decide +kernel
theorem PP_lt : PP < 2 ^ 255 := by decide +kernel
theorem PP_two : 2 < PP := by decide +kernel
@[irreducible] def PI : Int := ((PP : Nat) : Int)
theorem lit : (57896044618658097711785492504343953926634992332820282019728792003956564819949 : Int) = PI := by
  unfold PI PP
  rfl
theorem PI_nat : PI = ((PP : Nat) : Int) := by
  unfold PI
  rfl
/-! squares modulo P = 8 m + 5, 2 a primitive root -/
theorem nat_sub_dvd {P x y : Nat} (h : x % P = y % P) : P ∣ x - y := Nat.dvd_of_mod_eq_zero (Nat.sub_mod_eq_zero_of_mod_eq h)
theorem sq_uniq {P r b : Nat} (hp : Pr P) (hr : r < P) (hb : b < P) (h : r * r % P = b * b % P) : r = b ∨ r + b = P := by
  have key : ∀ x y : Nat, x < P → y < P → y ≤ x → x * x % P = y * y % P → x = y ∨ x + y = P := by
    intro x y hx hy hxy h
    have d := nat_sub_dvd h
    rw [Nat.mul_self_sub_mul_self_eq] at d
    rcases pr_dvd hp d with z | z
    · obtain ⟨c, hc⟩ := z
      match c with
      | 0 => omega
      | 1 => omega
      | c + 2 =>
        have : P * (c + 2) = P * c + P * 2 := Nat.mul_add _ _ _
        omega
    · have := Nat.eq_zero_of_dvd_of_lt z (by omega)
      omega
  rcases Nat.le_total b r with z | z
  · exact key r b hr hb z h
  · rcases key b r hb hr z h.symm with q | q
    · exact .inl q.symm
    · exact .inr (by omega)
theorem sq_one {P e : Nat} (hp : Pr P) (he : e < P) (h : e * e % P = 1) : e = 1 ∨ e = P - 1 := by
  have hp2 : 1 < P := by
    have := hp.1
    omega
  rcases sq_uniq hp he hp2 (by rw [h, Nat.mul_one, Nat.mod_eq_of_lt hp2]) with z | z
  · exact .inl z
  · exact .inr (by omega)
theorem neg_mul {P x : Nat} (h0 : 0 < x) (hx : x < P) : (P - 1) * x % P = P - x := by
  have : (P - 1) * x = (P - x) + P * (x - 1) := by
    obtain ⟨y, rfl⟩ : ∃ y, x = y + 1 := ⟨x - 1, by omega⟩
    obtain ⟨z, rfl⟩ : ∃ z, P = z + 1 := ⟨P - 1, by omega⟩
    rw [Nat.add_sub_cancel, Nat.add_sub_cancel, Nat.mul_add, Nat.mul_one, Nat.add_mul, Nat.one_mul]
    omega
  rw [this, Nat.add_mul_mod_self_left, Nat.mod_eq_of_lt (by omega)]
theorem pow_mod' (A n P : Nat) : (A % P) ^ n % P = A ^ n % P := (Nat.pow_mod A n P).symm
section
variable {P m : Nat}
theorem half_two {g A : Nat} (hp : Prim P g) (hP : P = 8 * m + 5) (hA : A < P) (h0 : A ≠ 0) : A ^ (4 * m + 2) % P = 1 ∨ A ^ (4 * m + 2) % P = P - 1 := by
  have f := hp.fermat (a := A) (by rw [Nat.mod_eq_of_lt hA]; exact h0)
  refine sq_one hp.pr (Nat.mod_lt _ (by omega)) ?_
  rw [← Nat.mul_mod, ← Nat.pow_add, show 4 * m + 2 + (4 * m + 2) = P - 1 by omega]
  exact f
theorem two_half (hp : Prim P 2) (hP : P = 8 * m + 5) : 2 ^ (4 * m + 2) % P = P - 1 := by
  rcases half_two hp hP (A := 2) (by omega) (by decide) with h | h
  · exact absurd h (hp.ord _ (by omega) (by omega))
  · exact h
theorem half_sq {g A r : Nat} (hp : Prim P g) (hP : P = 8 * m + 5) (hA : A < P) (h0 : A ≠ 0) (h : r * r % P = A) : A ^ (4 * m + 2) % P = 1 := by
  have hr : r % P ≠ 0 := fun e => by
    rw [Nat.mul_mod, e, Nat.zero_mul, Nat.zero_mod] at h
    exact h0 h.symm
  have f := hp.fermat hr
  rw [← h, pow_mod', ← Nat.pow_two, ← Nat.pow_mul, show 2 * (4 * m + 2) = P - 1 by omega]
  exact f
theorem root_pm {g A : Nat} (hp : Prim P g) (hP : P = 8 * m + 5) (hA : A < P) (h0 : A ≠ 0) (h : A ^ (4 * m + 2) % P = 1) : (A ^ (m + 1) % P) * (A ^ (m + 1) % P) % P = A ∨ (A ^ (m + 1) % P) * (A ^ (m + 1) % P) % P = P - A := by
  have e : (A ^ (m + 1) % P) * (A ^ (m + 1) % P) % P = (A ^ (2 * m + 1) % P) * A % P := by
    rw [← Nat.mul_mod, ← Nat.pow_add, Nat.mod_mul_mod, ← Nat.pow_succ]
    congr 2
    omega
  rw [e]
  rcases sq_one (e := A ^ (2 * m + 1) % P) hp.pr (Nat.mod_lt _ (by omega)) (by
    rw [← Nat.mul_mod, ← Nat.pow_add, show 2 * m + 1 + (2 * m + 1) = 4 * m + 2 by omega]
    exact h) with z | z
  · left
    rw [z, Nat.one_mul, Nat.mod_eq_of_lt hA]
  · right
    rw [z]
    exact neg_mul (by omega) hA
/-- the square root as it is computed -/
def sr (P n i A : Nat) : Option Nat :=
  if (if (A ^ n % P) * (A ^ n % P) % P = A then A ^ n % P else (A ^ n % P) * i % P) * (if (A ^ n % P) * (A ^ n % P) % P = A then A ^ n % P else (A ^ n % P) * i % P) % P = A then
    some (if (if (A ^ n % P) * (A ^ n % P) % P = A then A ^ n % P else (A ^ n % P) * i % P) % 2 = 1 then P - (if (A ^ n % P) * (A ^ n % P) % P = A then A ^ n % P else (A ^ n % P) * i % P) else (if (A ^ n % P) * (A ^ n % P) % P = A then A ^ n % P else (A ^ n % P) * i % P))
  else none
theorem sr_some {n i A r : Nat} (hP : P = 8 * m + 5) (h : sr P n i A = some r) : r < P ∧ r % 2 = 0 ∧ r * r % P = A := by
  unfold sr at h
  have hl : (if (A ^ n % P) * (A ^ n % P) % P = A then A ^ n % P else (A ^ n % P) * i % P) < P := by
    split <;> exact Nat.mod_lt _ (by omega)
  generalize (if (A ^ n % P) * (A ^ n % P) % P = A then A ^ n % P else (A ^ n % P) * i % P) = x at h hl
  by_cases hx : x * x % P = A
  · rw [if_pos hx] at h
    by_cases h2 : x % 2 = 1
    · rw [if_pos h2] at h
      cases h
      refine ⟨by omega, by omega, ?_⟩
      rw [← hx]
      have e1 : P - x = (P - 1) * x % P := (neg_mul (by omega) hl).symm
      rw [e1, ← Nat.mul_mod, show (P - 1) * x * ((P - 1) * x) = (P - 1) * (P - 1) * (x * x) by
        rw [Nat.mul_assoc, Nat.mul_left_comm x, ← Nat.mul_assoc], Nat.mul_mod, neg_mul (x := P - 1) (by omega) (by omega), show P - (P - 1) = 1 by omega, Nat.one_mul, Nat.mod_mod]
    · rw [if_neg h2] at h
      cases h
      exact ⟨hl, by omega, hx⟩
  · rw [if_neg hx] at h
    cases h
theorem sr_none {g n i A : Nat} (hp : Prim P g) (hP : P = 8 * m + 5) (hA : A < P) (h : A ^ (4 * m + 2) % P = P - 1) : sr P n i A = none := by
  cases e : sr P n i A with
  | none => rfl
  | some r =>
    have h0 : A ≠ 0 := fun z => by
      rw [z, Nat.zero_pow (by omega), Nat.zero_mod] at h
      omega
    have := half_sq hp hP hA h0 (sr_some hP e).2.2
    omega
theorem sr_ex {g i A : Nat} (hp : Prim P g) (hP : P = 8 * m + 5) (hi : i * i % P = P - 1) (hA : A < P) (h : A ^ (4 * m + 2) % P ≠ P - 1) : ∃ r, sr P (m + 1) i A = some r := by
  suffices hh : (if (A ^ (m + 1) % P) * (A ^ (m + 1) % P) % P = A then A ^ (m + 1) % P else (A ^ (m + 1) % P) * i % P) * (if (A ^ (m + 1) % P) * (A ^ (m + 1) % P) % P = A then A ^ (m + 1) % P else (A ^ (m + 1) % P) * i % P) % P = A by
    unfold sr
    rw [if_pos hh]
    exact ⟨_, rfl⟩
  by_cases h1 : (A ^ (m + 1) % P) * (A ^ (m + 1) % P) % P = A
  · rw [if_pos h1]
    exact h1
  · rw [if_neg h1]
    have h0 : A ≠ 0 := fun z => h1 (by rw [z, Nat.zero_pow (by omega), Nat.zero_mod, Nat.mul_zero, Nat.zero_mod])
    have hh := (half_two hp hP hA h0).resolve_right h
    have h2 := (root_pm hp hP hA h0 hh).resolve_left h1
    generalize A ^ (m + 1) % P = x at h2
    rw [← Nat.mul_mod, show x * i * (x * i) = x * x * (i * i) by rw [Nat.mul_assoc, Nat.mul_left_comm i, ← Nat.mul_assoc], Nat.mul_mod, h2, hi, Nat.mul_comm, neg_mul (by omega) (by omega)]
    omega
end
end L2.FO

set_option Elab.async false
set_option linter.all false
set_option maxRecDepth 100000
set_option maxHeartbeats 4000000
namespace L2.FO.K25
open PySem PySem.Spec PyProof.Rows
def topS (i : Nat) : Stmt := PySem.Challenge.pw_hushlink_k25_limbs.main.body.getD i (.Pass ⟨0, 0, 0, 0⟩)
abbrev X_HushError : Nat := 0
abbrev X_OutOfRange : Nat := 1
def xcnt : Nat := 2
def xsub : Nat → Nat → Bool := fun n m => ([true, false, true, true] : List Bool).getD (n * 2 + m) false
section
variable {P : Program} {w : World} {K : PySem.W.Frag} {mg : Str → Option Value} {base : Heap} {xa : Nat → Addr} {T : CT}
theorem sc_need_length : FnScope ["items", "least", "most"] ["items", "least", "most"] (defScope (topS 4)) := ⟨rfl, rfl, rfl, by decide +kernel, rfl, by decide +kernel, by decide +kernel⟩
noncomputable def B_need_length : Env → Out :=
  (sIf fu (bNot (eB (eChain gLe gLe (eVar 1) (fun env => ((asCons (eVar 0) asNil) env).bind gLen) (eVar 2))))
  (sRaise X_OutOfRange)
  sNil)
noncomputable def F_need_length : FT := runF 3 3 B_need_length
set_option maxHeartbeats 16000000 in
theorem ok_need_length {f : Addr} {fd : FuncData} (FF : FunO K "need_length" "need_length" (topS 4) f fd) (m_len : mg "len" = none) (XTh : XT K xa xcnt xsub) (x_HushError : mg "HushError" = some (.ref (xa 0))) (x_OutOfRange : mg "OutOfRange" = some (.ref (xa 1))) :
    FnOk P w K mg base (L2.CX P w) 1 f fd ["items", "least", "most"] (spF K T xa false F_need_length) := by
  refine okF (k := 0) (g := B_need_length) FF sc_need_length rfl rfl (fun cdv A outer s H E fl hr => ?_)
  have hu := roomU hr
  exact (qss_one (qs_if v_fu (qt_not (qt_lele (qv 1) (q_len (by rfl) m_len (qa_cons (qv 0) qa_nil)) (qv 2)))
  (qss_one (qs_raise (n := X_OutOfRange) XTh (by decide) rfl (takes_of rfl rfl rfl rfl) x_OutOfRange))
  qss_nil))
theorem sc_need_range : FnScope ["number", "least", "most"] ["number", "least", "most"] (defScope (topS 5)) := ⟨rfl, rfl, rfl, by decide +kernel, rfl, by decide +kernel, by decide +kernel⟩
noncomputable def B_need_range : Env → Out :=
  (sIf fu (bNot (eB (eChain gLe gLe (eVar 1) (eVar 0) (eVar 2))))
  (sRaise X_OutOfRange)
  sNil)
noncomputable def F_need_range : FT := runF 3 3 B_need_range
set_option maxHeartbeats 16000000 in
theorem ok_need_range {f : Addr} {fd : FuncData} (FF : FunO K "need_range" "need_range" (topS 5) f fd) (XTh : XT K xa xcnt xsub) (x_HushError : mg "HushError" = some (.ref (xa 0))) (x_OutOfRange : mg "OutOfRange" = some (.ref (xa 1))) :
    FnOk P w K mg base (L2.CX P w) 1 f fd ["number", "least", "most"] (spF K T xa false F_need_range) := by
  refine okF (k := 0) (g := B_need_range) FF sc_need_range rfl rfl (fun cdv A outer s H E fl hr => ?_)
  have hu := roomU hr
  exact (qss_one (qs_if v_fu (qt_not (qt_lele (qv 1) (qv 0) (qv 2)))
  (qss_one (qs_raise (n := X_OutOfRange) XTh (by decide) rfl (takes_of rfl rfl rfl rfl) x_OutOfRange))
  qss_nil))
theorem sc_to_limbs : FnScope ["number", "k"] ["number"] (defScope (topS 10)) := ⟨rfl, rfl, rfl, by decide +kernel, rfl, by decide +kernel, by decide +kernel⟩
noncomputable def E_to_limbs_1 : Env → Res D :=
  (e2 gAnd (e2 gShr (eVar 0) (e2 gMul (eC (.int 26)) (eVar 1))) (eC (.int 67108863)))
noncomputable def B_to_limbs : Env → Out :=
  (sSeq (sDrop fu (pArgs 3 0 gApp (asCons (eVar 0) (asCons (eC (.int 0)) (asCons (eC (.int 1361129467683753853853498429727072845823)) asNil))) asNil (pCall F_need_range)))
  (sRet (fun env => ((eComp (.nm 1) (iR1 (asCons (eC (.int 5)) asNil)) cYes E_to_limbs_1) env).map .list)))
noncomputable def F_to_limbs : FT := runF 1 2 B_to_limbs
set_option maxHeartbeats 16000000 in
theorem ok_to_limbs {f : Addr} {fd : FuncData} (FF : FunO K "to_limbs" "to_limbs" (topS 10) f fd) {f_need_range : Addr} {fd_need_range : FuncData} (T_need_range : FnT P w K mg base xa T "need_range" f_need_range fd_need_range ["number", "least", "most"] 1 false F_need_range) (B_need_range : Bd K fd_need_range ["number", "least", "most"] 3 [] gApp) (m_range : mg "range" = none) (c_LIMB_BITS : ∃ t, mg "LIMB_BITS" = some (.int 26 t)) (c_LIMB_MASK : ∃ t, mg "LIMB_MASK" = some (.int 67108863 t)) (c_MOST_NUMBER : ∃ t, mg "MOST_NUMBER" = some (.int 1361129467683753853853498429727072845823 t)) :
    FnOk P w K mg base (L2.CX P w) 2 f fd ["number"] (spF K T xa false F_to_limbs) := by
  refine okF (k := 1) (g := B_to_limbs) FF sc_to_limbs rfl rfl (fun cdv A outer s H E fl hr => ?_)
  have hu := roomU hr
  exact (qss_cons (qs_expr v_fu (q_callF T_need_range B_need_range hr (by decide) (takes_of rfl rfl rfl rfl) (args_some (qa_cons (qv 0) (qa_cons q_int (qa_cons (q_globI c_MOST_NUMBER) qa_nil))) qk_nil))) (qss_one (qs_ret (QF.toE (qf_comp (own := [("k", 1)]) (t := (.nm 1)) rfl sc_to_limbs.nd (QR.i (qr_range1 (by rfl) m_range (qa_cons q_int qa_nil))) (blkOk_by (blk_of (N' := ["number", "k"]) (s' := defScope (topS 10)) rfl rfl (by decide +kernel))) (fun _ _ _ _ _ => (pg_name (i := 1) sc_to_limbs.nd rfl (by first | exact Or.inl rfl | exact Or.inr rfl))) (fun _ _ _ _ _ => qts_nil) (fun _ _ _ _ _ => (q_and (q_shr (qv 0) (q_mul (q_globI c_LIMB_BITS) (qv 1))) (q_globI c_LIMB_MASK))) (by decide) (by decide))))))
theorem sc_from_limbs : FnScope ["limbs", "k", "limb"] ["limbs"] (defScope (topS 11)) := ⟨rfl, rfl, rfl, by decide +kernel, rfl, by decide +kernel, by decide +kernel⟩
noncomputable def E_from_limbs_1 : Env → Res D :=
  (e2 gShl (eVar 2) (e2 gMul (eC (.int 26)) (eVar 1)))
noncomputable def B_from_limbs : Env → Out :=
  (sSeq (sDrop fu (pArgs 3 0 gApp (asCons (eVar 0) (asCons (eC (.int 5)) (asCons (eC (.int 5)) asNil))) asNil (pCall F_need_length)))
  (sRet (fun env => ((asCons (fun env => ((eComp (.tp [1, 2]) (iE (asCons (eVar 0) asNil)) cYes E_from_limbs_1) env).map .list) asNil) env).bind gSum)))
noncomputable def F_from_limbs : FT := runF 1 3 B_from_limbs
set_option maxHeartbeats 16000000 in
theorem ok_from_limbs {f : Addr} {fd : FuncData} (FF : FunO K "from_limbs" "from_limbs" (topS 11) f fd) {f_need_length : Addr} {fd_need_length : FuncData} (T_need_length : FnT P w K mg base xa T "need_length" f_need_length fd_need_length ["items", "least", "most"] 1 false F_need_length) (B_need_length : Bd K fd_need_length ["items", "least", "most"] 3 [] gApp) (m_enumerate : mg "enumerate" = none) (m_sum : mg "sum" = none) (c_LIMB_BITS : ∃ t, mg "LIMB_BITS" = some (.int 26 t)) :
    FnOk P w K mg base (L2.CX P w) 2 f fd ["limbs"] (spF K T xa false F_from_limbs) := by
  refine okF (k := 1) (g := B_from_limbs) FF sc_from_limbs rfl rfl (fun cdv A outer s H E fl hr => ?_)
  have hu := roomU hr
  exact (qss_cons (qs_expr v_fu (q_callF T_need_length B_need_length hr (by decide) (takes_of rfl rfl rfl rfl) (args_some (qa_cons (qv 0) (qa_cons q_int (qa_cons q_int qa_nil))) qk_nil))) (qss_one (qs_ret (q_sum rfl (by rfl) m_sum (qa_cons (QF.toE (qf_comp (own := [("k", 1), ("limb", 2)]) (t := (.tp [1, 2])) rfl sc_from_limbs.nd (qi_enum (by rfl) m_enumerate (qa_cons (qv 0) qa_nil)) (blkOk_by (blk_of (N' := ["limbs", "k", "limb"]) (s' := defScope (topS 11)) rfl rfl (by decide +kernel))) (fun _ _ _ _ _ => (pg_tup rfl (pgs_cons (pg_name (i := 1) sc_from_limbs.nd rfl (by first | exact Or.inl rfl | exact Or.inr rfl)) (pgs_cons (pg_name (i := 2) sc_from_limbs.nd rfl (by first | exact Or.inl rfl | exact Or.inr rfl)) pgs_nil)))) (fun _ _ _ _ _ => qts_nil) (fun _ _ _ _ _ => (q_shl (qv 2) (q_mul (q_globI c_LIMB_BITS) (qv 1)))) (by decide) (by decide))) qa_nil)))))
theorem sc_carry_limbs : FnScope ["limbs", "a", "b", "c", "d", "e"] ["limbs"] (defScope (topS 12)) := ⟨rfl, rfl, rfl, by decide +kernel, rfl, by decide +kernel, by decide +kernel⟩
noncomputable def B_carry_limbs : Env → Out :=
  (sSeq (sDrop fu (pArgs 3 0 gApp (asCons (eVar 0) (asCons (eC (.int 5)) (asCons (eC (.int 5)) asNil))) asNil (pCall F_need_length)))
  (sSeq (sUnp (.ul [1, 2, 3, 4, 5]) (eVar 0))
  (sSeq (sAug fu 2 gAdd (e2 gShr (eVar 1) (eC (.int 26))))
  (sSeq (sAug fu 3 gAdd (e2 gShr (eVar 2) (eC (.int 26))))
  (sSeq (sAug fu 4 gAdd (e2 gShr (eVar 3) (eC (.int 26))))
  (sSeq (sAug fu 5 gAdd (e2 gShr (eVar 4) (eC (.int 26))))
  (sSeq (sSetV 1 (e2 gAdd (e2 gAnd (eVar 1) (eC (.int 67108863))) (e2 gMul (eC (.int 5)) (e2 gShr (eVar 5) (eC (.int 26))))))
  (sSeq (sSetV 2 (e2 gAdd (e2 gAnd (eVar 2) (eC (.int 67108863))) (e2 gShr (eVar 1) (eC (.int 26)))))
  (sRet (fun env => ((eFit (asCons (e2 gAnd (eVar 1) (eC (.int 67108863))) (asCons (eVar 2) (asCons (e2 gAnd (eVar 3) (eC (.int 67108863))) (asCons (e2 gAnd (eVar 4) (eC (.int 67108863))) (asCons (e2 gAnd (eVar 5) (eC (.int 67108863))) asNil)))))) env).map .list))))))))))
noncomputable def F_carry_limbs : FT := runF 1 6 B_carry_limbs
set_option maxHeartbeats 16000000 in
theorem ok_carry_limbs {f : Addr} {fd : FuncData} (FF : FunO K "carry_limbs" "carry_limbs" (topS 12) f fd) {f_need_length : Addr} {fd_need_length : FuncData} (T_need_length : FnT P w K mg base xa T "need_length" f_need_length fd_need_length ["items", "least", "most"] 1 false F_need_length) (B_need_length : Bd K fd_need_length ["items", "least", "most"] 3 [] gApp) (c_LIMB_BITS : ∃ t, mg "LIMB_BITS" = some (.int 26 t)) (c_LIMB_MASK : ∃ t, mg "LIMB_MASK" = some (.int 67108863 t)) :
    FnOk P w K mg base (L2.CX P w) 2 f fd ["limbs"] (spF K T xa false F_carry_limbs) := by
  refine okF (k := 1) (g := B_carry_limbs) FF sc_carry_limbs rfl rfl (fun cdv A outer s H E fl hr => ?_)
  have hu := roomU hr
  exact (qss_cons (qs_expr v_fu (q_callF T_need_length B_need_length hr (by decide) (takes_of rfl rfl rfl rfl) (args_some (qa_cons (qv 0) (qa_cons q_int (qa_cons q_int qa_nil))) qk_nil))) (qss_cons (qs_unp (t := (.ul [1, 2, 3, 4, 5])) (qv 0) (pg_unl rfl (pgs_cons (pg_name (i := 1) sc_carry_limbs.nd rfl (by first | exact Or.inl rfl | exact Or.inr rfl)) (pgs_cons (pg_name (i := 2) sc_carry_limbs.nd rfl (by first | exact Or.inl rfl | exact Or.inr rfl)) (pgs_cons (pg_name (i := 3) sc_carry_limbs.nd rfl (by first | exact Or.inl rfl | exact Or.inr rfl)) (pgs_cons (pg_name (i := 4) sc_carry_limbs.nd rfl (by first | exact Or.inl rfl | exact Or.inr rfl)) (pgs_cons (pg_name (i := 5) sc_carry_limbs.nd rfl (by first | exact Or.inl rfl | exact Or.inr rfl)) pgs_nil))))))) (qss_cons (qs_augAdd v_fu (i := 2) sc_carry_limbs.nd rfl (q_shr (qv 1) (q_globI c_LIMB_BITS))) (qss_cons (qs_augAdd v_fu (i := 3) sc_carry_limbs.nd rfl (q_shr (qv 2) (q_globI c_LIMB_BITS))) (qss_cons (qs_augAdd v_fu (i := 4) sc_carry_limbs.nd rfl (q_shr (qv 3) (q_globI c_LIMB_BITS))) (qss_cons (qs_augAdd v_fu (i := 5) sc_carry_limbs.nd rfl (q_shr (qv 4) (q_globI c_LIMB_BITS))) (qss_cons (qs_setV (i := 1) sc_carry_limbs.nd rfl (q_add (q_and (qv 1) (q_globI c_LIMB_MASK)) (q_mul q_int (q_shr (qv 5) (q_globI c_LIMB_BITS))))) (qss_cons (qs_setV (i := 2) sc_carry_limbs.nd rfl (q_add (q_and (qv 2) (q_globI c_LIMB_MASK)) (q_shr (qv 1) (q_globI c_LIMB_BITS)))) (qss_one (qs_ret (QF.toE (qf_list (qa_cons (q_and (qv 1) (q_globI c_LIMB_MASK)) (qa_cons (qv 2) (qa_cons (q_and (qv 3) (q_globI c_LIMB_MASK)) (qa_cons (q_and (qv 4) (q_globI c_LIMB_MASK)) (qa_cons (q_and (qv 5) (q_globI c_LIMB_MASK)) qa_nil)))))))))))))))))
theorem sc_multiply_limbs : FnScope ["first", "second", "a", "b", "c", "d", "e", "p", "q", "r", "s", "t"] ["first", "second"] (defScope (topS 13)) := ⟨rfl, rfl, rfl, by decide +kernel, rfl, by decide +kernel, by decide +kernel⟩
noncomputable def B_multiply_limbs : Env → Out :=
  (sSeq (sDrop fu (pArgs 3 0 gApp (asCons (eVar 0) (asCons (eC (.int 5)) (asCons (eC (.int 5)) asNil))) asNil (pCall F_need_length)))
  (sSeq (sDrop fu (pArgs 3 0 gApp (asCons (eVar 1) (asCons (eC (.int 5)) (asCons (eC (.int 5)) asNil))) asNil (pCall F_need_length)))
  (sSeq (sUnp (.ul [2, 3, 4, 5, 6]) (eVar 0))
  (sSeq (sUnp (.ul [7, 8, 9, 10, 11]) (eVar 1))
  (sRet (pArgs 1 0 gApp (asCons (fun env => ((eFit (asCons (e2 gAdd (e2 gMul (eVar 2) (eVar 7)) (e2 gMul (eC (.int 5)) (e2 gAdd (e2 gAdd (e2 gAdd (e2 gMul (eVar 3) (eVar 11)) (e2 gMul (eVar 4) (eVar 10))) (e2 gMul (eVar 5) (eVar 9))) (e2 gMul (eVar 6) (eVar 8))))) (asCons (e2 gAdd (e2 gAdd (e2 gMul (eVar 2) (eVar 8)) (e2 gMul (eVar 3) (eVar 7))) (e2 gMul (eC (.int 5)) (e2 gAdd (e2 gAdd (e2 gMul (eVar 4) (eVar 11)) (e2 gMul (eVar 5) (eVar 10))) (e2 gMul (eVar 6) (eVar 9))))) (asCons (e2 gAdd (e2 gAdd (e2 gAdd (e2 gMul (eVar 2) (eVar 9)) (e2 gMul (eVar 3) (eVar 8))) (e2 gMul (eVar 4) (eVar 7))) (e2 gMul (eC (.int 5)) (e2 gAdd (e2 gMul (eVar 5) (eVar 11)) (e2 gMul (eVar 6) (eVar 10))))) (asCons (e2 gAdd (e2 gAdd (e2 gAdd (e2 gAdd (e2 gMul (eVar 2) (eVar 10)) (e2 gMul (eVar 3) (eVar 9))) (e2 gMul (eVar 4) (eVar 8))) (e2 gMul (eVar 5) (eVar 7))) (e2 gMul (eC (.int 5)) (e2 gMul (eVar 6) (eVar 11)))) (asCons (e2 gAdd (e2 gAdd (e2 gAdd (e2 gAdd (e2 gMul (eVar 2) (eVar 11)) (e2 gMul (eVar 3) (eVar 10))) (e2 gMul (eVar 4) (eVar 9))) (e2 gMul (eVar 5) (eVar 8))) (e2 gMul (eVar 6) (eVar 7))) asNil)))))) env).map .list) asNil) asNil (pCall F_carry_limbs)))))))
noncomputable def F_multiply_limbs : FT := runF 2 12 B_multiply_limbs
set_option maxHeartbeats 16000000 in
theorem ok_multiply_limbs {f : Addr} {fd : FuncData} (FF : FunO K "multiply_limbs" "multiply_limbs" (topS 13) f fd) {f_carry_limbs : Addr} {fd_carry_limbs : FuncData} (T_carry_limbs : FnT P w K mg base xa T "carry_limbs" f_carry_limbs fd_carry_limbs ["limbs"] 2 false F_carry_limbs) (B_carry_limbs : Bd K fd_carry_limbs ["limbs"] 1 [] gApp) {f_need_length : Addr} {fd_need_length : FuncData} (T_need_length : FnT P w K mg base xa T "need_length" f_need_length fd_need_length ["items", "least", "most"] 1 false F_need_length) (B_need_length : Bd K fd_need_length ["items", "least", "most"] 3 [] gApp) :
    FnOk P w K mg base (L2.CX P w) 3 f fd ["first", "second"] (spF K T xa false F_multiply_limbs) := by
  refine okF (k := 2) (g := B_multiply_limbs) FF sc_multiply_limbs rfl rfl (fun cdv A outer s H E fl hr => ?_)
  have hu := roomU hr
  exact (qss_cons (qs_expr v_fu (q_callF T_need_length B_need_length hr (by decide) (takes_of rfl rfl rfl rfl) (args_some (qa_cons (qv 0) (qa_cons q_int (qa_cons q_int qa_nil))) qk_nil))) (qss_cons (qs_expr v_fu (q_callF T_need_length B_need_length hr (by decide) (takes_of rfl rfl rfl rfl) (args_some (qa_cons (qv 1) (qa_cons q_int (qa_cons q_int qa_nil))) qk_nil))) (qss_cons (qs_unp (t := (.ul [2, 3, 4, 5, 6])) (qv 0) (pg_unl rfl (pgs_cons (pg_name (i := 2) sc_multiply_limbs.nd rfl (by first | exact Or.inl rfl | exact Or.inr rfl)) (pgs_cons (pg_name (i := 3) sc_multiply_limbs.nd rfl (by first | exact Or.inl rfl | exact Or.inr rfl)) (pgs_cons (pg_name (i := 4) sc_multiply_limbs.nd rfl (by first | exact Or.inl rfl | exact Or.inr rfl)) (pgs_cons (pg_name (i := 5) sc_multiply_limbs.nd rfl (by first | exact Or.inl rfl | exact Or.inr rfl)) (pgs_cons (pg_name (i := 6) sc_multiply_limbs.nd rfl (by first | exact Or.inl rfl | exact Or.inr rfl)) pgs_nil))))))) (qss_cons (qs_unp (t := (.ul [7, 8, 9, 10, 11])) (qv 1) (pg_unl rfl (pgs_cons (pg_name (i := 7) sc_multiply_limbs.nd rfl (by first | exact Or.inl rfl | exact Or.inr rfl)) (pgs_cons (pg_name (i := 8) sc_multiply_limbs.nd rfl (by first | exact Or.inl rfl | exact Or.inr rfl)) (pgs_cons (pg_name (i := 9) sc_multiply_limbs.nd rfl (by first | exact Or.inl rfl | exact Or.inr rfl)) (pgs_cons (pg_name (i := 10) sc_multiply_limbs.nd rfl (by first | exact Or.inl rfl | exact Or.inr rfl)) (pgs_cons (pg_name (i := 11) sc_multiply_limbs.nd rfl (by first | exact Or.inl rfl | exact Or.inr rfl)) pgs_nil))))))) (qss_one (qs_ret (q_callF T_carry_limbs B_carry_limbs hr (by decide) (takes_of rfl rfl rfl rfl) (args_some (qa_cons (QF.toE (qf_list (qa_cons (q_add (q_mul (qv 2) (qv 7)) (q_mul q_int (q_add (q_add (q_add (q_mul (qv 3) (qv 11)) (q_mul (qv 4) (qv 10))) (q_mul (qv 5) (qv 9))) (q_mul (qv 6) (qv 8))))) (qa_cons (q_add (q_add (q_mul (qv 2) (qv 8)) (q_mul (qv 3) (qv 7))) (q_mul q_int (q_add (q_add (q_mul (qv 4) (qv 11)) (q_mul (qv 5) (qv 10))) (q_mul (qv 6) (qv 9))))) (qa_cons (q_add (q_add (q_add (q_mul (qv 2) (qv 9)) (q_mul (qv 3) (qv 8))) (q_mul (qv 4) (qv 7))) (q_mul q_int (q_add (q_mul (qv 5) (qv 11)) (q_mul (qv 6) (qv 10))))) (qa_cons (q_add (q_add (q_add (q_add (q_mul (qv 2) (qv 10)) (q_mul (qv 3) (qv 9))) (q_mul (qv 4) (qv 8))) (q_mul (qv 5) (qv 7))) (q_mul q_int (q_mul (qv 6) (qv 11)))) (qa_cons (q_add (q_add (q_add (q_add (q_mul (qv 2) (qv 11)) (q_mul (qv 3) (qv 10))) (q_mul (qv 4) (qv 9))) (q_mul (qv 5) (qv 8))) (q_mul (qv 6) (qv 7))) qa_nil))))))) qa_nil) qk_nil))))))))
theorem sc__law_cell : FnScope ["script", "k"] ["script", "k"] (defScope (topS 15)) := ⟨rfl, rfl, rfl, by decide +kernel, rfl, by decide +kernel, by decide +kernel⟩
noncomputable def B__law_cell : Env → Out :=
  (sSeq (sIf fu (eB (e2 gLt (eVar 1) (fun env => ((asCons (eVar 0) asNil) env).bind gLen)))
  (sRet (fun env => ((asCons (e2 gIx (eVar 0) (eVar 1)) asNil) env).bind gInt))
  sNil)
  (sRet (eC (.int 0))))
noncomputable def F__law_cell : FT := runF 2 2 B__law_cell
set_option maxHeartbeats 16000000 in
theorem ok__law_cell {f : Addr} {fd : FuncData} (FF : FunO K "_law_cell" "_law_cell" (topS 15) f fd) (m_int : mg "int" = none) (m_len : mg "len" = none) :
    FnOk P w K mg base (L2.CX P w) 1 f fd ["script", "k"] (spF K T xa false F__law_cell) := by
  refine okF (k := 0) (g := B__law_cell) FF sc__law_cell rfl rfl (fun cdv A outer s H E fl hr => ?_)
  have hu := roomU hr
  exact (qss_cons (qs_if v_fu (qt_lt (qv 1) (q_len (by rfl) m_len (qa_cons (qv 0) qa_nil)))
  (qss_one (qs_ret (q_int_of (by rfl) m_int (qa_cons (q_ix (qv 0) (qv 1) (fun _ _ => rfl)) qa_nil))))
  qss_nil) (qss_one (qs_ret q_int)))
theorem sc__law_integer : FnScope ["x"] ["x"] (defScope (topS 18)) := ⟨rfl, rfl, rfl, by decide +kernel, rfl, by decide +kernel, by decide +kernel⟩
noncomputable def B__law_integer : Env → Out :=
  (sRet (eAnd (eIsi isInt (eVar 0)) (eNot (eIsi isBool (eVar 0)))))
noncomputable def F__law_integer : FT := runF 1 1 B__law_integer
set_option maxHeartbeats 16000000 in
theorem ok__law_integer {f : Addr} {fd : FuncData} (FF : FunO K "_law_integer" "_law_integer" (topS 18) f fd) (m_bool : mg "bool" = none) (m_int : mg "int" = none) (m_isinstance : mg "isinstance" = none) :
    FnOk P w K mg base (L2.CX P w) 1 f fd ["x"] (spF K T xa false F__law_integer) := by
  refine okF (k := 0) (g := B__law_integer) FF sc__law_integer rfl rfl (fun cdv A outer s H E fl hr => ?_)
  have hu := roomU hr
  exact (qss_one (qs_ret (q_and' (q_isi kit_int (by rfl) m_isinstance (by rfl) m_int boot_int (qv 0)) (q_one (q_not' (q_isi kit_bool (by rfl) m_isinstance (by rfl) m_bool boot_bool (qv 0)))))))
theorem sc__law_is_list : FnScope ["found", "due", "one", "other"] ["found", "due"] (defScope (topS 19)) := ⟨rfl, rfl, rfl, by decide +kernel, rfl, by decide +kernel, by decide +kernel⟩
noncomputable def L__law_is_list_1 : Env → Out :=
  (sIf fu (bOr (bNot (eB (pArgs 1 0 gApp (asCons (eVar 2) asNil) asNil (pCall F__law_integer)))) (eB (e2 gNe (eVar 2) (eVar 3))))
  (sRet (eC (.bool false)))
  sNil)
noncomputable def B__law_is_list : Env → Out :=
  (sSeq (sIf fu (bOr (bNot (eB (eIsi isList (eVar 0)))) (eB (e2 gNe (fun env => ((asCons (eVar 0) asNil) env).bind gLen) (fun env => ((asCons (eVar 1) asNil) env).bind gLen))))
  (sRet (eC (.bool false)))
  sNil)
  (sSeq (sFor (.tp [2, 3]) (iZ (asCons (eVar 0) (asCons (eVar 1) asNil)))
  L__law_is_list_1)
  (sRet (eC (.bool true)))))
noncomputable def F__law_is_list : FT := runF 2 4 B__law_is_list
set_option maxHeartbeats 16000000 in
theorem ok__law_is_list {f : Addr} {fd : FuncData} (FF : FunO K "_law_is_list" "_law_is_list" (topS 19) f fd) {f__law_integer : Addr} {fd__law_integer : FuncData} (T__law_integer : FnT P w K mg base xa T "_law_integer" f__law_integer fd__law_integer ["x"] 1 false F__law_integer) (B__law_integer : Bd K fd__law_integer ["x"] 1 [] gApp) (m_isinstance : mg "isinstance" = none) (m_len : mg "len" = none) (m_list : mg "list" = none) (m_zip : mg "zip" = none) :
    FnOk P w K mg base (L2.CX P w) 2 f fd ["found", "due"] (spF K T xa false F__law_is_list) := by
  refine okF (k := 1) (g := B__law_is_list) FF sc__law_is_list rfl rfl (fun cdv A outer s H E fl hr => ?_)
  have hu := roomU hr
  exact (qss_cons (qs_if v_fu (QW.t (qw_or (qt_not (qt_val (q_isi kit_list (by rfl) m_isinstance (by rfl) m_list boot_list (qv 0)))) (qw_or1 (qt_ne hu (q_len (by rfl) m_len (qa_cons (qv 0) qa_nil)) (q_len (by rfl) m_len (qa_cons (qv 1) qa_nil))))))
  (qss_one (qs_ret q_bl))
  qss_nil) (qss_cons (qs_for (t := (.tp [2, 3])) (passes_of rfl) rfl (qi_zip (by rfl) m_zip (qa_cons (qv 0) (qa_cons (qv 1) qa_nil))) (pg_tup rfl (pgs_cons (pg_name (i := 2) sc__law_is_list.nd rfl (by first | exact Or.inl rfl | exact Or.inr rfl)) (pgs_cons (pg_name (i := 3) sc__law_is_list.nd rfl (by first | exact Or.inl rfl | exact Or.inr rfl)) pgs_nil)))
  (qss_one (qs_if v_fu (QW.t (qw_or (qt_not (qt_val (q_callF T__law_integer B__law_integer hr (by decide) (takes_of rfl rfl rfl rfl) (args_some (qa_cons (qv 2) qa_nil) qk_nil)))) (qw_or1 (qt_ne hu (qv 2) (qv 3)))))
  (qss_one (qs_ret q_bl))
  qss_nil))) (qss_one (qs_ret q_bl))))
theorem sc__law_value : FnScope ["limbs", "value", "k"] ["limbs"] (defScope (topS 20)) := ⟨rfl, rfl, rfl, by decide +kernel, rfl, by decide +kernel, by decide +kernel⟩
noncomputable def L__law_value_1 : Env → Out :=
  (sSetV 1 (e2 gAdd (eVar 1) (e2 gMul (e2 gIx (eVar 0) (eVar 2)) (e2 gShl (eC (.int 1)) (e2 gMul (eC (.int 26)) (eVar 2))))))
noncomputable def B__law_value : Env → Out :=
  (sSeq (sSetV 1 (eC (.int 0)))
  (sSeq (sForR fu (.nm 2) (iR1 (asCons (eC (.int 5)) asNil))
  L__law_value_1)
  (sRet (eVar 1))))
noncomputable def F__law_value : FT := runF 1 3 B__law_value
set_option maxHeartbeats 16000000 in
theorem ok__law_value {f : Addr} {fd : FuncData} (FF : FunO K "_law_value" "_law_value" (topS 20) f fd) (m_range : mg "range" = none) :
    FnOk P w K mg base (L2.CX P w) 1 f fd ["limbs"] (spF K T xa false F__law_value) := by
  refine okF (k := 0) (g := B__law_value) FF sc__law_value rfl rfl (fun cdv A outer s H E fl hr => ?_)
  have hu := roomU hr
  exact (qss_cons (qs_setV (i := 1) sc__law_value.nd rfl q_int) (qss_cons (qs_forR v_fu (t := (.nm 2)) (passes_of rfl) rfl (qr_range1 (by rfl) m_range (qa_cons q_int qa_nil)) (pg_name (i := 2) sc__law_value.nd rfl (by first | exact Or.inl rfl | exact Or.inr rfl))
  (qss_one (qs_setV (i := 1) sc__law_value.nd rfl (q_add (qv 1) (q_mul (q_ix (qv 0) (qv 2) (fun _ _ => rfl)) (q_shl q_int (q_mul q_int (qv 2)))))))) (qss_one (qs_ret (qv 1)))))
theorem sc__law_carry : FnScope ["limbs", "out", "k"] ["limbs"] (defScope (topS 21)) := ⟨rfl, rfl, rfl, by decide +kernel, rfl, by decide +kernel, by decide +kernel⟩
noncomputable def L__law_carry_1 : Env → Out :=
  (sSeq (sMeth 1 (sStS fu 1 (e2 gAdd (eVar 2) (eC (.int 1))) (e2 gAdd (e2 gIx (eVar 1) (e2 gAdd (eVar 2) (eC (.int 1)))) (e2 gDiv (e2 gIx (eVar 1) (eVar 2)) (eC (.int 67108864))))))
  (sMeth 1 (sStS fu 1 (eVar 2) (e2 gMod (e2 gIx (eVar 1) (eVar 2)) (eC (.int 67108864))))))
noncomputable def B__law_carry : Env → Out :=
  (sSeq (sSetO 1 (fun env => ((asCons (eVar 0) asNil) env).bind gList))
  (sSeq (sForR fu (.nm 2) (iR1 (asCons (eC (.int 4)) asNil))
  L__law_carry_1)
  (sSeq (sMeth 1 (sStS fu 1 (eC (.int 0)) (e2 gAdd (e2 gIx (eVar 1) (eC (.int 0))) (e2 gMul (eC (.int 5)) (e2 gDiv (e2 gIx (eVar 1) (eC (.int 4))) (eC (.int 67108864)))))))
  (sSeq (sMeth 1 (sStS fu 1 (eC (.int 4)) (e2 gMod (e2 gIx (eVar 1) (eC (.int 4))) (eC (.int 67108864)))))
  (sSeq (sMeth 1 (sStS fu 1 (eC (.int 1)) (e2 gAdd (e2 gIx (eVar 1) (eC (.int 1))) (e2 gDiv (e2 gIx (eVar 1) (eC (.int 0))) (eC (.int 67108864))))))
  (sSeq (sMeth 1 (sStS fu 1 (eC (.int 0)) (e2 gMod (e2 gIx (eVar 1) (eC (.int 0))) (eC (.int 67108864)))))
  (sRet (eVar 1))))))))
noncomputable def F__law_carry : FT := runF 1 3 B__law_carry
set_option maxHeartbeats 16000000 in
theorem ok__law_carry {f : Addr} {fd : FuncData} (FF : FunO K "_law_carry" "_law_carry" (topS 21) f fd) (m_list : mg "list" = none) (m_range : mg "range" = none) :
    FnOk P w K mg base (L2.CX P w) 1 f fd ["limbs"] (spF K T xa false F__law_carry) := by
  refine okF (k := 0) (g := B__law_carry) FF sc__law_carry rfl rfl (fun cdv A outer s H E fl hr => ?_)
  have hu := roomU hr
  exact (qss_cons (qs_setO (i := 1) sc__law_carry.nd rfl (qf_listOf (by rfl) m_list (qa_cons (qv 0) qa_nil))) (qss_cons (qs_forR v_fu (t := (.nm 2)) (passes_of rfl) rfl (qr_range1 (by rfl) m_range (qa_cons q_int qa_nil)) (pg_name (i := 2) sc__law_carry.nd rfl (by first | exact Or.inl rfl | exact Or.inr rfl))
  (qss_cons (qs_stS v_fu (i := 1) rfl (q_add (qv 2) q_int) (q_add (q_ix (qv 1) (q_add (qv 2) q_int) (fun _ _ => rfl)) (q_div (q_ix (qv 1) (qv 2) (fun _ _ => rfl)) q_int))) (qss_one (qs_stS v_fu (i := 1) rfl (qv 2) (q_mod (q_ix (qv 1) (qv 2) (fun _ _ => rfl)) q_int))))) (qss_cons (qs_stS v_fu (i := 1) rfl q_int (q_add (q_ix (qv 1) q_int (fun _ _ => rfl)) (q_mul q_int (q_div (q_ix (qv 1) q_int (fun _ _ => rfl)) q_int)))) (qss_cons (qs_stS v_fu (i := 1) rfl q_int (q_mod (q_ix (qv 1) q_int (fun _ _ => rfl)) q_int)) (qss_cons (qs_stS v_fu (i := 1) rfl q_int (q_add (q_ix (qv 1) q_int (fun _ _ => rfl)) (q_div (q_ix (qv 1) q_int (fun _ _ => rfl)) q_int))) (qss_cons (qs_stS v_fu (i := 1) rfl q_int (q_mod (q_ix (qv 1) q_int (fun _ _ => rfl)) q_int)) (qss_one (qs_ret (qv 1)))))))))
theorem sc__law_small : FnScope ["limbs", "k", "bound"] ["limbs"] (defScope (topS 22)) := ⟨rfl, rfl, rfl, by decide +kernel, rfl, by decide +kernel, by decide +kernel⟩
noncomputable def L__law_small_1 : Env → Out :=
  (sSeq (sSetV 2 (eC (.int 67108864)))
  (sSeq (sIf fu (eB (e2 gEq (eVar 1) (eC (.int 1))))
  (sSetV 2 (e2 gAdd (eC (.int 67108864)) (eC (.int 8192))))
  sNil)
  (sIf fu (bOr (eB (e2 gLt (e2 gIx (eVar 0) (eVar 1)) (eC (.int 0)))) (eB (e2 gGe (e2 gIx (eVar 0) (eVar 1)) (eVar 2))))
  (sRet (eC (.bool false)))
  sNil)))
noncomputable def B__law_small : Env → Out :=
  (sSeq (sForR fu (.nm 1) (iR1 (asCons (eC (.int 5)) asNil))
  L__law_small_1)
  (sRet (eC (.bool true))))
noncomputable def F__law_small : FT := runF 1 3 B__law_small
set_option maxHeartbeats 16000000 in
theorem ok__law_small {f : Addr} {fd : FuncData} (FF : FunO K "_law_small" "_law_small" (topS 22) f fd) (m_range : mg "range" = none) :
    FnOk P w K mg base (L2.CX P w) 1 f fd ["limbs"] (spF K T xa false F__law_small) := by
  refine okF (k := 0) (g := B__law_small) FF sc__law_small rfl rfl (fun cdv A outer s H E fl hr => ?_)
  have hu := roomU hr
  exact (qss_cons (qs_forR v_fu (t := (.nm 1)) (passes_of rfl) rfl (qr_range1 (by rfl) m_range (qa_cons q_int qa_nil)) (pg_name (i := 1) sc__law_small.nd rfl (by first | exact Or.inl rfl | exact Or.inr rfl))
  (qss_cons (qs_setV (i := 2) sc__law_small.nd rfl q_int) (qss_cons (qs_if v_fu (qt_eq hu (qv 1) q_int)
  (qss_one (qs_setV (i := 2) sc__law_small.nd rfl (q_add q_int q_int)))
  qss_nil) (qss_one (qs_if v_fu (QW.t (qw_or (qt_lt (q_ix (qv 0) (qv 1) (fun _ _ => rfl)) q_int) (qw_or1 (qt_ge (q_ix (qv 0) (qv 1) (fun _ _ => rfl)) (qv 2)))))
  (qss_one (qs_ret q_bl))
  qss_nil))))) (qss_one (qs_ret q_bl)))
theorem sc__law_refused : FnScope ["limbs", "number", "count", "e"] ["limbs", "number"] (defScope (topS 23)) := ⟨rfl, rfl, rfl, by decide +kernel, rfl, by decide +kernel, by decide +kernel⟩
noncomputable def B__law_refused : Env → Out :=
  (sSeq (sSetV 2 (eC (.int 0)))
  (sSeq (sTryN xcnt (fun n => xsub n X_OutOfRange)
  (sDrop fu (pArgs 1 0 gApp (asCons (eVar 0) asNil) asNil (pCall F_carry_limbs)))
  (sSetV 2 (e2 gAdd (eVar 2) (eC (.int 1)))))
  (sSeq (sTryN xcnt (fun n => xsub n X_OutOfRange)
  (sDrop fu (pArgs 1 0 gApp (asCons (eVar 0) asNil) asNil (pCall F_from_limbs)))
  (sSetV 2 (e2 gAdd (eVar 2) (eC (.int 1)))))
  (sSeq (sTryN xcnt (fun n => xsub n X_OutOfRange)
  (sDrop fu (pArgs 2 0 gApp (asCons (fun env => ((eFit (asCons (eC (.int 1)) (asCons (eC (.int 2)) (asCons (eC (.int 3)) (asCons (eC (.int 4)) (asCons (eC (.int 5)) asNil)))))) env).map .list) (asCons (eVar 0) asNil)) asNil (pCall F_multiply_limbs)))
  (sSetV 2 (e2 gAdd (eVar 2) (eC (.int 1)))))
  (sSeq (sTry xcnt (fun n => xsub n X_HushError) 3
  (sDrop fu (pArgs 1 0 gApp (asCons (eVar 1) asNil) asNil (pCall F_to_limbs)))
  (sIf fu (eB (eIsE xcnt xsub 3 1))
  (sSetV 2 (e2 gAdd (eVar 2) (eC (.int 1))))
  sNil))
  (sRet (e2 gEq (eVar 2) (eC (.int 4)))))))))
noncomputable def F__law_refused : FT := runF 2 4 B__law_refused
set_option maxHeartbeats 16000000 in
theorem ok__law_refused {f : Addr} {fd : FuncData} (FF : FunO K "_law_refused" "_law_refused" (topS 23) f fd) {f_carry_limbs : Addr} {fd_carry_limbs : FuncData} (T_carry_limbs : FnT P w K mg base xa T "carry_limbs" f_carry_limbs fd_carry_limbs ["limbs"] 2 false F_carry_limbs) (B_carry_limbs : Bd K fd_carry_limbs ["limbs"] 1 [] gApp) {f_from_limbs : Addr} {fd_from_limbs : FuncData} (T_from_limbs : FnT P w K mg base xa T "from_limbs" f_from_limbs fd_from_limbs ["limbs"] 2 false F_from_limbs) (B_from_limbs : Bd K fd_from_limbs ["limbs"] 1 [] gApp) {f_multiply_limbs : Addr} {fd_multiply_limbs : FuncData} (T_multiply_limbs : FnT P w K mg base xa T "multiply_limbs" f_multiply_limbs fd_multiply_limbs ["first", "second"] 3 false F_multiply_limbs) (B_multiply_limbs : Bd K fd_multiply_limbs ["first", "second"] 2 [] gApp) {f_to_limbs : Addr} {fd_to_limbs : FuncData} (T_to_limbs : FnT P w K mg base xa T "to_limbs" f_to_limbs fd_to_limbs ["number"] 2 false F_to_limbs) (B_to_limbs : Bd K fd_to_limbs ["number"] 1 [] gApp) (m_isinstance : mg "isinstance" = none) (XTh : XT K xa xcnt xsub) (x_HushError : mg "HushError" = some (.ref (xa 0))) (x_OutOfRange : mg "OutOfRange" = some (.ref (xa 1))) :
    FnOk P w K mg base (L2.CX P w) 4 f fd ["limbs", "number"] (spF K T xa false F__law_refused) := by
  refine okF (k := 3) (g := B__law_refused) FF sc__law_refused rfl rfl (fun cdv A outer s H E fl hr => ?_)
  have hu := roomU hr
  exact (qss_cons (qs_setV (i := 2) sc__law_refused.nd rfl q_int) (qss_cons (qs_tryN (cm := 1) XTh (by decide) (takes_of rfl rfl rfl rfl) x_OutOfRange rfl rfl
  (fun W pn xe tk hp => (qss_one (qs_expr v_fu (q_callF T_carry_limbs B_carry_limbs hr (by decide) tk (args_some (qa_cons (qv 0) qa_nil) qk_nil)))))
  (fun a oe n pn hz hfl => (qss_one (qs_setV (i := 2) sc__law_refused.nd rfl (q_add (qv 2) q_int))))) (qss_cons (qs_tryN (cm := 1) XTh (by decide) (takes_of rfl rfl rfl rfl) x_OutOfRange rfl rfl
  (fun W pn xe tk hp => (qss_one (qs_expr v_fu (q_callF T_from_limbs B_from_limbs hr (by decide) tk (args_some (qa_cons (qv 0) qa_nil) qk_nil)))))
  (fun a oe n pn hz hfl => (qss_one (qs_setV (i := 2) sc__law_refused.nd rfl (q_add (qv 2) q_int))))) (qss_cons (qs_tryN (cm := 1) XTh (by decide) (takes_of rfl rfl rfl rfl) x_OutOfRange rfl rfl
  (fun W pn xe tk hp => (qss_one (qs_expr v_fu (q_callF T_multiply_limbs B_multiply_limbs hr (by decide) tk (args_some (qa_cons (QF.toE (qf_list (qa_cons q_int (qa_cons q_int (qa_cons q_int (qa_cons q_int (qa_cons q_int qa_nil))))))) (qa_cons (qv 0) qa_nil)) qk_nil)))))
  (fun a oe n pn hz hfl => (qss_one (qs_setV (i := 2) sc__law_refused.nd rfl (q_add (qv 2) q_int))))) (qss_cons (qs_try (i := 3) (cm := 0) XTh (by decide) sc__law_refused.nd rfl (takes_of rfl rfl rfl rfl) x_HushError rfl rfl rfl
  (fun W pn xe tk hp => (qss_one (qs_expr v_fu (q_callF T_to_limbs B_to_limbs hr (by decide) tk (args_some (qa_cons (qv 1) qa_nil) qk_nil)))))
  (fun a oe n pn hz hfl => (qss_one (qs_if v_fu (qt_val (q_isE (C := (cfOf xa T fl E)) (i := 3) XTh (by decide) hz hfl (by rfl) m_isinstance x_OutOfRange rfl))
  (qss_one (qs_setV (i := 2) sc__law_refused.nd rfl (q_add (qv 2) q_int)))
  qss_nil)))) (qss_one (qs_ret (q_eq hu (qv 2) q_int))))))))
theorem sc__law_carried : FnScope ["limbs", "given", "found", "prime"] ["limbs"] (defScope (topS 24)) := ⟨rfl, rfl, rfl, by decide +kernel, rfl, by decide +kernel, by decide +kernel⟩
noncomputable def B__law_carried : Env → Out :=
  (sSeq (sSetV 1 (fun env => ((fun env => ((asCons (eVar 0) asNil) env).bind gList) env).map .list))
  (sSeq (sSetV 2 (pArgs 1 0 gApp (asCons (eVar 1) asNil) asNil (pCall F_carry_limbs)))
  (sSeq (sIf fu (bOr (eB (e2 gNe (eVar 1) (eVar 0))) (bNot (eB (pArgs 2 0 gApp (asCons (eVar 2) (asCons (pArgs 1 0 gApp (asCons (eVar 0) asNil) asNil (pCall F__law_carry)) asNil)) asNil (pCall F__law_is_list)))))
  (sRet (eC (.bool false)))
  sNil)
  (sSeq (sSetV 3 (e2 gSub (e2 gShl (eC (.int 1)) (eC (.int 130))) (eC (.int 5))))
  (sRet (eAnd (pArgs 1 0 gApp (asCons (eVar 2) asNil) asNil (pCall F__law_small)) (e2 gEq (e2 gMod (pArgs 1 0 gApp (asCons (eVar 2) asNil) asNil (pCall F__law_value)) (eVar 3)) (e2 gMod (pArgs 1 0 gApp (asCons (eVar 0) asNil) asNil (pCall F__law_value)) (eVar 3)))))))))
noncomputable def F__law_carried : FT := runF 1 4 B__law_carried
set_option maxHeartbeats 16000000 in
theorem ok__law_carried {f : Addr} {fd : FuncData} (FF : FunO K "_law_carried" "_law_carried" (topS 24) f fd) {f__law_carry : Addr} {fd__law_carry : FuncData} (T__law_carry : FnT P w K mg base xa T "_law_carry" f__law_carry fd__law_carry ["limbs"] 1 false F__law_carry) (B__law_carry : Bd K fd__law_carry ["limbs"] 1 [] gApp) {f__law_is_list : Addr} {fd__law_is_list : FuncData} (T__law_is_list : FnT P w K mg base xa T "_law_is_list" f__law_is_list fd__law_is_list ["found", "due"] 2 false F__law_is_list) (B__law_is_list : Bd K fd__law_is_list ["found", "due"] 2 [] gApp) {f__law_small : Addr} {fd__law_small : FuncData} (T__law_small : FnT P w K mg base xa T "_law_small" f__law_small fd__law_small ["limbs"] 1 false F__law_small) (B__law_small : Bd K fd__law_small ["limbs"] 1 [] gApp) {f__law_value : Addr} {fd__law_value : FuncData} (T__law_value : FnT P w K mg base xa T "_law_value" f__law_value fd__law_value ["limbs"] 1 false F__law_value) (B__law_value : Bd K fd__law_value ["limbs"] 1 [] gApp) {f_carry_limbs : Addr} {fd_carry_limbs : FuncData} (T_carry_limbs : FnT P w K mg base xa T "carry_limbs" f_carry_limbs fd_carry_limbs ["limbs"] 2 false F_carry_limbs) (B_carry_limbs : Bd K fd_carry_limbs ["limbs"] 1 [] gApp) (m_list : mg "list" = none) :
    FnOk P w K mg base (L2.CX P w) 3 f fd ["limbs"] (spF K T xa false F__law_carried) := by
  refine okF (k := 2) (g := B__law_carried) FF sc__law_carried rfl rfl (fun cdv A outer s H E fl hr => ?_)
  have hu := roomU hr
  exact (qss_cons (qs_setV (i := 1) sc__law_carried.nd rfl (QF.toE (qf_listOf (by rfl) m_list (qa_cons (qv 0) qa_nil)))) (qss_cons (qs_setV (i := 2) sc__law_carried.nd rfl (q_callF T_carry_limbs B_carry_limbs hr (by decide) (takes_of rfl rfl rfl rfl) (args_some (qa_cons (qv 1) qa_nil) qk_nil))) (qss_cons (qs_if v_fu (QW.t (qw_or (qt_ne hu (qv 1) (qv 0)) (qw_or1 (qt_not (qt_val (q_callF T__law_is_list B__law_is_list hr (by decide) (takes_of rfl rfl rfl rfl) (args_some (qa_cons (qv 2) (qa_cons (q_callF T__law_carry B__law_carry hr (by decide) (takes_of rfl rfl rfl rfl) (args_some (qa_cons (qv 0) qa_nil) qk_nil)) qa_nil)) qk_nil)))))))
  (qss_one (qs_ret q_bl))
  qss_nil) (qss_cons (qs_setV (i := 3) sc__law_carried.nd rfl (q_sub (q_shl q_int q_int) q_int)) (qss_one (qs_ret (q_and' (q_callF T__law_small B__law_small hr (by decide) (takes_of rfl rfl rfl rfl) (args_some (qa_cons (qv 2) qa_nil) qk_nil)) (q_one (q_eq hu (q_mod (q_callF T__law_value B__law_value hr (by decide) (takes_of rfl rfl rfl rfl) (args_some (qa_cons (qv 2) qa_nil) qk_nil)) (qv 3)) (q_mod (q_callF T__law_value B__law_value hr (by decide) (takes_of rfl rfl rfl rfl) (args_some (qa_cons (qv 0) qa_nil) qk_nil)) (qv 3)))))))))))
theorem sc_law : FnScope ["script", "prime", "limbs", "first", "second", "product", "raw", "i", "low", "number", "told", "k", "j"] ["script"] (defScope (topS 25)) := ⟨rfl, rfl, rfl, by decide +kernel, rfl, by decide +kernel, by decide +kernel⟩
noncomputable def E_law_1 : Env → Res D :=
  (e2 gMod (pArgs 2 0 gApp (asCons (eVar 0) (asCons (eVar 11) asNil)) asNil (pCall F__law_cell)) (eC (.int 4611686018427387904)))
noncomputable def E_law_2 : Env → Res D :=
  (e2 gSub (eC (.int 4611686018427387903)) (e2 gMod (pArgs 2 0 gApp (asCons (eVar 0) (asCons (eVar 11) asNil)) asNil (pCall F__law_cell)) (eC (.int 2))))
noncomputable def E_law_3 : Env → Res D :=
  (e2 gMod (pArgs 2 0 gApp (asCons (eVar 0) (asCons (e2 gAdd (eC (.int 5)) (eVar 11)) asNil)) asNil (pCall F__law_cell)) (eC (.int 268435456)))
noncomputable def E_law_4 : Env → Res D :=
  (e2 gMod (pArgs 2 0 gApp (asCons (eVar 0) (asCons (e2 gAdd (eC (.int 10)) (eVar 11)) asNil)) asNil (pCall F__law_cell)) (eC (.int 268435456)))
noncomputable def E_law_5 : Env → Res D :=
  (e2 gMul (e2 gIx (eVar 3) (eVar 12)) (e2 gIx (eVar 4) (e2 gSub (eVar 7) (eVar 12))))
noncomputable def E_law_6 : Env → Res D :=
  (e2 gMul (e2 gIx (eVar 3) (eVar 12)) (e2 gIx (eVar 4) (e2 gSub (e2 gAdd (eVar 7) (eC (.int 5))) (eVar 12))))
noncomputable def L_law_7 : Env → Out :=
  (sSeq (sSetV 8 (fun env => ((asCons (fun env => ((eComp (.nm 12) (iR1 (asCons (e2 gAdd (eVar 7) (eC (.int 1))) asNil)) cYes E_law_5) env).map .list) asNil) env).bind gSum))
  (sMeth 6 (sAppV 6 (e2 gAdd (eVar 8) (e2 gMul (eC (.int 5)) (fun env => ((asCons (fun env => ((eComp (.nm 12) (iR2 (asCons (e2 gAdd (eVar 7) (eC (.int 1))) (asCons (eC (.int 5)) asNil))) cYes E_law_6) env).map .list) asNil) env).bind gSum))))))
noncomputable def E_law_8 : Env → Res D :=
  (e2 gMod (e2 gDiv (eVar 9) (e2 gShl (eC (.int 1)) (e2 gMul (eC (.int 26)) (eVar 11)))) (eC (.int 67108864)))
noncomputable def B_law : Env → Out :=
  (sSeq (sSetV 1 (e2 gSub (e2 gShl (eC (.int 1)) (eC (.int 130))) (eC (.int 5))))
  (sSeq (sSetV 2 (fun env => ((eComp (.nm 11) (iR1 (asCons (eC (.int 5)) asNil)) cYes E_law_1) env).map .list))
  (sSeq (sIf fu (eB (e2 gEq (e2 gMod (pArgs 2 0 gApp (asCons (eVar 0) (asCons (eC (.int 16)) asNil)) asNil (pCall F__law_cell)) (eC (.int 4))) (eC (.int 1))))
  (sSetV 2 (fun env => ((eComp (.nm 11) (iR1 (asCons (eC (.int 5)) asNil)) cYes E_law_2) env).map .list))
  sNil)
  (sSeq (sIf fu (eB (e2 gEq (e2 gMod (pArgs 2 0 gApp (asCons (eVar 0) (asCons (eC (.int 16)) asNil)) asNil (pCall F__law_cell)) (eC (.int 4))) (eC (.int 2))))
  (sSetV 2 (fun env => ((eFit (asCons (e2 gAdd (eC (.int 67108859)) (e2 gMod (pArgs 2 0 gApp (asCons (eVar 0) (asCons (eC (.int 0)) asNil)) asNil (pCall F__law_cell)) (eC (.int 10)))) (asCons (eC (.int 67108863)) (asCons (eC (.int 67108863)) (asCons (eC (.int 67108863)) (asCons (eC (.int 67108863)) asNil)))))) env).map .list))
  sNil)
  (sSeq (sIf fu (bNot (eB (pArgs 1 0 gApp (asCons (eVar 2) asNil) asNil (pCall F__law_carried))))
  (sRet (eC (.bool false)))
  sNil)
  (sSeq (sSetV 3 (fun env => ((eComp (.nm 11) (iR1 (asCons (eC (.int 5)) asNil)) cYes E_law_3) env).map .list))
  (sSeq (sSetV 4 (fun env => ((eComp (.nm 11) (iR1 (asCons (eC (.int 5)) asNil)) cYes E_law_4) env).map .list))
  (sSeq (sIf fu (eB (e2 gEq (e2 gMod (e2 gDiv (pArgs 2 0 gApp (asCons (eVar 0) (asCons (eC (.int 16)) asNil)) asNil (pCall F__law_cell)) (eC (.int 4))) (eC (.int 4))) (eC (.int 1))))
  (sSeq (sSetV 3 (fun env => ((e2FF (eFit (asCons (eC (.int 268435455)) asNil)) (eC (.int 5))) env).map .list))
  (sSetV 4 (fun env => ((e2FF (eFit (asCons (eC (.int 268435455)) asNil)) (eC (.int 5))) env).map .list)))
  sNil)
  (sSeq (sSetV 5 (pArgs 2 0 gApp (asCons (fun env => ((fun env => ((asCons (eVar 3) asNil) env).bind gList) env).map .list) (asCons (fun env => ((fun env => ((asCons (eVar 4) asNil) env).bind gList) env).map .list) asNil)) asNil (pCall F_multiply_limbs)))
  (sSeq (sSetO 6 (eFit asNil))
  (sSeq (sForR fu (.nm 7) (iR1 (asCons (eC (.int 5)) asNil))
  L_law_7)
  (sSeq (sIf fu (bOr (bNot (eB (pArgs 2 0 gApp (asCons (eVar 5) (asCons (pArgs 1 0 gApp (asCons (eVar 6) asNil) asNil (pCall F__law_carry)) asNil)) asNil (pCall F__law_is_list)))) (bNot (eB (pArgs 1 0 gApp (asCons (eVar 5) asNil) asNil (pCall F__law_small)))))
  (sRet (eC (.bool false)))
  sNil)
  (sSeq (sIf fu (eB (e2 gNe (e2 gMod (pArgs 1 0 gApp (asCons (eVar 5) asNil) asNil (pCall F__law_value)) (eVar 1)) (e2 gMod (e2 gMul (pArgs 1 0 gApp (asCons (eVar 3) asNil) asNil (pCall F__law_value)) (pArgs 1 0 gApp (asCons (eVar 4) asNil) asNil (pCall F__law_value))) (eVar 1))))
  (sRet (eC (.bool false)))
  sNil)
  (sSeq (sSetV 9 (e2 gMod (e2 gMul (fun env => ((asCons (pArgs 2 0 gApp (asCons (eVar 0) (asCons (eC (.int 15)) asNil)) asNil (pCall F__law_cell)) asNil) env).bind gAbs) (fun env => ((asCons (pArgs 2 0 gApp (asCons (eVar 0) (asCons (eC (.int 14)) asNil)) asNil (pCall F__law_cell)) asNil) env).bind gAbs)) (e2 gShl (eC (.int 1)) (eC (.int 130)))))
  (sSeq (sIf fu (eB (e2 gEq (e2 gMod (e2 gDiv (pArgs 2 0 gApp (asCons (eVar 0) (asCons (eC (.int 16)) asNil)) asNil (pCall F__law_cell)) (eC (.int 16))) (eC (.int 3))) (eC (.int 1))))
  (sSetV 9 (e2 gSub (e2 gSub (e2 gShl (eC (.int 1)) (eC (.int 130))) (eC (.int 1))) (e2 gMod (eVar 9) (eC (.int 9)))))
  sNil)
  (sSeq (sSetV 10 (pArgs 1 0 gApp (asCons (eVar 9) asNil) asNil (pCall F_to_limbs)))
  (sSeq (sIf fu (bNot (eB (pArgs 2 0 gApp (asCons (eVar 10) (asCons (fun env => ((eComp (.nm 11) (iR1 (asCons (eC (.int 5)) asNil)) cYes E_law_8) env).map .list) asNil)) asNil (pCall F__law_is_list))))
  (sRet (eC (.bool false)))
  sNil)
  (sSeq (sIf fu (bOr (bNot (eB (pArgs 1 0 gApp (asCons (pArgs 1 0 gApp (asCons (eVar 10) asNil) asNil (pCall F_from_limbs)) asNil) asNil (pCall F__law_integer)))) (bOr (eB (e2 gNe (pArgs 1 0 gApp (asCons (eVar 10) asNil) asNil (pCall F_from_limbs)) (eVar 9))) (eB (e2 gNe (pArgs 1 0 gApp (asCons (eVar 2) asNil) asNil (pCall F_from_limbs)) (pArgs 1 0 gApp (asCons (eVar 2) asNil) asNil (pCall F__law_value))))))
  (sRet (eC (.bool false)))
  sNil)
  (sRet (eAnd (pArgs 2 0 gApp (asCons (fun env => ((eSlice (eVar 2) eNo (eSo (eC (.int 4)))) env).map .list) (asCons (e1 gNeg (eC (.int 1))) asNil)) asNil (pCall F__law_refused)) (pArgs 2 0 gApp (asCons (fun env => ((e2F gCat (eVar 2) (fun env => ((eFit (asCons (eC (.int 0)) asNil)) env).map .list)) env).map .list) (asCons (e2 gShl (eC (.int 1)) (eC (.int 130))) asNil)) asNil (pCall F__law_refused))))))))))))))))))))))
noncomputable def F_law : FT := runF 1 13 B_law
set_option maxHeartbeats 16000000 in
theorem ok_law {f : Addr} {fd : FuncData} (FF : FunO K "law" "law" (topS 25) f fd) {f__law_carried : Addr} {fd__law_carried : FuncData} (T__law_carried : FnT P w K mg base xa T "_law_carried" f__law_carried fd__law_carried ["limbs"] 3 false F__law_carried) (B__law_carried : Bd K fd__law_carried ["limbs"] 1 [] gApp) {f__law_carry : Addr} {fd__law_carry : FuncData} (T__law_carry : FnT P w K mg base xa T "_law_carry" f__law_carry fd__law_carry ["limbs"] 1 false F__law_carry) (B__law_carry : Bd K fd__law_carry ["limbs"] 1 [] gApp) {f__law_cell : Addr} {fd__law_cell : FuncData} (T__law_cell : FnT P w K mg base xa T "_law_cell" f__law_cell fd__law_cell ["script", "k"] 1 false F__law_cell) (B__law_cell : Bd K fd__law_cell ["script", "k"] 2 [] gApp) {f__law_integer : Addr} {fd__law_integer : FuncData} (T__law_integer : FnT P w K mg base xa T "_law_integer" f__law_integer fd__law_integer ["x"] 1 false F__law_integer) (B__law_integer : Bd K fd__law_integer ["x"] 1 [] gApp) {f__law_is_list : Addr} {fd__law_is_list : FuncData} (T__law_is_list : FnT P w K mg base xa T "_law_is_list" f__law_is_list fd__law_is_list ["found", "due"] 2 false F__law_is_list) (B__law_is_list : Bd K fd__law_is_list ["found", "due"] 2 [] gApp) {f__law_refused : Addr} {fd__law_refused : FuncData} (T__law_refused : FnT P w K mg base xa T "_law_refused" f__law_refused fd__law_refused ["limbs", "number"] 4 false F__law_refused) (B__law_refused : Bd K fd__law_refused ["limbs", "number"] 2 [] gApp) {f__law_small : Addr} {fd__law_small : FuncData} (T__law_small : FnT P w K mg base xa T "_law_small" f__law_small fd__law_small ["limbs"] 1 false F__law_small) (B__law_small : Bd K fd__law_small ["limbs"] 1 [] gApp) {f__law_value : Addr} {fd__law_value : FuncData} (T__law_value : FnT P w K mg base xa T "_law_value" f__law_value fd__law_value ["limbs"] 1 false F__law_value) (B__law_value : Bd K fd__law_value ["limbs"] 1 [] gApp) {f_from_limbs : Addr} {fd_from_limbs : FuncData} (T_from_limbs : FnT P w K mg base xa T "from_limbs" f_from_limbs fd_from_limbs ["limbs"] 2 false F_from_limbs) (B_from_limbs : Bd K fd_from_limbs ["limbs"] 1 [] gApp) {f_multiply_limbs : Addr} {fd_multiply_limbs : FuncData} (T_multiply_limbs : FnT P w K mg base xa T "multiply_limbs" f_multiply_limbs fd_multiply_limbs ["first", "second"] 3 false F_multiply_limbs) (B_multiply_limbs : Bd K fd_multiply_limbs ["first", "second"] 2 [] gApp) {f_to_limbs : Addr} {fd_to_limbs : FuncData} (T_to_limbs : FnT P w K mg base xa T "to_limbs" f_to_limbs fd_to_limbs ["number"] 2 false F_to_limbs) (B_to_limbs : Bd K fd_to_limbs ["number"] 1 [] gApp) (m_abs : mg "abs" = none) (m_list : mg "list" = none) (m_range : mg "range" = none) (m_sum : mg "sum" = none) :
    FnOk P w K mg base (L2.CX P w) 5 f fd ["script"] (spF K T xa false F_law) := by
  refine okF (k := 4) (g := B_law) FF sc_law rfl rfl (fun cdv A outer s H E fl hr => ?_)
  have hu := roomU hr
  exact (qss_cons (qs_setV (i := 1) sc_law.nd rfl (q_sub (q_shl q_int q_int) q_int)) (qss_cons (qs_setLc (tS' := fun t => tAsg t (gName 2)) (i := 2) (own := [("k", 11)]) (t := (.nm 11)) rfl sc_law.nd rfl rfl (sw_true rfl rfl rfl (by decide +kernel)) (QR.i (qr_range1 (by rfl) m_range (qa_cons q_int qa_nil))) (blkOk_by (blk_of (N' := ["script", "prime", "limbs", "first", "second", "product", "raw", "i", "low", "number", "told", "k", "j"]) (s' := defScope (topS 25)) rfl rfl (by decide +kernel))) (fun _ _ _ _ _ => (pg_name (i := 11) sc_law.nd rfl (by first | exact Or.inl rfl | exact Or.inr rfl))) (fun _ _ _ _ _ => qts_nil) (fun _ _ _ _ _ => (q_mod (q_callF T__law_cell B__law_cell hr (by decide) takes0 (args_some (qa_cons (qv 0) (qa_cons (qv 11) qa_nil)) qk_nil)) q_int)) (by decide) (by decide) (fun _ _ _ h => setVF_run h)) (qss_cons (qs_if v_fu (qt_eq hu (q_mod (q_callF T__law_cell B__law_cell hr (by decide) (takes_of rfl rfl rfl rfl) (args_some (qa_cons (qv 0) (qa_cons q_int qa_nil)) qk_nil)) q_int) q_int)
  (qss_one (qs_setLc (tS' := fun t => tAsg t (gName 2)) (i := 2) (own := [("k", 11)]) (t := (.nm 11)) rfl sc_law.nd rfl rfl (sw_true rfl rfl rfl (by decide +kernel)) (QR.i (qr_range1 (by rfl) m_range (qa_cons q_int qa_nil))) (blkOk_by (blk_of (N' := ["script", "prime", "limbs", "first", "second", "product", "raw", "i", "low", "number", "told", "k", "j"]) (s' := defScope (topS 25)) rfl rfl (by decide +kernel))) (fun _ _ _ _ _ => (pg_name (i := 11) sc_law.nd rfl (by first | exact Or.inl rfl | exact Or.inr rfl))) (fun _ _ _ _ _ => qts_nil) (fun _ _ _ _ _ => (q_sub q_int (q_mod (q_callF T__law_cell B__law_cell hr (by decide) takes0 (args_some (qa_cons (qv 0) (qa_cons (qv 11) qa_nil)) qk_nil)) q_int))) (by decide) (by decide) (fun _ _ _ h => setVF_run h)))
  qss_nil) (qss_cons (qs_if v_fu (qt_eq hu (q_mod (q_callF T__law_cell B__law_cell hr (by decide) (takes_of rfl rfl rfl rfl) (args_some (qa_cons (qv 0) (qa_cons q_int qa_nil)) qk_nil)) q_int) q_int)
  (qss_one (qs_setV (i := 2) sc_law.nd rfl (QF.toE (qf_list (qa_cons (q_add q_int (q_mod (q_callF T__law_cell B__law_cell hr (by decide) (takes_of rfl rfl rfl rfl) (args_some (qa_cons (qv 0) (qa_cons q_int qa_nil)) qk_nil)) q_int)) (qa_cons q_int (qa_cons q_int (qa_cons q_int (qa_cons q_int qa_nil)))))))))
  qss_nil) (qss_cons (qs_if v_fu (qt_not (qt_val (q_callF T__law_carried B__law_carried hr (by decide) (takes_of rfl rfl rfl rfl) (args_some (qa_cons (qv 2) qa_nil) qk_nil))))
  (qss_one (qs_ret q_bl))
  qss_nil) (qss_cons (qs_setV (i := 3) sc_law.nd rfl (QF.toE (qf_comp (own := [("k", 11)]) (t := (.nm 11)) rfl sc_law.nd (QR.i (qr_range1 (by rfl) m_range (qa_cons q_int qa_nil))) (blkOk_by (blk_of (N' := ["script", "prime", "limbs", "first", "second", "product", "raw", "i", "low", "number", "told", "k", "j"]) (s' := defScope (topS 25)) rfl rfl (by decide +kernel))) (fun _ _ _ _ _ => (pg_name (i := 11) sc_law.nd rfl (by first | exact Or.inl rfl | exact Or.inr rfl))) (fun _ _ _ _ _ => qts_nil) (fun _ _ _ _ _ => (q_mod (q_callF T__law_cell B__law_cell hr (by decide) takes0 (args_some (qa_cons (qv 0) (qa_cons (q_add q_int (qv 11)) qa_nil)) qk_nil)) q_int)) (by decide) (by decide)))) (qss_cons (qs_setV (i := 4) sc_law.nd rfl (QF.toE (qf_comp (own := [("k", 11)]) (t := (.nm 11)) rfl sc_law.nd (QR.i (qr_range1 (by rfl) m_range (qa_cons q_int qa_nil))) (blkOk_by (blk_of (N' := ["script", "prime", "limbs", "first", "second", "product", "raw", "i", "low", "number", "told", "k", "j"]) (s' := defScope (topS 25)) rfl rfl (by decide +kernel))) (fun _ _ _ _ _ => (pg_name (i := 11) sc_law.nd rfl (by first | exact Or.inl rfl | exact Or.inr rfl))) (fun _ _ _ _ _ => qts_nil) (fun _ _ _ _ _ => (q_mod (q_callF T__law_cell B__law_cell hr (by decide) takes0 (args_some (qa_cons (qv 0) (qa_cons (q_add q_int (qv 11)) qa_nil)) qk_nil)) q_int)) (by decide) (by decide)))) (qss_cons (qs_if v_fu (qt_eq hu (q_mod (q_div (q_callF T__law_cell B__law_cell hr (by decide) (takes_of rfl rfl rfl rfl) (args_some (qa_cons (qv 0) (qa_cons q_int qa_nil)) qk_nil)) q_int) q_int) q_int)
  (qss_cons (qs_setV (i := 3) sc_law.nd rfl (QF.toE (qf_rep (qf_list (qa_cons q_int qa_nil)) q_int))) (qss_one (qs_setV (i := 4) sc_law.nd rfl (QF.toE (qf_rep (qf_list (qa_cons q_int qa_nil)) q_int)))))
  qss_nil) (qss_cons (qs_setV (i := 5) sc_law.nd rfl (q_callF T_multiply_limbs B_multiply_limbs hr (by decide) (takes_of rfl rfl rfl rfl) (args_some (qa_cons (QF.toE (qf_listOf (by rfl) m_list (qa_cons (qv 3) qa_nil))) (qa_cons (QF.toE (qf_listOf (by rfl) m_list (qa_cons (qv 4) qa_nil))) qa_nil)) qk_nil))) (qss_cons (qs_setO (i := 6) sc_law.nd rfl (qf_list qa_nil)) (qss_cons (qs_forR v_fu (t := (.nm 7)) (passes_of rfl) rfl (qr_range1 (by rfl) m_range (qa_cons q_int qa_nil)) (pg_name (i := 7) sc_law.nd rfl (by first | exact Or.inl rfl | exact Or.inr rfl))
  (qss_cons (qs_setV (i := 8) sc_law.nd rfl (q_sum rfl (by rfl) m_sum (qa_cons (QF.toE (qf_comp (own := [("j", 12)]) (t := (.nm 12)) rfl sc_law.nd (QR.i (qr_range1 (by rfl) m_range (qa_cons (q_add (qv 7) q_int) qa_nil))) (blkOk_by (blk_of (N' := ["script", "prime", "limbs", "first", "second", "product", "raw", "i", "low", "number", "told", "k", "j"]) (s' := defScope (topS 25)) rfl rfl (by decide +kernel))) (fun _ _ _ _ _ => (pg_name (i := 12) sc_law.nd rfl (by first | exact Or.inl rfl | exact Or.inr rfl))) (fun _ _ _ _ _ => qts_nil) (fun _ _ _ _ _ => (q_mul (q_ix (qv 3) (qv 12) (fun _ _ => rfl)) (q_ix (qv 4) (q_sub (qv 7) (qv 12)) (fun _ _ => rfl)))) (by decide) (by decide))) qa_nil))) (qss_one (qs_appV (i := 6) rfl (q_add (qv 8) (q_mul q_int (q_sum rfl (by rfl) m_sum (qa_cons (QF.toE (qf_comp (own := [("j", 12)]) (t := (.nm 12)) rfl sc_law.nd (QR.i (qr_range2 (by rfl) m_range (qa_cons (q_add (qv 7) q_int) (qa_cons q_int qa_nil)))) (blkOk_by (blk_of (N' := ["script", "prime", "limbs", "first", "second", "product", "raw", "i", "low", "number", "told", "k", "j"]) (s' := defScope (topS 25)) rfl rfl (by decide +kernel))) (fun _ _ _ _ _ => (pg_name (i := 12) sc_law.nd rfl (by first | exact Or.inl rfl | exact Or.inr rfl))) (fun _ _ _ _ _ => qts_nil) (fun _ _ _ _ _ => (q_mul (q_ix (qv 3) (qv 12) (fun _ _ => rfl)) (q_ix (qv 4) (q_sub (q_add (qv 7) q_int) (qv 12)) (fun _ _ => rfl)))) (by decide) (by decide))) qa_nil)))))))) (qss_cons (qs_if v_fu (QW.t (qw_or (qt_not (qt_val (q_callF T__law_is_list B__law_is_list hr (by decide) (takes_of rfl rfl rfl rfl) (args_some (qa_cons (qv 5) (qa_cons (q_callF T__law_carry B__law_carry hr (by decide) (takes_of rfl rfl rfl rfl) (args_some (qa_cons (qv 6) qa_nil) qk_nil)) qa_nil)) qk_nil)))) (qw_or1 (qt_not (qt_val (q_callF T__law_small B__law_small hr (by decide) (takes_of rfl rfl rfl rfl) (args_some (qa_cons (qv 5) qa_nil) qk_nil)))))))
  (qss_one (qs_ret q_bl))
  qss_nil) (qss_cons (qs_if v_fu (qt_ne hu (q_mod (q_callF T__law_value B__law_value hr (by decide) (takes_of rfl rfl rfl rfl) (args_some (qa_cons (qv 5) qa_nil) qk_nil)) (qv 1)) (q_mod (q_mul (q_callF T__law_value B__law_value hr (by decide) (takes_of rfl rfl rfl rfl) (args_some (qa_cons (qv 3) qa_nil) qk_nil)) (q_callF T__law_value B__law_value hr (by decide) (takes_of rfl rfl rfl rfl) (args_some (qa_cons (qv 4) qa_nil) qk_nil))) (qv 1)))
  (qss_one (qs_ret q_bl))
  qss_nil) (qss_cons (qs_setV (i := 9) sc_law.nd rfl (q_mod (q_mul (q_abs (by rfl) m_abs (qa_cons (q_callF T__law_cell B__law_cell hr (by decide) (takes_of rfl rfl rfl rfl) (args_some (qa_cons (qv 0) (qa_cons q_int qa_nil)) qk_nil)) qa_nil)) (q_abs (by rfl) m_abs (qa_cons (q_callF T__law_cell B__law_cell hr (by decide) (takes_of rfl rfl rfl rfl) (args_some (qa_cons (qv 0) (qa_cons q_int qa_nil)) qk_nil)) qa_nil))) (q_shl q_int q_int))) (qss_cons (qs_if v_fu (qt_eq hu (q_mod (q_div (q_callF T__law_cell B__law_cell hr (by decide) (takes_of rfl rfl rfl rfl) (args_some (qa_cons (qv 0) (qa_cons q_int qa_nil)) qk_nil)) q_int) q_int) q_int)
  (qss_one (qs_setV (i := 9) sc_law.nd rfl (q_sub (q_sub (q_shl q_int q_int) q_int) (q_mod (qv 9) q_int))))
  qss_nil) (qss_cons (qs_setV (i := 10) sc_law.nd rfl (q_callF T_to_limbs B_to_limbs hr (by decide) (takes_of rfl rfl rfl rfl) (args_some (qa_cons (qv 9) qa_nil) qk_nil))) (qss_cons (qs_if v_fu (qt_not (qt_val (q_callF T__law_is_list B__law_is_list hr (by decide) (takes_of rfl rfl rfl rfl) (args_some (qa_cons (qv 10) (qa_cons (QF.toE (qf_comp (own := [("k", 11)]) (t := (.nm 11)) rfl sc_law.nd (QR.i (qr_range1 (by rfl) m_range (qa_cons q_int qa_nil))) (blkOk_by (blk_of (N' := ["script", "prime", "limbs", "first", "second", "product", "raw", "i", "low", "number", "told", "k", "j"]) (s' := defScope (topS 25)) rfl rfl (by decide +kernel))) (fun _ _ _ _ _ => (pg_name (i := 11) sc_law.nd rfl (by first | exact Or.inl rfl | exact Or.inr rfl))) (fun _ _ _ _ _ => qts_nil) (fun _ _ _ _ _ => (q_mod (q_div (qv 9) (q_shl q_int (q_mul q_int (qv 11)))) q_int)) (by decide) (by decide))) qa_nil)) qk_nil))))
  (qss_one (qs_ret q_bl))
  qss_nil) (qss_cons (qs_if v_fu (QW.t (qw_or (qt_not (qt_val (q_callF T__law_integer B__law_integer hr (by decide) (takes_of rfl rfl rfl rfl) (args_some (qa_cons (q_callF T_from_limbs B_from_limbs hr (by decide) (takes_of rfl rfl rfl rfl) (args_some (qa_cons (qv 10) qa_nil) qk_nil)) qa_nil) qk_nil)))) (qw_or (qt_ne hu (q_callF T_from_limbs B_from_limbs hr (by decide) (takes_of rfl rfl rfl rfl) (args_some (qa_cons (qv 10) qa_nil) qk_nil)) (qv 9)) (qw_or1 (qt_ne hu (q_callF T_from_limbs B_from_limbs hr (by decide) (takes_of rfl rfl rfl rfl) (args_some (qa_cons (qv 2) qa_nil) qk_nil)) (q_callF T__law_value B__law_value hr (by decide) (takes_of rfl rfl rfl rfl) (args_some (qa_cons (qv 2) qa_nil) qk_nil)))))))
  (qss_one (qs_ret q_bl))
  qss_nil) (qss_one (qs_ret (q_and' (q_callF T__law_refused B__law_refused hr (by decide) (takes_of rfl rfl rfl rfl) (args_some (qa_cons (QF.toE (qf_slice (qv 2) qo_no (qo_so q_int))) (qa_cons (q_neg q_int) qa_nil)) qk_nil)) (q_one (q_callF T__law_refused B__law_refused hr (by decide) (takes_of rfl rfl rfl rfl) (args_some (qa_cons (QF.toE (qf_cat (qv 2) (QF.toE (qf_list (qa_cons q_int qa_nil))))) (qa_cons (q_shl q_int q_int) qa_nil)) qk_nil))))))))))))))))))))))))
end
theorem all_mk {P : Program} {w : World} {K : PySem.W.Frag} {h : Heap} {mg : Str → Option Value} {fa : Addr} (X : K.In h) (G : h.Ns mainGlobals mg) (hfa : mg "law" = some (.ref fa))
    {C_HushError : Addr}
    {C_OutOfRange : Addr}
    (a_HushError : PySem.W.nsIn K mainGlobals "HushError" = some (some (.ref C_HushError)))
    (x_HushError : PySem.W.excIn K C_HushError [.type "ValueError", .type "Exception", .type "BaseException", .type "object"] "ValueError.__new__" = true)
    (k_HushError : PySem.W.keepIn K (.ref C_HushError) = true)
    (b_HushError : PySem.W.subIn K (.ref C_HushError) (.type "BaseException") = some true)
    (t_HushError : PySem.W.typeIn K (.ref C_HushError) = some (.type "type"))
    (ga_HushError : PySem.W.findIn K (.ref C_HushError) "__getattribute__" = some (some (.builtin "BaseException.__getattribute__")))
    (gg_HushError : PySem.W.findIn K (.ref C_HushError) "__getattr__" = some none)
    (hd_HushError : PySem.W.hasDictIn K C_HushError = true)
    (cl_HushError : PySem.W.findIn K (.ref C_HushError) "__class__" = some (some (.builtin "object.__class__")))
    (mr_HushError : PySem.W.mroIn K C_HushError (.type "object") = some true)
    (a_OutOfRange : PySem.W.nsIn K mainGlobals "OutOfRange" = some (some (.ref C_OutOfRange)))
    (x_OutOfRange : PySem.W.excIn K C_OutOfRange [.type "ValueError", .type "Exception", .type "BaseException", .type "object"] "ValueError.__new__" = true)
    (k_OutOfRange : PySem.W.keepIn K (.ref C_OutOfRange) = true)
    (b_OutOfRange : PySem.W.subIn K (.ref C_OutOfRange) (.type "BaseException") = some true)
    (t_OutOfRange : PySem.W.typeIn K (.ref C_OutOfRange) = some (.type "type"))
    (ga_OutOfRange : PySem.W.findIn K (.ref C_OutOfRange) "__getattribute__" = some (some (.builtin "BaseException.__getattribute__")))
    (gg_OutOfRange : PySem.W.findIn K (.ref C_OutOfRange) "__getattr__" = some none)
    (hd_OutOfRange : PySem.W.hasDictIn K C_OutOfRange = true)
    (cl_OutOfRange : PySem.W.findIn K (.ref C_OutOfRange) "__class__" = some (some (.builtin "object.__class__")))
    (mr_OutOfRange : PySem.W.mroIn K C_OutOfRange (.type "object") = some true)
    (s_HushError_HushError : PySem.W.subIn K (.ref C_HushError) (.ref C_HushError) = some true)
    (s_HushError_OutOfRange : PySem.W.subIn K (.ref C_HushError) (.ref C_OutOfRange) = some false)
    (s_OutOfRange_HushError : PySem.W.subIn K (.ref C_OutOfRange) (.ref C_HushError) = some true)
    (s_OutOfRange_OutOfRange : PySem.W.subIn K (.ref C_OutOfRange) (.ref C_OutOfRange) = some true)
    (sp_c : PySem.W.specialIn K (.builtin "object.__class__") "__get__" = some (some (.builtin "getset_descriptor.__get__")))
    (tk_c : PySem.W.takesIn K (.builtin "object.__class__") = some true)
    {f_need_length : Addr} {od_need_length an_need_length : Option Addr} {sl_need_length : Array (Option Value)} {oc_need_length kV_need_length dc_need_length pm_need_length cd_need_length ct_need_length : Value}
    (a_need_length : PySem.W.nsIn K mainGlobals "need_length" = some (some (.ref f_need_length)))
    (l_need_length : K.lookup f_need_length = some ⟨oc_need_length, od_need_length, .func (PySem.W.fnOf "need_length" "need_length" (defArgs (topS 4)) (defBody (topS 4)) (defScope (topS 4)) .none kV_need_length dc_need_length pm_need_length an_need_length cd_need_length ct_need_length), sl_need_length⟩)
    (c_need_length : PySem.W.codeIn K cd_need_length "need_length" = true) (k_need_length : PySem.W.keepIn K (.ref f_need_length) = true)
    {f_need_range : Addr} {od_need_range an_need_range : Option Addr} {sl_need_range : Array (Option Value)} {oc_need_range kV_need_range dc_need_range pm_need_range cd_need_range ct_need_range : Value}
    (a_need_range : PySem.W.nsIn K mainGlobals "need_range" = some (some (.ref f_need_range)))
    (l_need_range : K.lookup f_need_range = some ⟨oc_need_range, od_need_range, .func (PySem.W.fnOf "need_range" "need_range" (defArgs (topS 5)) (defBody (topS 5)) (defScope (topS 5)) .none kV_need_range dc_need_range pm_need_range an_need_range cd_need_range ct_need_range), sl_need_range⟩)
    (c_need_range : PySem.W.codeIn K cd_need_range "need_range" = true) (k_need_range : PySem.W.keepIn K (.ref f_need_range) = true)
    {f_to_limbs : Addr} {od_to_limbs an_to_limbs : Option Addr} {sl_to_limbs : Array (Option Value)} {oc_to_limbs kV_to_limbs dc_to_limbs pm_to_limbs cd_to_limbs ct_to_limbs : Value}
    (a_to_limbs : PySem.W.nsIn K mainGlobals "to_limbs" = some (some (.ref f_to_limbs)))
    (l_to_limbs : K.lookup f_to_limbs = some ⟨oc_to_limbs, od_to_limbs, .func (PySem.W.fnOf "to_limbs" "to_limbs" (defArgs (topS 10)) (defBody (topS 10)) (defScope (topS 10)) .none kV_to_limbs dc_to_limbs pm_to_limbs an_to_limbs cd_to_limbs ct_to_limbs), sl_to_limbs⟩)
    (c_to_limbs : PySem.W.codeIn K cd_to_limbs "to_limbs" = true) (k_to_limbs : PySem.W.keepIn K (.ref f_to_limbs) = true)
    {f_from_limbs : Addr} {od_from_limbs an_from_limbs : Option Addr} {sl_from_limbs : Array (Option Value)} {oc_from_limbs kV_from_limbs dc_from_limbs pm_from_limbs cd_from_limbs ct_from_limbs : Value}
    (a_from_limbs : PySem.W.nsIn K mainGlobals "from_limbs" = some (some (.ref f_from_limbs)))
    (l_from_limbs : K.lookup f_from_limbs = some ⟨oc_from_limbs, od_from_limbs, .func (PySem.W.fnOf "from_limbs" "from_limbs" (defArgs (topS 11)) (defBody (topS 11)) (defScope (topS 11)) .none kV_from_limbs dc_from_limbs pm_from_limbs an_from_limbs cd_from_limbs ct_from_limbs), sl_from_limbs⟩)
    (c_from_limbs : PySem.W.codeIn K cd_from_limbs "from_limbs" = true) (k_from_limbs : PySem.W.keepIn K (.ref f_from_limbs) = true)
    {f_carry_limbs : Addr} {od_carry_limbs an_carry_limbs : Option Addr} {sl_carry_limbs : Array (Option Value)} {oc_carry_limbs kV_carry_limbs dc_carry_limbs pm_carry_limbs cd_carry_limbs ct_carry_limbs : Value}
    (a_carry_limbs : PySem.W.nsIn K mainGlobals "carry_limbs" = some (some (.ref f_carry_limbs)))
    (l_carry_limbs : K.lookup f_carry_limbs = some ⟨oc_carry_limbs, od_carry_limbs, .func (PySem.W.fnOf "carry_limbs" "carry_limbs" (defArgs (topS 12)) (defBody (topS 12)) (defScope (topS 12)) .none kV_carry_limbs dc_carry_limbs pm_carry_limbs an_carry_limbs cd_carry_limbs ct_carry_limbs), sl_carry_limbs⟩)
    (c_carry_limbs : PySem.W.codeIn K cd_carry_limbs "carry_limbs" = true) (k_carry_limbs : PySem.W.keepIn K (.ref f_carry_limbs) = true)
    {f_multiply_limbs : Addr} {od_multiply_limbs an_multiply_limbs : Option Addr} {sl_multiply_limbs : Array (Option Value)} {oc_multiply_limbs kV_multiply_limbs dc_multiply_limbs pm_multiply_limbs cd_multiply_limbs ct_multiply_limbs : Value}
    (a_multiply_limbs : PySem.W.nsIn K mainGlobals "multiply_limbs" = some (some (.ref f_multiply_limbs)))
    (l_multiply_limbs : K.lookup f_multiply_limbs = some ⟨oc_multiply_limbs, od_multiply_limbs, .func (PySem.W.fnOf "multiply_limbs" "multiply_limbs" (defArgs (topS 13)) (defBody (topS 13)) (defScope (topS 13)) .none kV_multiply_limbs dc_multiply_limbs pm_multiply_limbs an_multiply_limbs cd_multiply_limbs ct_multiply_limbs), sl_multiply_limbs⟩)
    (c_multiply_limbs : PySem.W.codeIn K cd_multiply_limbs "multiply_limbs" = true) (k_multiply_limbs : PySem.W.keepIn K (.ref f_multiply_limbs) = true)
    {f__law_cell : Addr} {od__law_cell an__law_cell : Option Addr} {sl__law_cell : Array (Option Value)} {oc__law_cell kV__law_cell dc__law_cell pm__law_cell cd__law_cell ct__law_cell : Value}
    (a__law_cell : PySem.W.nsIn K mainGlobals "_law_cell" = some (some (.ref f__law_cell)))
    (l__law_cell : K.lookup f__law_cell = some ⟨oc__law_cell, od__law_cell, .func (PySem.W.fnOf "_law_cell" "_law_cell" (defArgs (topS 15)) (defBody (topS 15)) (defScope (topS 15)) .none kV__law_cell dc__law_cell pm__law_cell an__law_cell cd__law_cell ct__law_cell), sl__law_cell⟩)
    (c__law_cell : PySem.W.codeIn K cd__law_cell "_law_cell" = true) (k__law_cell : PySem.W.keepIn K (.ref f__law_cell) = true)
    {f__law_integer : Addr} {od__law_integer an__law_integer : Option Addr} {sl__law_integer : Array (Option Value)} {oc__law_integer kV__law_integer dc__law_integer pm__law_integer cd__law_integer ct__law_integer : Value}
    (a__law_integer : PySem.W.nsIn K mainGlobals "_law_integer" = some (some (.ref f__law_integer)))
    (l__law_integer : K.lookup f__law_integer = some ⟨oc__law_integer, od__law_integer, .func (PySem.W.fnOf "_law_integer" "_law_integer" (defArgs (topS 18)) (defBody (topS 18)) (defScope (topS 18)) .none kV__law_integer dc__law_integer pm__law_integer an__law_integer cd__law_integer ct__law_integer), sl__law_integer⟩)
    (c__law_integer : PySem.W.codeIn K cd__law_integer "_law_integer" = true) (k__law_integer : PySem.W.keepIn K (.ref f__law_integer) = true)
    {f__law_is_list : Addr} {od__law_is_list an__law_is_list : Option Addr} {sl__law_is_list : Array (Option Value)} {oc__law_is_list kV__law_is_list dc__law_is_list pm__law_is_list cd__law_is_list ct__law_is_list : Value}
    (a__law_is_list : PySem.W.nsIn K mainGlobals "_law_is_list" = some (some (.ref f__law_is_list)))
    (l__law_is_list : K.lookup f__law_is_list = some ⟨oc__law_is_list, od__law_is_list, .func (PySem.W.fnOf "_law_is_list" "_law_is_list" (defArgs (topS 19)) (defBody (topS 19)) (defScope (topS 19)) .none kV__law_is_list dc__law_is_list pm__law_is_list an__law_is_list cd__law_is_list ct__law_is_list), sl__law_is_list⟩)
    (c__law_is_list : PySem.W.codeIn K cd__law_is_list "_law_is_list" = true) (k__law_is_list : PySem.W.keepIn K (.ref f__law_is_list) = true)
    {f__law_value : Addr} {od__law_value an__law_value : Option Addr} {sl__law_value : Array (Option Value)} {oc__law_value kV__law_value dc__law_value pm__law_value cd__law_value ct__law_value : Value}
    (a__law_value : PySem.W.nsIn K mainGlobals "_law_value" = some (some (.ref f__law_value)))
    (l__law_value : K.lookup f__law_value = some ⟨oc__law_value, od__law_value, .func (PySem.W.fnOf "_law_value" "_law_value" (defArgs (topS 20)) (defBody (topS 20)) (defScope (topS 20)) .none kV__law_value dc__law_value pm__law_value an__law_value cd__law_value ct__law_value), sl__law_value⟩)
    (c__law_value : PySem.W.codeIn K cd__law_value "_law_value" = true) (k__law_value : PySem.W.keepIn K (.ref f__law_value) = true)
    {f__law_carry : Addr} {od__law_carry an__law_carry : Option Addr} {sl__law_carry : Array (Option Value)} {oc__law_carry kV__law_carry dc__law_carry pm__law_carry cd__law_carry ct__law_carry : Value}
    (a__law_carry : PySem.W.nsIn K mainGlobals "_law_carry" = some (some (.ref f__law_carry)))
    (l__law_carry : K.lookup f__law_carry = some ⟨oc__law_carry, od__law_carry, .func (PySem.W.fnOf "_law_carry" "_law_carry" (defArgs (topS 21)) (defBody (topS 21)) (defScope (topS 21)) .none kV__law_carry dc__law_carry pm__law_carry an__law_carry cd__law_carry ct__law_carry), sl__law_carry⟩)
    (c__law_carry : PySem.W.codeIn K cd__law_carry "_law_carry" = true) (k__law_carry : PySem.W.keepIn K (.ref f__law_carry) = true)
    {f__law_small : Addr} {od__law_small an__law_small : Option Addr} {sl__law_small : Array (Option Value)} {oc__law_small kV__law_small dc__law_small pm__law_small cd__law_small ct__law_small : Value}
    (a__law_small : PySem.W.nsIn K mainGlobals "_law_small" = some (some (.ref f__law_small)))
    (l__law_small : K.lookup f__law_small = some ⟨oc__law_small, od__law_small, .func (PySem.W.fnOf "_law_small" "_law_small" (defArgs (topS 22)) (defBody (topS 22)) (defScope (topS 22)) .none kV__law_small dc__law_small pm__law_small an__law_small cd__law_small ct__law_small), sl__law_small⟩)
    (c__law_small : PySem.W.codeIn K cd__law_small "_law_small" = true) (k__law_small : PySem.W.keepIn K (.ref f__law_small) = true)
    {f__law_refused : Addr} {od__law_refused an__law_refused : Option Addr} {sl__law_refused : Array (Option Value)} {oc__law_refused kV__law_refused dc__law_refused pm__law_refused cd__law_refused ct__law_refused : Value}
    (a__law_refused : PySem.W.nsIn K mainGlobals "_law_refused" = some (some (.ref f__law_refused)))
    (l__law_refused : K.lookup f__law_refused = some ⟨oc__law_refused, od__law_refused, .func (PySem.W.fnOf "_law_refused" "_law_refused" (defArgs (topS 23)) (defBody (topS 23)) (defScope (topS 23)) .none kV__law_refused dc__law_refused pm__law_refused an__law_refused cd__law_refused ct__law_refused), sl__law_refused⟩)
    (c__law_refused : PySem.W.codeIn K cd__law_refused "_law_refused" = true) (k__law_refused : PySem.W.keepIn K (.ref f__law_refused) = true)
    {f__law_carried : Addr} {od__law_carried an__law_carried : Option Addr} {sl__law_carried : Array (Option Value)} {oc__law_carried kV__law_carried dc__law_carried pm__law_carried cd__law_carried ct__law_carried : Value}
    (a__law_carried : PySem.W.nsIn K mainGlobals "_law_carried" = some (some (.ref f__law_carried)))
    (l__law_carried : K.lookup f__law_carried = some ⟨oc__law_carried, od__law_carried, .func (PySem.W.fnOf "_law_carried" "_law_carried" (defArgs (topS 24)) (defBody (topS 24)) (defScope (topS 24)) .none kV__law_carried dc__law_carried pm__law_carried an__law_carried cd__law_carried ct__law_carried), sl__law_carried⟩)
    (c__law_carried : PySem.W.codeIn K cd__law_carried "_law_carried" = true) (k__law_carried : PySem.W.keepIn K (.ref f__law_carried) = true)
    {f_law : Addr} {od_law an_law : Option Addr} {sl_law : Array (Option Value)} {oc_law kV_law dc_law pm_law cd_law ct_law : Value}
    (a_law : PySem.W.nsIn K mainGlobals "law" = some (some (.ref f_law)))
    (l_law : K.lookup f_law = some ⟨oc_law, od_law, .func (PySem.W.fnOf "law" "law" (defArgs (topS 25)) (defBody (topS 25)) (defScope (topS 25)) .none kV_law dc_law pm_law an_law cd_law ct_law), sl_law⟩)
    (c_law : PySem.W.codeIn K cd_law "law" = true) (k_law : PySem.W.keepIn K (.ref f_law) = true)
    (z_abs : PySem.W.nsIn K mainGlobals "abs" = some none)
    (z_bool : PySem.W.nsIn K mainGlobals "bool" = some none)
    (z_enumerate : PySem.W.nsIn K mainGlobals "enumerate" = some none)
    (z_int : PySem.W.nsIn K mainGlobals "int" = some none)
    (z_isinstance : PySem.W.nsIn K mainGlobals "isinstance" = some none)
    (z_len : PySem.W.nsIn K mainGlobals "len" = some none)
    (z_list : PySem.W.nsIn K mainGlobals "list" = some none)
    (z_range : PySem.W.nsIn K mainGlobals "range" = some none)
    (z_sum : PySem.W.nsIn K mainGlobals "sum" = some none)
    (z_zip : PySem.W.nsIn K mainGlobals "zip" = some none)
    {u_LIMB_BITS : Tok} (d_LIMB_BITS : PySem.W.nsIn K mainGlobals "LIMB_BITS" = some (some (.int 26 u_LIMB_BITS)))
    {u_LIMB_MASK : Tok} (d_LIMB_MASK : PySem.W.nsIn K mainGlobals "LIMB_MASK" = some (some (.int 67108863 u_LIMB_MASK)))
    {u_MOST_NUMBER : Tok} (d_MOST_NUMBER : PySem.W.nsIn K mainGlobals "MOST_NUMBER" = some (some (.int 1361129467683753853853498429727072845823 u_MOST_NUMBER)))
    (hl : ∀ ns : List Int, ns.length ≤ 63 → (∀ z ∈ ns, Builtin.Int.intBits z ≤ 1048576) → ∃ S, F_law 0 [.scr ns] [] = .ok (.bool true) S) :
    ∃ fd : FuncData, (∀ (s : Shared) (v : Value), BindsTo s fd ⟨[v], []⟩ [("script", v)]) ∧ ∀ base : Heap, K.In base → base.Ns mainGlobals mg → FnOk P w K mg base (L2.CX P w) 5 fa fd ["script"] (spLaw K) := by
  have e := hfa.symm.trans (PySem.W.mg_of X G a_law)
  cases e
  let T : CT := ⟨fun _ => 0, 0, fun _ => []⟩
  let xa : Nat → Addr := fun n => [C_HushError, C_OutOfRange].getD n 0
  have XTh : XT K xa xcnt xsub := ⟨fun n h => match n, h with
    | 0, _ => ⟨x_HushError, k_HushError, b_HushError, t_HushError⟩
    | 1, _ => ⟨x_OutOfRange, k_OutOfRange, b_OutOfRange, t_OutOfRange⟩
    | m + 2, h => absurd h (by unfold xcnt; omega), fun n m h1 h2 => match n, m, h1, h2 with
    | 0, 0, _, _ => kit_ref hd_HushError t_HushError s_HushError_HushError s_HushError_HushError
    | 0, 1, _, _ => kit_ref hd_OutOfRange t_OutOfRange s_HushError_OutOfRange s_OutOfRange_OutOfRange
    | 1, 0, _, _ => kit_ref hd_HushError t_HushError s_OutOfRange_HushError s_HushError_HushError
    | 1, 1, _, _ => kit_ref hd_OutOfRange t_OutOfRange s_OutOfRange_OutOfRange s_OutOfRange_OutOfRange
    | m + 2, _, h, _ => absurd h (by unfold xcnt; omega)
    | _, m + 2, _, h => absurd h (by unfold xcnt; omega), fun n m h1 h2 => match n, m, h1, h2 with
    | 0, 0, _, _ => PySem.W.exm_ref b_HushError hd_HushError t_HushError s_HushError_HushError
    | 0, 1, _, _ => PySem.W.exm_ref b_OutOfRange hd_OutOfRange t_OutOfRange s_HushError_OutOfRange
    | 1, 0, _, _ => PySem.W.exm_ref b_HushError hd_HushError t_HushError s_OutOfRange_HushError
    | 1, 1, _, _ => PySem.W.exm_ref b_OutOfRange hd_OutOfRange t_OutOfRange s_OutOfRange_OutOfRange
    | m + 2, _, h, _ => absurd h (by unfold xcnt; omega)
    | _, m + 2, _, h => absurd h (by unfold xcnt; omega), fun n h => match n, h with
    | 0, _ => ⟨ga_HushError, gg_HushError, b_HushError, hd_HushError, cl_HushError, sp_c, tk_c, mr_HushError⟩
    | 1, _ => ⟨ga_OutOfRange, gg_OutOfRange, b_OutOfRange, hd_OutOfRange, cl_OutOfRange, sp_c, tk_c, mr_OutOfRange⟩
    | m + 2, h => absurd h (by unfold xcnt; omega)⟩
  have x_HushError : mg "HushError" = some (.ref (xa 0)) := PySem.W.mg_of X G a_HushError
  have x_OutOfRange : mg "OutOfRange" = some (.ref (xa 1)) := PySem.W.mg_of X G a_OutOfRange
  have m_abs : mg "abs" = none := PySem.W.mg_none_of X G z_abs
  have m_bool : mg "bool" = none := PySem.W.mg_none_of X G z_bool
  have m_enumerate : mg "enumerate" = none := PySem.W.mg_none_of X G z_enumerate
  have m_int : mg "int" = none := PySem.W.mg_none_of X G z_int
  have m_isinstance : mg "isinstance" = none := PySem.W.mg_none_of X G z_isinstance
  have m_len : mg "len" = none := PySem.W.mg_none_of X G z_len
  have m_list : mg "list" = none := PySem.W.mg_none_of X G z_list
  have m_range : mg "range" = none := PySem.W.mg_none_of X G z_range
  have m_sum : mg "sum" = none := PySem.W.mg_none_of X G z_sum
  have m_zip : mg "zip" = none := PySem.W.mg_none_of X G z_zip
  have c_LIMB_BITS : ∃ t, mg "LIMB_BITS" = some (.int 26 t) := ⟨_, PySem.W.mg_of X G d_LIMB_BITS⟩
  have c_LIMB_MASK : ∃ t, mg "LIMB_MASK" = some (.int 67108863 t) := ⟨_, PySem.W.mg_of X G d_LIMB_MASK⟩
  have c_MOST_NUMBER : ∃ t, mg "MOST_NUMBER" = some (.int 1361129467683753853853498429727072845823 t) := ⟨_, PySem.W.mg_of X G d_MOST_NUMBER⟩
  have FF_need_length : FunO K "need_length" "need_length" (topS 4) f_need_length _ := ⟨_, _, _, _, _, _, _, _, _, _, rfl, l_need_length, c_need_length⟩
  have B_need_length := Bd.all (K := K) (fd := PySem.W.fnOf "need_length" "need_length" (defArgs (topS 4)) (defBody (topS 4)) (defScope (topS 4)) .none kV_need_length dc_need_length pm_need_length an_need_length cd_need_length ct_need_length) (ps := ["items", "least", "most"]) (n := 3) (.all fun us hl => match us, hl with | [_, _, _], _ => rfl) rfl
  have FF_need_range : FunO K "need_range" "need_range" (topS 5) f_need_range _ := ⟨_, _, _, _, _, _, _, _, _, _, rfl, l_need_range, c_need_range⟩
  have B_need_range := Bd.all (K := K) (fd := PySem.W.fnOf "need_range" "need_range" (defArgs (topS 5)) (defBody (topS 5)) (defScope (topS 5)) .none kV_need_range dc_need_range pm_need_range an_need_range cd_need_range ct_need_range) (ps := ["number", "least", "most"]) (n := 3) (.all fun us hl => match us, hl with | [_, _, _], _ => rfl) rfl
  have FF_to_limbs : FunO K "to_limbs" "to_limbs" (topS 10) f_to_limbs _ := ⟨_, _, _, _, _, _, _, _, _, _, rfl, l_to_limbs, c_to_limbs⟩
  have B_to_limbs := Bd.all (K := K) (fd := PySem.W.fnOf "to_limbs" "to_limbs" (defArgs (topS 10)) (defBody (topS 10)) (defScope (topS 10)) .none kV_to_limbs dc_to_limbs pm_to_limbs an_to_limbs cd_to_limbs ct_to_limbs) (ps := ["number"]) (n := 1) (.all fun us hl => match us, hl with | [_], _ => rfl) rfl
  have FF_from_limbs : FunO K "from_limbs" "from_limbs" (topS 11) f_from_limbs _ := ⟨_, _, _, _, _, _, _, _, _, _, rfl, l_from_limbs, c_from_limbs⟩
  have B_from_limbs := Bd.all (K := K) (fd := PySem.W.fnOf "from_limbs" "from_limbs" (defArgs (topS 11)) (defBody (topS 11)) (defScope (topS 11)) .none kV_from_limbs dc_from_limbs pm_from_limbs an_from_limbs cd_from_limbs ct_from_limbs) (ps := ["limbs"]) (n := 1) (.all fun us hl => match us, hl with | [_], _ => rfl) rfl
  have FF_carry_limbs : FunO K "carry_limbs" "carry_limbs" (topS 12) f_carry_limbs _ := ⟨_, _, _, _, _, _, _, _, _, _, rfl, l_carry_limbs, c_carry_limbs⟩
  have B_carry_limbs := Bd.all (K := K) (fd := PySem.W.fnOf "carry_limbs" "carry_limbs" (defArgs (topS 12)) (defBody (topS 12)) (defScope (topS 12)) .none kV_carry_limbs dc_carry_limbs pm_carry_limbs an_carry_limbs cd_carry_limbs ct_carry_limbs) (ps := ["limbs"]) (n := 1) (.all fun us hl => match us, hl with | [_], _ => rfl) rfl
  have FF_multiply_limbs : FunO K "multiply_limbs" "multiply_limbs" (topS 13) f_multiply_limbs _ := ⟨_, _, _, _, _, _, _, _, _, _, rfl, l_multiply_limbs, c_multiply_limbs⟩
  have B_multiply_limbs := Bd.all (K := K) (fd := PySem.W.fnOf "multiply_limbs" "multiply_limbs" (defArgs (topS 13)) (defBody (topS 13)) (defScope (topS 13)) .none kV_multiply_limbs dc_multiply_limbs pm_multiply_limbs an_multiply_limbs cd_multiply_limbs ct_multiply_limbs) (ps := ["first", "second"]) (n := 2) (.all fun us hl => match us, hl with | [_, _], _ => rfl) rfl
  have FF__law_cell : FunO K "_law_cell" "_law_cell" (topS 15) f__law_cell _ := ⟨_, _, _, _, _, _, _, _, _, _, rfl, l__law_cell, c__law_cell⟩
  have B__law_cell := Bd.all (K := K) (fd := PySem.W.fnOf "_law_cell" "_law_cell" (defArgs (topS 15)) (defBody (topS 15)) (defScope (topS 15)) .none kV__law_cell dc__law_cell pm__law_cell an__law_cell cd__law_cell ct__law_cell) (ps := ["script", "k"]) (n := 2) (.all fun us hl => match us, hl with | [_, _], _ => rfl) rfl
  have FF__law_integer : FunO K "_law_integer" "_law_integer" (topS 18) f__law_integer _ := ⟨_, _, _, _, _, _, _, _, _, _, rfl, l__law_integer, c__law_integer⟩
  have B__law_integer := Bd.all (K := K) (fd := PySem.W.fnOf "_law_integer" "_law_integer" (defArgs (topS 18)) (defBody (topS 18)) (defScope (topS 18)) .none kV__law_integer dc__law_integer pm__law_integer an__law_integer cd__law_integer ct__law_integer) (ps := ["x"]) (n := 1) (.all fun us hl => match us, hl with | [_], _ => rfl) rfl
  have FF__law_is_list : FunO K "_law_is_list" "_law_is_list" (topS 19) f__law_is_list _ := ⟨_, _, _, _, _, _, _, _, _, _, rfl, l__law_is_list, c__law_is_list⟩
  have B__law_is_list := Bd.all (K := K) (fd := PySem.W.fnOf "_law_is_list" "_law_is_list" (defArgs (topS 19)) (defBody (topS 19)) (defScope (topS 19)) .none kV__law_is_list dc__law_is_list pm__law_is_list an__law_is_list cd__law_is_list ct__law_is_list) (ps := ["found", "due"]) (n := 2) (.all fun us hl => match us, hl with | [_, _], _ => rfl) rfl
  have FF__law_value : FunO K "_law_value" "_law_value" (topS 20) f__law_value _ := ⟨_, _, _, _, _, _, _, _, _, _, rfl, l__law_value, c__law_value⟩
  have B__law_value := Bd.all (K := K) (fd := PySem.W.fnOf "_law_value" "_law_value" (defArgs (topS 20)) (defBody (topS 20)) (defScope (topS 20)) .none kV__law_value dc__law_value pm__law_value an__law_value cd__law_value ct__law_value) (ps := ["limbs"]) (n := 1) (.all fun us hl => match us, hl with | [_], _ => rfl) rfl
  have FF__law_carry : FunO K "_law_carry" "_law_carry" (topS 21) f__law_carry _ := ⟨_, _, _, _, _, _, _, _, _, _, rfl, l__law_carry, c__law_carry⟩
  have B__law_carry := Bd.all (K := K) (fd := PySem.W.fnOf "_law_carry" "_law_carry" (defArgs (topS 21)) (defBody (topS 21)) (defScope (topS 21)) .none kV__law_carry dc__law_carry pm__law_carry an__law_carry cd__law_carry ct__law_carry) (ps := ["limbs"]) (n := 1) (.all fun us hl => match us, hl with | [_], _ => rfl) rfl
  have FF__law_small : FunO K "_law_small" "_law_small" (topS 22) f__law_small _ := ⟨_, _, _, _, _, _, _, _, _, _, rfl, l__law_small, c__law_small⟩
  have B__law_small := Bd.all (K := K) (fd := PySem.W.fnOf "_law_small" "_law_small" (defArgs (topS 22)) (defBody (topS 22)) (defScope (topS 22)) .none kV__law_small dc__law_small pm__law_small an__law_small cd__law_small ct__law_small) (ps := ["limbs"]) (n := 1) (.all fun us hl => match us, hl with | [_], _ => rfl) rfl
  have FF__law_refused : FunO K "_law_refused" "_law_refused" (topS 23) f__law_refused _ := ⟨_, _, _, _, _, _, _, _, _, _, rfl, l__law_refused, c__law_refused⟩
  have B__law_refused := Bd.all (K := K) (fd := PySem.W.fnOf "_law_refused" "_law_refused" (defArgs (topS 23)) (defBody (topS 23)) (defScope (topS 23)) .none kV__law_refused dc__law_refused pm__law_refused an__law_refused cd__law_refused ct__law_refused) (ps := ["limbs", "number"]) (n := 2) (.all fun us hl => match us, hl with | [_, _], _ => rfl) rfl
  have FF__law_carried : FunO K "_law_carried" "_law_carried" (topS 24) f__law_carried _ := ⟨_, _, _, _, _, _, _, _, _, _, rfl, l__law_carried, c__law_carried⟩
  have B__law_carried := Bd.all (K := K) (fd := PySem.W.fnOf "_law_carried" "_law_carried" (defArgs (topS 24)) (defBody (topS 24)) (defScope (topS 24)) .none kV__law_carried dc__law_carried pm__law_carried an__law_carried cd__law_carried ct__law_carried) (ps := ["limbs"]) (n := 1) (.all fun us hl => match us, hl with | [_], _ => rfl) rfl
  have FF_law : FunO K "law" "law" (topS 25) fa _ := ⟨_, _, _, _, _, _, _, _, _, _, rfl, l_law, c_law⟩
  refine ⟨PySem.W.fnOf "law" "law" (defArgs (topS 25)) (defBody (topS 25)) (defScope (topS 25)) .none kV_law dc_law pm_law an_law cd_law ct_law, fun s v => .of_eq rfl, fun base _ _ => ?_⟩
  have T_need_length : FnT P w K mg base xa T "need_length" f_need_length _ ["items", "least", "most"] 1 false F_need_length := ⟨ok_need_length FF_need_length m_len XTh x_HushError x_OutOfRange, PySem.W.mg_of X G a_need_length, k_need_length⟩
  have T_need_range : FnT P w K mg base xa T "need_range" f_need_range _ ["number", "least", "most"] 1 false F_need_range := ⟨ok_need_range FF_need_range XTh x_HushError x_OutOfRange, PySem.W.mg_of X G a_need_range, k_need_range⟩
  have T_to_limbs : FnT P w K mg base xa T "to_limbs" f_to_limbs _ ["number"] 2 false F_to_limbs := ⟨ok_to_limbs FF_to_limbs T_need_range B_need_range m_range c_LIMB_BITS c_LIMB_MASK c_MOST_NUMBER, PySem.W.mg_of X G a_to_limbs, k_to_limbs⟩
  have T_from_limbs : FnT P w K mg base xa T "from_limbs" f_from_limbs _ ["limbs"] 2 false F_from_limbs := ⟨ok_from_limbs FF_from_limbs T_need_length B_need_length m_enumerate m_sum c_LIMB_BITS, PySem.W.mg_of X G a_from_limbs, k_from_limbs⟩
  have T_carry_limbs : FnT P w K mg base xa T "carry_limbs" f_carry_limbs _ ["limbs"] 2 false F_carry_limbs := ⟨ok_carry_limbs FF_carry_limbs T_need_length B_need_length c_LIMB_BITS c_LIMB_MASK, PySem.W.mg_of X G a_carry_limbs, k_carry_limbs⟩
  have T_multiply_limbs : FnT P w K mg base xa T "multiply_limbs" f_multiply_limbs _ ["first", "second"] 3 false F_multiply_limbs := ⟨ok_multiply_limbs FF_multiply_limbs T_carry_limbs B_carry_limbs T_need_length B_need_length, PySem.W.mg_of X G a_multiply_limbs, k_multiply_limbs⟩
  have T__law_cell : FnT P w K mg base xa T "_law_cell" f__law_cell _ ["script", "k"] 1 false F__law_cell := ⟨ok__law_cell FF__law_cell m_int m_len, PySem.W.mg_of X G a__law_cell, k__law_cell⟩
  have T__law_integer : FnT P w K mg base xa T "_law_integer" f__law_integer _ ["x"] 1 false F__law_integer := ⟨ok__law_integer FF__law_integer m_bool m_int m_isinstance, PySem.W.mg_of X G a__law_integer, k__law_integer⟩
  have T__law_is_list : FnT P w K mg base xa T "_law_is_list" f__law_is_list _ ["found", "due"] 2 false F__law_is_list := ⟨ok__law_is_list FF__law_is_list T__law_integer B__law_integer m_isinstance m_len m_list m_zip, PySem.W.mg_of X G a__law_is_list, k__law_is_list⟩
  have T__law_value : FnT P w K mg base xa T "_law_value" f__law_value _ ["limbs"] 1 false F__law_value := ⟨ok__law_value FF__law_value m_range, PySem.W.mg_of X G a__law_value, k__law_value⟩
  have T__law_carry : FnT P w K mg base xa T "_law_carry" f__law_carry _ ["limbs"] 1 false F__law_carry := ⟨ok__law_carry FF__law_carry m_list m_range, PySem.W.mg_of X G a__law_carry, k__law_carry⟩
  have T__law_small : FnT P w K mg base xa T "_law_small" f__law_small _ ["limbs"] 1 false F__law_small := ⟨ok__law_small FF__law_small m_range, PySem.W.mg_of X G a__law_small, k__law_small⟩
  have T__law_refused : FnT P w K mg base xa T "_law_refused" f__law_refused _ ["limbs", "number"] 4 false F__law_refused := ⟨ok__law_refused FF__law_refused T_carry_limbs B_carry_limbs T_from_limbs B_from_limbs T_multiply_limbs B_multiply_limbs T_to_limbs B_to_limbs m_isinstance XTh x_HushError x_OutOfRange, PySem.W.mg_of X G a__law_refused, k__law_refused⟩
  have T__law_carried : FnT P w K mg base xa T "_law_carried" f__law_carried _ ["limbs"] 3 false F__law_carried := ⟨ok__law_carried FF__law_carried T__law_carry B__law_carry T__law_is_list B__law_is_list T__law_small B__law_small T__law_value B__law_value T_carry_limbs B_carry_limbs m_list, PySem.W.mg_of X G a__law_carried, k__law_carried⟩
  exact law_ok (xa := xa) (T := T) (ok_law FF_law T__law_carried B__law_carried T__law_carry B__law_carry T__law_cell B__law_cell T__law_integer B__law_integer T__law_is_list B__law_is_list T__law_refused B__law_refused T__law_small B__law_small T__law_value B__law_value T_from_limbs B_from_limbs T_multiply_limbs B_multiply_limbs T_to_limbs B_to_limbs m_abs m_list m_range m_sum) hl
end L2.FO.K25

set_option linter.all false
set_option maxRecDepth 100000
set_option maxHeartbeats 4000000
namespace L2.FO.K25
open PySem PySem.Spec PyProof.Rows
local macro_rules | `(tactic| walk_at "ev") => `(tactic| simp (maxSteps := 2000000) (disch := first | assumption | omega) only [sSeq, seq_nx, seq_rt, seq_ex, seq_bad, seq_bk, seq_ct, sIf, sSetV, sSetS, sSetO, sSetOS, sSetM, sSetMF, sRet, sRetS, sRetF, sRetOwn, sRetN, sRetM, sRetMF, sNil, sRaise, sDrop, sDropM, sMeth, isOwn, sAppV, sAppS, appO, sExtV, sExtS, extO, sStS, stO, sAug, sAugIx, cR_nil, cR_cons, cR_consT, sFor, sForR, sFz, sUnp, sUnpM, sPar, sIfM,
fu_mk, fd_mk, fz_val, fz_own, fz_no, fz_exc, env_set, env_to, env_setE, fzE, fzL_nil, fzL_cons, fzT_nil, fzT_cons,
out_ok, out_ex, out_bad, outM_ok, outM_ex, bind_ok, bind_ex, bind_bad, bindM_ok, bindM_ex, m_ok, m_ex, map_ok, map_ex, map_bad, nox_ok, pure_same, pure_ex, made_ok, made_ex,
pArgs, pCall, mArgs, mCall, mPs, mP, mPb, masNil, masCons, gApp, List.append_nil, eVar, eC, e1, e2, e2F, e2FF, eB, toB, bAnd, bOr, bNot, eAnd, eOr, eNot, eIf, eChain, eFit, eTup, asNil, asCons, eRev, eSlice, eNo, eSo, eIsi, pln, eComp, compR, iL, iT, iR1_eq, iR2_eq, rg1_i, rg2_i, iR3_eq, rg3_i, iZ, iZS, gZip, iE,
gAdd_ii, gSub_ii, gMul_s, gDiv_s, gMod_s, gPow_s, gShl_s, gShr_s, gAnd_ii, gOr_ii, gXor_ii, gLt_ii, gLe_ii, gGt_ii, gGe_ii, beq_self_eq_true, gEq_ii, gNe_ii, gEq_bb, gNe_bb, gEq_ll, gNe_ll, gEq_tt, gNe_tt, gNeg, gInv, gBits, gLen, gAbs, gMin, gMax, gInt, gList, gTuple, gIsN, gNotN, cYes, scal, asL, Tg.parts, Tg.is, setE, lp_nil, lp_cons, lpk_nx, lpk_ct, lpk_bk, lpk_rt, lpk_ex, lpk_bad, fa0, fa1, fa2, fa3, fa4, fa5, fa6, fin_rt, fin_nx, fin_ex, fin_bk, fin_ct, fin_bad, onlyL_list, onlyL_ex, runL, isInt, isBool, isList, isStr, isTuple, sTry_eq, sTryN_eq, tryN_ex, tryN_nx, tryN_rt, noX_nx, noX_rt, tryK_ex, tryK_nx, tryK_rt, tryK_bk, tryK_ct, noExc_nil, noExc_val, noExc_own, noExc_no, Out.tryEnd, eIsE, fit_of, fit_0, fit_1, fit_2, fit_3, fit_4, fit_5, fit_6, fit_7, fit_8, fit_9, fit_10, fit_11, fit_12, fit_13, fit_14, fit_15, fit_16, xcnt, xsub, X_HushError, X_OutOfRange,  and_self, and_true, true_and, false_and, and_false, Nat.reduceMul, Int.reduceLE, Int.reduceLT, Int.reduceToNat, Int.reduceAdd, Int.reduceSub, Int.reduceMul, Int.reducePow, Nat.reducePow, Int.reduceNeg, Int.reduceBEq, Nat.reduceBEq, Bool.or_false, Bool.false_or, Bool.or_true, Bool.true_or, Bool.and_true, Bool.true_and, Bool.and_false, Bool.false_and, List.getD_cons_zero, List.getD_cons_succ,
List.getElem?_cons_zero, List.getElem?_cons_succ, List.set_cons_zero, List.set_cons_succ, List.map_cons, List.map_nil, List.length_cons, List.length_nil, List.length_map, List.cons_append, List.nil_append, List.replicate_succ, List.replicate_zero, decide_true, decide_false, Bool.not_true, Bool.not_false, if_true, if_false, Bool.false_eq_true, decide_eq_true_eq, ite_true, ite_false, reduceIte, Nat.reduceAdd, Nat.reduceSub, Nat.reduceLT, Nat.reduceLeDiff, Nat.reduceEqDiff, Nat.zero_add, all_scal_ints])
local macro_rules | `(tactic| walk_at "evh") => `(tactic| simp (maxSteps := 2000000) (disch := first | assumption | omega) only [sSeq, seq_nx, seq_rt, seq_ex, seq_bad, seq_bk, seq_ct, sIf, sSetV, sSetS, sSetO, sSetOS, sSetM, sSetMF, sRet, sRetS, sRetF, sRetOwn, sRetN, sRetM, sRetMF, sNil, sRaise, sDrop, sDropM, sMeth, isOwn, sAppV, sAppS, appO, sExtV, sExtS, extO, sStS, stO, sAug, sAugIx, cR_nil, cR_cons, cR_consT, sFor, sForR, sFz, sUnp, sUnpM, sPar, sIfM,
fu_mk, fd_mk, fz_val, fz_own, fz_no, fz_exc, env_set, env_to, env_setE, fzE, fzL_nil, fzL_cons, fzT_nil, fzT_cons,
out_ok, out_ex, out_bad, outM_ok, outM_ex, bind_ok, bind_ex, bind_bad, bindM_ok, bindM_ex, m_ok, m_ex, map_ok, map_ex, map_bad, nox_ok, pure_same, pure_ex, made_ok, made_ex,
pArgs, pCall, mArgs, mCall, mPs, mP, mPb, masNil, masCons, gApp, List.append_nil, eVar, eC, e1, e2, e2F, e2FF, eB, toB, bAnd, bOr, bNot, eAnd, eOr, eNot, eIf, eChain, eFit, eTup, asNil, asCons, eRev, eSlice, eNo, eSo, eIsi, pln, eComp, compR, iL, iT, iR1_eq, iR2_eq, rg1_i, rg2_i, iR3_eq, rg3_i, iZ, iZS, gZip, iE,
gAdd_ii, gSub_ii, gMul_s, gDiv_s, gMod_s, gPow_s, gShl_s, gShr_s, gAnd_ii, gOr_ii, gXor_ii, gLt_ii, gLe_ii, gGt_ii, gGe_ii, beq_self_eq_true, gEq_ii, gNe_ii, gEq_bb, gNe_bb, gEq_ll, gNe_ll, gEq_tt, gNe_tt, gNeg, gInv, gBits, gLen, gAbs, gMin, gMax, gInt, gList, gTuple, gIsN, gNotN, cYes, scal, asL, Tg.parts, Tg.is, setE, lp_nil, lp_cons, lpk_nx, lpk_ct, lpk_bk, lpk_rt, lpk_ex, lpk_bad, fa0, fa1, fa2, fa3, fa4, fa5, fa6, fin_rt, fin_nx, fin_ex, fin_bk, fin_ct, fin_bad, onlyL_list, onlyL_ex, runL, isInt, isBool, isList, isStr, isTuple, sTry_eq, sTryN_eq, tryN_ex, tryN_nx, tryN_rt, noX_nx, noX_rt, tryK_ex, tryK_nx, tryK_rt, tryK_bk, tryK_ct, noExc_nil, noExc_val, noExc_own, noExc_no, Out.tryEnd, eIsE, fit_of, fit_0, fit_1, fit_2, fit_3, fit_4, fit_5, fit_6, fit_7, fit_8, fit_9, fit_10, fit_11, fit_12, fit_13, fit_14, fit_15, fit_16, xcnt, xsub, X_HushError, X_OutOfRange,  and_self, and_true, true_and, false_and, and_false, Nat.reduceMul, Int.reduceLE, Int.reduceLT, Int.reduceToNat, Int.reduceAdd, Int.reduceSub, Int.reduceMul, Int.reducePow, Nat.reducePow, Int.reduceNeg, Int.reduceBEq, Nat.reduceBEq, Bool.or_false, Bool.false_or, Bool.or_true, Bool.true_or, Bool.and_true, Bool.true_and, Bool.and_false, Bool.false_and, List.getD_cons_zero, List.getD_cons_succ,
List.getElem?_cons_zero, List.getElem?_cons_succ, List.set_cons_zero, List.set_cons_succ, List.map_cons, List.map_nil, List.length_cons, List.length_nil, List.length_map, List.cons_append, List.nil_append, List.replicate_succ, List.replicate_zero, decide_true, decide_false, Bool.not_true, Bool.not_false, if_true, if_false, Bool.false_eq_true, decide_eq_true_eq, ite_true, ite_false, reduceIte, Nat.reduceAdd, Nat.reduceSub, Nat.reduceLT, Nat.reduceLeDiff, Nat.reduceEqDiff, Nat.zero_add, all_scal_ints, *])
local macro_rules | `(tactic| walk_at "s") => `(tactic| (first | refine ssqf (by walk_at "evh" <;> rfl) ?_ | refine ssqn (by walk_at "evh" <;> rfl) ?_))
local macro_rules | `(tactic| walk_at "r") => `(tactic| (first | refine ssqr (by walk_at "evh" <;> rfl) | refine ssqnr (by walk_at "evh" <;> rfl)))
local macro_rules | `(tactic| walk_at "x") => `(tactic| (first | refine ssqx (by walk_at "evh" <;> rfl) | refine ssqnx (by walk_at "evh" <;> rfl)))

theorem cell_eq (ns : List Int) (k : Nat) {fl : Nat} {S : Store} : F__law_cell fl [.scr ns, .int (k : Int)] S = .ok (.int (cell ns k)) S := by
  unfold F__law_cell B__law_cell
  by_cases h : k < ns.length
  · have h1 : (k : Int) < (ns.length : Nat) := by omega
    have h2 := gIx_scr (cell_lt h)
    walk_at "evh"
  · have h1 : ¬ (k : Int) < (ns.length : Nat) := by omega
    rw [cell_ge h]
    walk_at "evh"

theorem need_length_ok {bs : List Int} {a b : Int} (h1 : a ≤ (bs.length : Int)) (h2 : (bs.length : Int) ≤ b) {fl : Nat} {S : Store} : F_need_length fl [(D.list (List.map D.int bs)), .int a, .int b] S = .ok .none S := by
  unfold F_need_length B_need_length
  walk_at "evh"
theorem need_length_ex {bs : List Int} {a b : Int} (h : ¬ (a ≤ (bs.length : Int) ∧ (bs.length : Int) ≤ b)) {fl : Nat} {S : Store} : F_need_length fl [(D.list (List.map D.int bs)), .int a, .int b] S = .ex X_OutOfRange S := by
  unfold F_need_length B_need_length
  by_cases h1 : a ≤ (bs.length : Int)
  · have h2 : ¬ (bs.length : Int) ≤ b := fun z => h ⟨h1, z⟩
    clear h
    walk_at "evh"
  · clear h
    walk_at "evh"

/-! limbs of 26 bits -/
theorem ix5 (a b c d e : D) : gIx (.list [a, b, c, d, e]) (.int 0) = .ok a ∧ gIx (.list [a, b, c, d, e]) (.int 1) = .ok b ∧ gIx (.list [a, b, c, d, e]) (.int 2) = .ok c ∧ gIx (.list [a, b, c, d, e]) (.int 3) = .ok d ∧ gIx (.list [a, b, c, d, e]) (.int 4) = .ok e := ⟨gIx_list (k := 0) rfl, gIx_list (k := 1) rfl, gIx_list (k := 2) rfl, gIx_list (k := 3) rfl, gIx_list (k := 4) rfl⟩
theorem sum_is (ns : List Int) : gSum [.list (ns.map D.int)] = .ok (.int ns.sum) := by
  unfold gSum
  dsimp only
  have : intsD (ns.map D.int) = some ns := by
    induction ns with
    | nil => rfl
    | cons n ns ih =>
      rw [List.map_cons]
      unfold intsD
      rw [ih]
      rfl
  rw [this]
theorem sum_0 : gSum [.list []] = .ok (.int (0)) := sum_is []
theorem sum_1 (a : Int) : gSum [.list [.int a]] = .ok (.int (a)) := by
  rw [show [D.int a] = [a].map D.int from rfl, sum_is, List.sum_cons, List.sum_nil, Int.add_zero]
theorem sum_2 (a b : Int) : gSum [.list [.int a, .int b]] = .ok (.int (a + b)) := by
  rw [show [D.int a, D.int b] = [a, b].map D.int from rfl, sum_is, List.sum_cons, List.sum_cons, List.sum_nil, Int.add_zero]
theorem sum_3 (a b c : Int) : gSum [.list [.int a, .int b, .int c]] = .ok (.int (a + (b + c))) := by
  rw [show [D.int a, D.int b, D.int c] = [a, b, c].map D.int from rfl, sum_is, List.sum_cons, List.sum_cons, List.sum_cons, List.sum_nil, Int.add_zero]
theorem sum_4 (a b c d : Int) : gSum [.list [.int a, .int b, .int c, .int d]] = .ok (.int (a + (b + (c + d)))) := by
  rw [show [D.int a, D.int b, D.int c, D.int d] = [a, b, c, d].map D.int from rfl, sum_is, List.sum_cons, List.sum_cons, List.sum_cons, List.sum_cons, List.sum_nil, Int.add_zero]
theorem sum_5 (a b c d e : Int) : gSum [.list [.int a, .int b, .int c, .int d, .int e]] = .ok (.int (a + (b + (c + (d + e))))) := by
  rw [show [D.int a, D.int b, D.int c, D.int d, D.int e] = [a, b, c, d, e].map D.int from rfl, sum_is, List.sum_cons, List.sum_cons, List.sum_cons, List.sum_cons, List.sum_cons, List.sum_nil, Int.add_zero]
theorem mask26 (x : Int) : Builtin.bitAnd x 67108863 = x % 67108864 := and_mask x 26
def Lm (x : Int) : Prop := 0 ≤ x ∧ x < 4611686018427387904
/-- the carried limbs -/
def k1 (a b : Int) : Int := b + a / 67108864
def k2 (a b c : Int) : Int := c + k1 a b / 67108864
def k3 (a b c d : Int) : Int := d + k2 a b c / 67108864
def k4 (a b c d e : Int) : Int := e + k3 a b c d / 67108864
def k0 (a b c d e : Int) : Int := a % 67108864 + 5 * (k4 a b c d e / 67108864)
def kB (a b c d e : Int) : Int := k1 a b % 67108864 + k0 a b c d e / 67108864
theorem shr26 (x : Int) : gShr (.int x) (.int 26) = .ok (.int (x / 67108864)) := by
  rw [gShr_s x (by decide)]
  rfl
theorem k4_lo {a b c d e : Int} (ha : Lm a) (hb : Lm b) (hc : Lm c) (hd : Lm d) (he : Lm e) : 0 ≤ k4 a b c d e ∧ k4 a b c d e < 4611686157000000000 := by
  unfold Lm at *
  have g1 : 0 ≤ k1 a b ∧ k1 a b < 4611686157000000000 := by unfold k1; omega
  have g2 : 0 ≤ k2 a b c ∧ k2 a b c < 4611686157000000000 := by unfold k2; omega
  have g3 : 0 ≤ k3 a b c d ∧ k3 a b c d < 4611686157000000000 := by unfold k3; omega
  unfold k4
  omega
theorem nl5 {a b c d e : Int} {fl : Nat} {S : Store} : F_need_length fl [.list [.int a, .int b, .int c, .int d, .int e], .int 5, .int 5] S = .ok .none S := need_length_ok (bs := [a, b, c, d, e]) (by show (5 : Int) ≤ ((5 : Nat) : Int); decide) (by show ((5 : Nat) : Int) ≤ 5; decide)
theorem carry_eq {a b c d e : Int} (ha : Lm a) (hb : Lm b) (hc : Lm c) (hd : Lm d) (he : Lm e) {fl : Nat} {S : Store} : F_carry_limbs fl [.list [.int a, .int b, .int c, .int d, .int e]] S = .ok (.list [.int (k0 a b c d e % 67108864), .int (kB a b c d e), .int (k2 a b c % 67108864), .int (k3 a b c d % 67108864), .int (k4 a b c d e % 67108864)]) S := by
  have h4 := k4_lo ha hb hc hd he
  have m5 : gMul (.int 5) (.int (k4 a b c d e / 67108864)) = .ok (.int (5 * (k4 a b c d e / 67108864))) := gMul_s (by decide) (by decide) (by omega) (by omega)
  have nl := fun fl => nl5 (a := a) (b := b) (c := c) (d := d) (e := e) (fl := fl) (S := S)
  have f1 : b + a / 67108864 = k1 a b := rfl
  have f2 : c + k1 a b / 67108864 = k2 a b c := rfl
  have f3 : d + k2 a b c / 67108864 = k3 a b c d := rfl
  have f4 : e + k3 a b c d / 67108864 = k4 a b c d e := rfl
  have f0 : a % 67108864 + 5 * (k4 a b c d e / 67108864) = k0 a b c d e := rfl
  have fB : k1 a b % 67108864 + k0 a b c d e / 67108864 = kB a b c d e := rfl
  have s26 := shr26
  have mk := mask26
  clear ha hb hc hd he h4
  show (B_carry_limbs ⟨[.val (.list [.int a, .int b, .int c, .int d, .int e]), .no, .no, .no, .no, .no], S, fl⟩).fin = _
  unfold B_carry_limbs
  walk_at "s"
  refine ssqf (e' := ⟨[.val (.list [.int a, .int b, .int c, .int d, .int e]), .val (.int a), .val (.int b), .val (.int c), .val (.int d), .val (.int e)], S, fl⟩) rfl ?_
  walk_at "s"
  walk_at "s"
  walk_at "s"
  walk_at "s"
  walk_at "s"
  walk_at "s"
  walk_at "evh"
theorem law_carry_eq {a b c d e : Int} (ha : Lm a) (hb : Lm b) (hc : Lm c) (hd : Lm d) (he : Lm e) {fl : Nat} {S : Store} : F__law_carry fl [.list [.int a, .int b, .int c, .int d, .int e]] S = .ok (.list [.int (k0 a b c d e % 67108864), .int (kB a b c d e), .int (k2 a b c % 67108864), .int (k3 a b c d % 67108864), .int (k4 a b c d e % 67108864)]) S := by
  have h4 := k4_lo ha hb hc hd he
  have m5 : gMul (.int 5) (.int (k4 a b c d e / 67108864)) = .ok (.int (5 * (k4 a b c d e / 67108864))) := gMul_s (by decide) (by decide) (by omega) (by omega)
  have f1 : b + a / 67108864 = k1 a b := rfl
  have f2 : c + k1 a b / 67108864 = k2 a b c := rfl
  have f3 : d + k2 a b c / 67108864 = k3 a b c d := rfl
  have f4 : e + k3 a b c d / 67108864 = k4 a b c d e := rfl
  have f0 : a % 67108864 + 5 * (k4 a b c d e / 67108864) = k0 a b c d e := rfl
  have fB : k1 a b % 67108864 + k0 a b c d e / 67108864 = kB a b c d e := rfl
  have r4 : rng1 4 = .ok [.int 0, .int 1, .int 2, .int 3] := rng1_of (by decide) (by decide)
  have x0 := fun a b c d e => (ix5 a b c d e).1
  have x1 := fun a b c d e => (ix5 a b c d e).2.1
  have x2 := fun a b c d e => (ix5 a b c d e).2.2.1
  have x3 := fun a b c d e => (ix5 a b c d e).2.2.2.1
  have x4 := fun a b c d e => (ix5 a b c d e).2.2.2.2
  have n0 : ixN 5 0 = some 0 := rfl
  have n1 : ixN 5 1 = some 1 := rfl
  have n2 : ixN 5 2 = some 2 := rfl
  have n3 : ixN 5 3 = some 3 := rfl
  have n4 : ixN 5 4 = some 4 := rfl
  clear ha hb hc hd he h4
  show (B__law_carry ⟨[.val (.list [.int a, .int b, .int c, .int d, .int e]), .no, .no], S, fl⟩).fin = _
  unfold B__law_carry L__law_carry_1
  walk_at "s"
  walk_at "s"
  walk_at "s"
  walk_at "s"
  walk_at "s"
  walk_at "s"
  walk_at "evh"
/-- the value -/
def va (a b c d e : Int) : Int := a + 67108864 * b + 4503599627370496 * c + 302231454903657293676544 * d + 20282409603651670423947251286016 * e
theorem carry_val (a b c d e : Int) : va (k0 a b c d e % 67108864) (kB a b c d e) (k2 a b c % 67108864) (k3 a b c d % 67108864) (k4 a b c d e % 67108864) = va a b c d e - (k4 a b c d e / 67108864) * 1361129467683753853853498429727072845819 := by
  unfold va kB k0 k4 k3 k2 k1
  omega
theorem carry_small {a b c d e : Int} (ha : Lm a) (hb : Lm b) (hc : Lm c) (hd : Lm d) (he : Lm e) : (0 ≤ k0 a b c d e % 67108864 ∧ k0 a b c d e % 67108864 < 67108864) ∧ (0 ≤ kB a b c d e ∧ kB a b c d e < 67117056) ∧ (0 ≤ k2 a b c % 67108864 ∧ k2 a b c % 67108864 < 67108864) ∧ (0 ≤ k3 a b c d % 67108864 ∧ k3 a b c d % 67108864 < 67108864) ∧ 0 ≤ k4 a b c d e % 67108864 ∧ k4 a b c d e % 67108864 < 67108864 := by
  have h4 := k4_lo ha hb hc hd he
  have h0 : 0 ≤ k0 a b c d e ∧ k0 a b c d e < 412316860416 := by
    unfold k0
    omega
  have hB : 0 ≤ kB a b c d e ∧ kB a b c d e < 67117056 := by
    unfold kB
    omega
  omega
theorem bits_of {x : Int} {k : Nat} (h0 : 0 ≤ x) (h : x < ((2 ^ k : Nat) : Int)) : Builtin.Int.intBits x ≤ k := bits_le_iff.mpr (by omega)
theorem value_eq {a b c d e : Int} (ha : Lm a) (hb : Lm b) (hc : Lm c) (hd : Lm d) (he : Lm e) {fl : Nat} {S : Store} : F__law_value fl [.list [.int a, .int b, .int c, .int d, .int e]] S = .ok (.int (va a b c d e)) S := by
  have gm : ∀ (x y : Int), Lm x → Builtin.Int.intBits y ≤ 200 → gMul (.int x) (.int y) = .ok (.int (x * y)) := fun x y h g => gMul_b (by have := bits_of (k := 62) h.1 h.2; omega)
  have m0 := gm a 1 ha (bits_le_iff.mpr (by decide))
  have m1 := gm b 67108864 hb (bits_le_iff.mpr (by decide))
  have m2 := gm c 4503599627370496 hc (bits_le_iff.mpr (by decide))
  have m3 := gm d 302231454903657293676544 hd (bits_le_iff.mpr (by decide))
  have m4 := gm e 20282409603651670423947251286016 he (bits_le_iff.mpr (by decide))
  have r5 : rng1 5 = .ok [.int 0, .int 1, .int 2, .int 3, .int 4] := rng1_of (by decide) (by decide)
  obtain ⟨x0, x1, x2, x3, x4⟩ := ix5 (.int a) (.int b) (.int c) (.int d) (.int e)
  have ev : 0 + a * 1 + b * 67108864 + c * 4503599627370496 + d * 302231454903657293676544 + e * 20282409603651670423947251286016 = va a b c d e := by
    unfold va
    omega
  clear ha hb hc hd he gm
  show (B__law_value ⟨[.val (.list [.int a, .int b, .int c, .int d, .int e]), .no, .no], S, fl⟩).fin = _
  unfold B__law_value L__law_value_1
  walk_at "s"
  walk_at "s"
  walk_at "evh"
theorem small_eq {a b c d e : Int} (ha : 0 ≤ a ∧ a < 67108864) (hb : 0 ≤ b ∧ b < 67117056) (hc : 0 ≤ c ∧ c < 67108864) (hd : 0 ≤ d ∧ d < 67108864) (he : 0 ≤ e ∧ e < 67108864) {fl : Nat} {S : Store} : F__law_small fl [.list [.int a, .int b, .int c, .int d, .int e]] S = .ok (.bool true) S := by
  obtain ⟨x0, x1, x2, x3, x4⟩ := ix5 (.int a) (.int b) (.int c) (.int d) (.int e)
  have r5 : rng1 5 = .ok [.int 0, .int 1, .int 2, .int 3, .int 4] := rng1_of (by decide) (by decide)
  have a0 : ¬ a < 0 := by omega
  have b0 : ¬ b < 0 := by omega
  have c0 : ¬ c < 0 := by omega
  have d0 : ¬ d < 0 := by omega
  have e0 : ¬ e < 0 := by omega
  have a1 : ¬ 67108864 ≤ a := by omega
  have b1 : ¬ 67117056 ≤ b := by omega
  have c1 : ¬ 67108864 ≤ c := by omega
  have d1 : ¬ 67108864 ≤ d := by omega
  have e1' : ¬ 67108864 ≤ e := by omega
  clear ha hb hc hd he
  show (B__law_small ⟨[.val (.list [.int a, .int b, .int c, .int d, .int e]), .no, .no], S, fl⟩).fin = _
  unfold B__law_small L__law_small_1
  walk_at "s"
  walk_at "evh"
theorem integer_eq (i : Int) {fl : Nat} {S : Store} : F__law_integer fl [.int i] S = .ok (.bool true) S := by
  unfold F__law_integer B__law_integer
  walk_at "ev"
theorem zip_c (a b : D) (as bs : List D) : zipD (a :: as) (b :: bs) = .tuple [a, b] :: zipD as bs := rfl
theorem zip_n : zipD [] [] = [] := rfl
theorem is_list_eq (a b c d e : Int) {fl : Nat} {S : Store} : F__law_is_list fl [.list [.int a, .int b, .int c, .int d, .int e], .list [.int a, .int b, .int c, .int d, .int e]] S = .ok (.bool true) S := by
  have ie := fun i fl => integer_eq i (fl := fl) (S := S)
  have z1 := zip_c
  have z2 := zip_n
  have st : ∀ (z : Int) (e0 e1' : Sl), L__law_is_list_1 ⟨[e0, e1', .val (.int z), .val (.int z)], S, fl⟩ = .nx ⟨[e0, e1', .val (.int z), .val (.int z)], S, fl⟩ := fun z e0 e1' => by
    unfold L__law_is_list_1
    walk_at "evh"
  have lc : ∀ (z : Int) (ds : List D) (e : Env), loopF (.tp [2, 3]) L__law_is_list_1 (.tuple [.int z, .int z] :: ds) e = loopK (loopF (.tp [2, 3]) L__law_is_list_1 ds) (L__law_is_list_1 (e.setE [2, 3] [.int z, .int z])) := fun z ds e => lp_consT rfl
  show (B__law_is_list ⟨[.val (.list [.int a, .int b, .int c, .int d, .int e]), .val (.list [.int a, .int b, .int c, .int d, .int e]), .no, .no], S, fl⟩).fin = _
  unfold B__law_is_list
  walk_at "s"
  walk_at "s"
  walk_at "evh"
theorem carried_eq {a b c d e : Int} (ha : Lm a) (hb : Lm b) (hc : Lm c) (hd : Lm d) (he : Lm e) {fl : Nat} {S : Store} : F__law_carried fl [.list [.int a, .int b, .int c, .int d, .int e]] S = .ok (.bool true) S := by
  obtain ⟨s0, s1, s2, s3, s4⟩ := carry_small ha hb hc hd he
  have cv := carry_val a b c d e
  have f := fun fl => carry_eq ha hb hc hd he (fl := fl) (S := S)
  have l := fun fl => law_carry_eq ha hb hc hd he (fl := fl) (S := S)
  have v1 := fun fl => value_eq ha hb hc hd he (fl := fl) (S := S)
  generalize k0 a b c d e % 67108864 = a' at *
  generalize kB a b c d e = b' at *
  generalize k2 a b c % 67108864 = c' at *
  generalize k3 a b c d % 67108864 = d' at *
  generalize k4 a b c d e % 67108864 = e' at *
  have v2 := fun fl => value_eq (a := a') (b := b') (c := c') (d := d') (e := e') ⟨by omega, by omega⟩ ⟨by omega, by omega⟩ ⟨by omega, by omega⟩ ⟨by omega, by omega⟩ ⟨by omega, by omega⟩ (fl := fl) (S := S)
  have sm := fun fl => small_eq s0 s1 s2 s3 s4 (fl := fl) (S := S)
  have il := fun fl => is_list_eq a' b' c' d' e' (fl := fl) (S := S)
  have ne : gNe (.list [.int a, .int b, .int c, .int d, .int e]) (.list [.int a, .int b, .int c, .int d, .int e]) = .ok (.bool false) := by
    have := gNe_ll [a, b, c, d, e] [a, b, c, d, e]
    rw [decide_eq_true rfl] at this
    exact this
  have g1 : gMod (.int (va a' b' c' d' e')) (.int 1361129467683753853853498429727072845819) = .ok (.int (va a b c d e % 1361129467683753853853498429727072845819)) := by
    rw [gMod_s _ (by decide +kernel), cv]
    congr 2
    omega
  have g2 : gMod (.int (va a b c d e)) (.int 1361129467683753853853498429727072845819) = .ok (.int (va a b c d e % 1361129467683753853853498429727072845819)) := gMod_s _ (by decide +kernel)
  have p130 : e2 gSub (e2 gShl (eC (.int 1)) (eC (.int 130))) (eC (.int 5)) = eC (.int 1361129467683753853853498429727072845819) := rfl
  have gl : gList [.list [.int a, .int b, .int c, .int d, .int e]] = .ok [.int a, .int b, .int c, .int d, .int e] := rfl
  clear ha hb hc hd he s0 s1 s2 s3 s4 cv
  generalize (1361129467683753853853498429727072845819 : Int) = P at *
  generalize va a b c d e = V at *
  generalize va a' b' c' d' e' = V' at *
  show (B__law_carried ⟨[.val (.list [.int a, .int b, .int c, .int d, .int e]), .no, .no, .no], S, fl⟩).fin = _
  unfold B__law_carried
  rw [p130]
  walk_at "s"
  walk_at "s"
  walk_at "s"
  walk_at "s"
  walk_at "evh"
theorem ex_of {bs : List Int} (h : bs.length ≠ 5) {fl : Nat} {S : Store} : F_carry_limbs fl [(D.list (List.map D.int bs))] S = .ex X_OutOfRange S ∧ F_from_limbs fl [(D.list (List.map D.int bs))] S = .ex X_OutOfRange S ∧ F_multiply_limbs fl [.list [.int 1, .int 2, .int 3, .int 4, .int 5], (D.list (List.map D.int bs))] S = .ex X_OutOfRange S := by
  have nl := fun fl => need_length_ex (bs := bs) (a := 5) (b := 5) (by omega) (fl := fl) (S := S)
  have n2 := fun fl => nl5 (a := 1) (b := 2) (c := 3) (d := 4) (e := 5) (fl := fl) (S := S)
  clear h
  generalize bs.map D.int = BS at *
  refine ⟨?_, ?_, ?_⟩
  · show (B_carry_limbs ⟨[.val (.list BS), .no, .no, .no, .no, .no], S, fl⟩).fin = _
    unfold B_carry_limbs
    walk_at "x"
  · show (B_from_limbs ⟨[.val (.list BS), .no, .no], S, fl⟩).fin = _
    unfold B_from_limbs
    walk_at "x"
  · show (B_multiply_limbs ⟨[.val (.list [.int 1, .int 2, .int 3, .int 4, .int 5]), .val (.list BS), .no, .no, .no, .no, .no, .no, .no, .no, .no, .no], S, fl⟩).fin = _
    unfold B_multiply_limbs
    walk_at "s"
    walk_at "x"
theorem need_range_ok {n a b : Int} (h1 : a ≤ n) (h2 : n ≤ b) {fl : Nat} {S : Store} : F_need_range fl [.int n, .int a, .int b] S = .ok .none S := by
  unfold F_need_range B_need_range
  walk_at "evh"
theorem need_range_ex {n a b : Int} (h : ¬ (a ≤ n ∧ n ≤ b)) {fl : Nat} {S : Store} : F_need_range fl [.int n, .int a, .int b] S = .ex X_OutOfRange S := by
  unfold F_need_range B_need_range
  by_cases h1 : a ≤ n
  · have h2 : ¬ n ≤ b := fun z => h ⟨h1, z⟩
    clear h
    walk_at "evh"
  · clear h
    walk_at "evh"
theorem to_limbs_ex {n : Int} (h : ¬ (0 ≤ n ∧ n ≤ 1361129467683753853853498429727072845823)) {fl : Nat} {S : Store} : F_to_limbs fl [.int n] S = .ex X_OutOfRange S := by
  have nr := fun fl => need_range_ex h (fl := fl) (S := S)
  clear h
  show (B_to_limbs ⟨[.val (.int n), .no], S, fl⟩).fin = _
  unfold B_to_limbs
  generalize (1361129467683753853853498429727072845823 : Int) = W at *
  walk_at "x"
def dg (n : Int) (k : Nat) : Int := n / 67108864 ^ k % 67108864
theorem shr_k (n : Int) (k : Nat) {j w : Int} (h : j = 26 * (k : Int)) (hw : (67108864 : Int) ^ k = w) : gShr (.int n) (.int j) = .ok (.int (n / w)) := by
  rw [gShr_s n (by omega), h, ← hw, show (26 * (k : Int)).toNat = 26 * k by omega, Int.pow_mul]
  rfl
theorem to_limbs_eq {n : Int} (h0 : 0 ≤ n) (h1 : n ≤ 1361129467683753853853498429727072845823) {fl : Nat} {S : Store} : F_to_limbs fl [.int n] S = .ok (.list [.int (dg n 0), .int (dg n 1), .int (dg n 2), .int (dg n 3), .int (dg n 4)]) S := by
  have nr := fun fl => need_range_ok h0 h1 (fl := fl) (S := S)
  have r5 : rng1 5 = .ok [.int 0, .int 1, .int 2, .int 3, .int 4] := rng1_of (by decide) (by decide)
  have s0 := shr_k n 0 (j := 0) rfl rfl
  have s1 := shr_k n 1 (j := 26) rfl rfl
  have s2 := shr_k n 2 (j := 52) rfl rfl
  have s3 := shr_k n 3 (j := 78) rfl rfl
  have s4 := shr_k n 4 (j := 104) rfl rfl
  have mk := mask26
  have d0 : n / 67108864 ^ 0 % 67108864 = dg n 0 := rfl
  have d1 : n / 67108864 ^ 1 % 67108864 = dg n 1 := rfl
  have d2 : n / 67108864 ^ 2 % 67108864 = dg n 2 := rfl
  have d3 : n / 67108864 ^ 3 % 67108864 = dg n 3 := rfl
  have d4 : n / 67108864 ^ 4 % 67108864 = dg n 4 := rfl
  generalize (67108864 : Int) ^ 0 = w0 at *
  generalize (67108864 : Int) ^ 1 = w1 at *
  generalize (67108864 : Int) ^ 2 = w2 at *
  generalize (67108864 : Int) ^ 3 = w3 at *
  generalize (67108864 : Int) ^ 4 = w4 at *
  clear h0 h1
  show (B_to_limbs ⟨[.val (.int n), .no], S, fl⟩).fin = _
  unfold B_to_limbs E_to_limbs_1
  generalize (1361129467683753853853498429727072845823 : Int) = W at *
  walk_at "s"
  walk_at "evh"
theorem dd (n b c : Int) (hb : 0 ≤ b) : n / (b * c) = n / b / c := by
  rw [Int.ediv_ediv, if_neg (fun h => absurd h.1 (Int.not_lt.mpr hb)), Int.sub_zero]
theorem dg_sum {n : Int} (h0 : 0 ≤ n) (h1 : n ≤ 1361129467683753853853498429727072845823) : va (dg n 0) (dg n 1) (dg n 2) (dg n 3) (dg n 4) = n := by
  have e2' : n / 67108864 ^ 2 = n / 67108864 / 67108864 := dd n 67108864 67108864 (by decide)
  have e3 : n / 67108864 ^ 3 = n / 67108864 / 67108864 / 67108864 := by
    rw [← e2']
    exact dd n (67108864 ^ 2) 67108864 (by decide)
  have e4 : n / 67108864 ^ 4 = n / 67108864 / 67108864 / 67108864 / 67108864 := by
    rw [← e3]
    exact dd n (67108864 ^ 3) 67108864 (by decide)
  unfold va dg
  rw [e2', e3, e4, Int.pow_zero, Int.ediv_one, show (67108864 : Int) ^ 1 = 67108864 from rfl]
  omega
theorem shl_k {x : Int} (hx : Lm x) (k : Nat) (hk : k ≤ 4) {j w : Int} (h : j = 26 * (k : Int)) (hw : (67108864 : Int) ^ k = w) : gShl (.int x) (.int j) = .ok (.int (x * w)) := by
  rw [gShl_s (by have := hx.1; omega) (by have := hx.2; omega) (by omega) (by omega), h, ← hw, show (26 * (k : Int)).toNat = 26 * k by omega, Int.pow_mul]
  rfl
theorem from_limbs_eq {a b c d e : Int} (ha : Lm a) (hb : Lm b) (hc : Lm c) (hd : Lm d) (he : Lm e) {fl : Nat} {S : Store} : F_from_limbs fl [.list [.int a, .int b, .int c, .int d, .int e]] S = .ok (.int (va a b c d e)) S := by
  have nl := fun fl => nl5 (a := a) (b := b) (c := c) (d := d) (e := e) (fl := fl) (S := S)
  have s0 := shl_k ha 0 (by decide) (j := 0) rfl rfl
  have s1 := shl_k hb 1 (by decide) (j := 26) rfl rfl
  have s2 := shl_k hc 2 (by decide) (j := 52) rfl rfl
  have s3 := shl_k hd 3 (by decide) (j := 78) rfl rfl
  have s4 := shl_k he 4 (by decide) (j := 104) rfl rfl
  have su := sum_5 (a * 67108864 ^ 0) (b * 67108864 ^ 1) (c * 67108864 ^ 2) (d * 67108864 ^ 3) (e * 67108864 ^ 4)
  have ev : a * 67108864 ^ 0 + (b * 67108864 ^ 1 + (c * 67108864 ^ 2 + (d * 67108864 ^ 3 + e * 67108864 ^ 4))) = va a b c d e := by
    unfold va
    omega
  rw [ev] at su
  have en : enumD [.int a, .int b, .int c, .int d, .int e] = [.tuple [.int 0, .int a], .tuple [.int 1, .int b], .tuple [.int 2, .int c], .tuple [.int 3, .int d], .tuple [.int 4, .int e]] := rfl
  generalize a * 67108864 ^ 0 = w0 at *
  generalize b * 67108864 ^ 1 = w1 at *
  generalize c * 67108864 ^ 2 = w2 at *
  generalize d * 67108864 ^ 3 = w3 at *
  generalize e * 67108864 ^ 4 = w4 at *
  generalize va a b c d e = V at *
  clear ha hb hc hd he ev
  show (B_from_limbs ⟨[.val (.list [.int a, .int b, .int c, .int d, .int e]), .no, .no], S, fl⟩).fin = _
  unfold B_from_limbs E_from_limbs_1
  walk_at "s"
  walk_at "evh"
theorem refused_walk {bs : List Int} (hb : bs.length ≠ 5) {n : Int} (hn : ¬ (0 ≤ n ∧ n ≤ 1361129467683753853853498429727072845823)) {fl : Nat} {S : Store} : F__law_refused fl [(D.list (List.map D.int bs)), .int n] S = .ok (.bool true) S := by
  have x := fun fl => (ex_of hb (fl := fl) (S := S)).1
  have y := fun fl => (ex_of hb (fl := fl) (S := S)).2.1
  have z := fun fl => (ex_of hb (fl := fl) (S := S)).2.2
  have w := fun fl => to_limbs_ex hn (fl := fl) (S := S)
  have x1 : xsub 1 0 = true := rfl
  have x2 : xsub 1 1 = true := rfl
  clear hb hn
  generalize bs.map D.int = BS at *
  show (B__law_refused ⟨[.val (.list BS), .val (.int n), .no, .no], S, fl⟩).fin = _
  unfold B__law_refused
  walk_at "s"
  walk_at "s"
  walk_at "s"
  walk_at "s"
  walk_at "s"
  walk_at "evh"
theorem multiply_eq {a b c d e p q r s t p00 p01 p02 p03 p04 p10 p11 p12 p13 p14 p20 p21 p22 p23 p24 p30 p31 p32 p33 p34 p40 p41 p42 p43 p44 : Int} (m00 : gMul (.int a) (.int p) = .ok (.int p00)) (c00 : 0 ≤ p00 ∧ p00 ≤ 72057594037927936) (m01 : gMul (.int a) (.int q) = .ok (.int p01)) (c01 : 0 ≤ p01 ∧ p01 ≤ 72057594037927936) (m02 : gMul (.int a) (.int r) = .ok (.int p02)) (c02 : 0 ≤ p02 ∧ p02 ≤ 72057594037927936) (m03 : gMul (.int a) (.int s) = .ok (.int p03)) (c03 : 0 ≤ p03 ∧ p03 ≤ 72057594037927936) (m04 : gMul (.int a) (.int t) = .ok (.int p04)) (c04 : 0 ≤ p04 ∧ p04 ≤ 72057594037927936) (m10 : gMul (.int b) (.int p) = .ok (.int p10)) (c10 : 0 ≤ p10 ∧ p10 ≤ 72057594037927936) (m11 : gMul (.int b) (.int q) = .ok (.int p11)) (c11 : 0 ≤ p11 ∧ p11 ≤ 72057594037927936) (m12 : gMul (.int b) (.int r) = .ok (.int p12)) (c12 : 0 ≤ p12 ∧ p12 ≤ 72057594037927936) (m13 : gMul (.int b) (.int s) = .ok (.int p13)) (c13 : 0 ≤ p13 ∧ p13 ≤ 72057594037927936) (m14 : gMul (.int b) (.int t) = .ok (.int p14)) (c14 : 0 ≤ p14 ∧ p14 ≤ 72057594037927936) (m20 : gMul (.int c) (.int p) = .ok (.int p20)) (c20 : 0 ≤ p20 ∧ p20 ≤ 72057594037927936) (m21 : gMul (.int c) (.int q) = .ok (.int p21)) (c21 : 0 ≤ p21 ∧ p21 ≤ 72057594037927936) (m22 : gMul (.int c) (.int r) = .ok (.int p22)) (c22 : 0 ≤ p22 ∧ p22 ≤ 72057594037927936) (m23 : gMul (.int c) (.int s) = .ok (.int p23)) (c23 : 0 ≤ p23 ∧ p23 ≤ 72057594037927936) (m24 : gMul (.int c) (.int t) = .ok (.int p24)) (c24 : 0 ≤ p24 ∧ p24 ≤ 72057594037927936) (m30 : gMul (.int d) (.int p) = .ok (.int p30)) (c30 : 0 ≤ p30 ∧ p30 ≤ 72057594037927936) (m31 : gMul (.int d) (.int q) = .ok (.int p31)) (c31 : 0 ≤ p31 ∧ p31 ≤ 72057594037927936) (m32 : gMul (.int d) (.int r) = .ok (.int p32)) (c32 : 0 ≤ p32 ∧ p32 ≤ 72057594037927936) (m33 : gMul (.int d) (.int s) = .ok (.int p33)) (c33 : 0 ≤ p33 ∧ p33 ≤ 72057594037927936) (m34 : gMul (.int d) (.int t) = .ok (.int p34)) (c34 : 0 ≤ p34 ∧ p34 ≤ 72057594037927936) (m40 : gMul (.int e) (.int p) = .ok (.int p40)) (c40 : 0 ≤ p40 ∧ p40 ≤ 72057594037927936) (m41 : gMul (.int e) (.int q) = .ok (.int p41)) (c41 : 0 ≤ p41 ∧ p41 ≤ 72057594037927936) (m42 : gMul (.int e) (.int r) = .ok (.int p42)) (c42 : 0 ≤ p42 ∧ p42 ≤ 72057594037927936) (m43 : gMul (.int e) (.int s) = .ok (.int p43)) (c43 : 0 ≤ p43 ∧ p43 ≤ 72057594037927936) (m44 : gMul (.int e) (.int t) = .ok (.int p44)) (c44 : 0 ≤ p44 ∧ p44 ≤ 72057594037927936) {fl : Nat} {S : Store} : (Lm (p00 + 5 * (p14 + (p23 + (p32 + p41)))) ∧ Lm (p01 + p10 + 5 * (p24 + (p33 + p42))) ∧ Lm (p02 + (p11 + p20) + 5 * (p34 + p43)) ∧ Lm (p03 + (p12 + (p21 + p30)) + 5 * (p44)) ∧ Lm (p04 + (p13 + (p22 + (p31 + p40))) + 0)) ∧ F_multiply_limbs fl [.list [.int a, .int b, .int c, .int d, .int e], .list [.int p, .int q, .int r, .int s, .int t]] S = .ok (.list [.int (k0 (p00 + 5 * (p14 + (p23 + (p32 + p41)))) (p01 + p10 + 5 * (p24 + (p33 + p42))) (p02 + (p11 + p20) + 5 * (p34 + p43)) (p03 + (p12 + (p21 + p30)) + 5 * (p44)) (p04 + (p13 + (p22 + (p31 + p40))) + 0) % 67108864), .int (kB (p00 + 5 * (p14 + (p23 + (p32 + p41)))) (p01 + p10 + 5 * (p24 + (p33 + p42))) (p02 + (p11 + p20) + 5 * (p34 + p43)) (p03 + (p12 + (p21 + p30)) + 5 * (p44)) (p04 + (p13 + (p22 + (p31 + p40))) + 0)), .int (k2 (p00 + 5 * (p14 + (p23 + (p32 + p41)))) (p01 + p10 + 5 * (p24 + (p33 + p42))) (p02 + (p11 + p20) + 5 * (p34 + p43)) % 67108864), .int (k3 (p00 + 5 * (p14 + (p23 + (p32 + p41)))) (p01 + p10 + 5 * (p24 + (p33 + p42))) (p02 + (p11 + p20) + 5 * (p34 + p43)) (p03 + (p12 + (p21 + p30)) + 5 * (p44)) % 67108864), .int (k4 (p00 + 5 * (p14 + (p23 + (p32 + p41)))) (p01 + p10 + 5 * (p24 + (p33 + p42))) (p02 + (p11 + p20) + 5 * (p34 + p43)) (p03 + (p12 + (p21 + p30)) + 5 * (p44)) (p04 + (p13 + (p22 + (p31 + p40))) + 0) % 67108864)]) S := by
  have l0 : Lm (p00 + 5 * (p14 + (p23 + (p32 + p41)))) := by unfold Lm; omega
  have l1 : Lm (p01 + p10 + 5 * (p24 + (p33 + p42))) := by unfold Lm; omega
  have l2 : Lm (p02 + (p11 + p20) + 5 * (p34 + p43)) := by unfold Lm; omega
  have l3 : Lm (p03 + (p12 + (p21 + p30)) + 5 * (p44)) := by unfold Lm; omega
  have l4 : Lm (p04 + (p13 + (p22 + (p31 + p40))) + 0) := by unfold Lm; omega
  refine ⟨⟨l0, l1, l2, l3, l4⟩, ?_⟩
  have cr := fun fl => carry_eq l0 l1 l2 l3 l4 (fl := fl) (S := S)
  have h0 : gMul (.int 5) (.int (p14 + p23 + p32 + p41)) = .ok (.int (5 * (p14 + p23 + p32 + p41))) := gMul_s (by decide) (by decide) (by omega) (by omega)
  have h1 : gMul (.int 5) (.int (p24 + p33 + p42)) = .ok (.int (5 * (p24 + p33 + p42))) := gMul_s (by decide) (by decide) (by omega) (by omega)
  have h2 : gMul (.int 5) (.int (p34 + p43)) = .ok (.int (5 * (p34 + p43))) := gMul_s (by decide) (by decide) (by omega) (by omega)
  have h3 : gMul (.int 5) (.int (p44)) = .ok (.int (5 * (p44))) := gMul_s (by decide) (by decide) (by omega) (by omega)
  have r0 : p00 + 5 * (p14 + p23 + p32 + p41) = p00 + 5 * (p14 + (p23 + (p32 + p41))) := by omega
  have r1 : p01 + p10 + 5 * (p24 + p33 + p42) = p01 + p10 + 5 * (p24 + (p33 + p42)) := by omega
  have r2 : p02 + p11 + p20 + 5 * (p34 + p43) = p02 + (p11 + p20) + 5 * (p34 + p43) := by omega
  have r3 : p03 + p12 + p21 + p30 + 5 * p44 = p03 + (p12 + (p21 + p30)) + 5 * (p44) := by omega
  have r4 : p04 + p13 + p22 + p31 + p40 = p04 + (p13 + (p22 + (p31 + p40))) + 0 := by omega
  have n1 := fun fl => nl5 (a := a) (b := b) (c := c) (d := d) (e := e) (fl := fl) (S := S)
  have n2 := fun fl => nl5 (a := p) (b := q) (c := r) (d := s) (e := t) (fl := fl) (S := S)
  clear l0 l1 l2 l3 l4 c00 c01 c02 c03 c04 c10 c11 c12 c13 c14 c20 c21 c22 c23 c24 c30 c31 c32 c33 c34 c40 c41 c42 c43 c44
  generalize p00 + 5 * (p14 + (p23 + (p32 + p41))) = s0 at *
  generalize p01 + p10 + 5 * (p24 + (p33 + p42)) = s1 at *
  generalize p02 + (p11 + p20) + 5 * (p34 + p43) = s2 at *
  generalize p03 + (p12 + (p21 + p30)) + 5 * (p44) = s3 at *
  generalize p04 + (p13 + (p22 + (p31 + p40))) + 0 = s4 at *
  show (B_multiply_limbs ⟨[.val (.list [.int a, .int b, .int c, .int d, .int e]), .val (.list [.int p, .int q, .int r, .int s, .int t]), .no, .no, .no, .no, .no, .no, .no, .no, .no, .no], S, fl⟩).fin = _
  unfold B_multiply_limbs
  walk_at "s"
  walk_at "s"
  refine ssqf (e' := ⟨[.val (.list [.int a, .int b, .int c, .int d, .int e]), .val (.list [.int p, .int q, .int r, .int s, .int t]), .val (.int a), .val (.int b), .val (.int c), .val (.int d), .val (.int e), .no, .no, .no, .no, .no], S, fl⟩) rfl ?_
  refine ssqf (e' := ⟨[.val (.list [.int a, .int b, .int c, .int d, .int e]), .val (.list [.int p, .int q, .int r, .int s, .int t]), .val (.int a), .val (.int b), .val (.int c), .val (.int d), .val (.int e), .val (.int p), .val (.int q), .val (.int r), .val (.int s), .val (.int t)], S, fl⟩) rfl ?_
  walk_at "evh"
theorem va_mul (x a b c d e : Int) : x * va a b c d e = va (x * a) (x * b) (x * c) (x * d) (x * e) := by
  unfold va
  simp only [Int.mul_add, Int.mul_left_comm x 67108864, Int.mul_left_comm x 4503599627370496, Int.mul_left_comm x 302231454903657293676544, Int.mul_left_comm x 20282409603651670423947251286016]
theorem va_mul' (x a b c d e : Int) : va a b c d e * x = va (a * x) (b * x) (c * x) (d * x) (e * x) := by
  rw [Int.mul_comm, va_mul, Int.mul_comm x a, Int.mul_comm x b, Int.mul_comm x c, Int.mul_comm x d, Int.mul_comm x e]
theorem va_prod (a b c d e p q r s t : Int) : va a b c d e * va p q r s t = va (va (a * p) (a * q) (a * r) (a * s) (a * t)) (va (b * p) (b * q) (b * r) (b * s) (b * t)) (va (c * p) (c * q) (c * r) (c * s) (c * t)) (va (d * p) (d * q) (d * r) (d * s) (d * t)) (va (e * p) (e * q) (e * r) (e * s) (e * t)) := by
  rw [va_mul', va_mul, va_mul, va_mul, va_mul, va_mul]
theorem va_raw {p00 p01 p02 p03 p04 p10 p11 p12 p13 p14 p20 p21 p22 p23 p24 p30 p31 p32 p33 p34 p40 p41 p42 p43 p44 : Int} : va (p00 + 5 * (p14 + (p23 + (p32 + p41)))) (p01 + p10 + 5 * (p24 + (p33 + p42))) (p02 + (p11 + p20) + 5 * (p34 + p43)) (p03 + (p12 + (p21 + p30)) + 5 * (p44)) (p04 + (p13 + (p22 + (p31 + p40))) + 0) = va (va p00 p01 p02 p03 p04) (va p10 p11 p12 p13 p14) (va p20 p21 p22 p23 p24) (va p30 p31 p32 p33 p34) (va p40 p41 p42 p43 p44) - 1361129467683753853853498429727072845819 * ((p14 + (p23 + (p32 + p41))) + 67108864 * (p24 + (p33 + p42)) + 4503599627370496 * (p34 + p43) + 302231454903657293676544 * (p44)) := by
  unfold va
  omega
theorem seg_a {ns : List Int} {P5 : Int} (c0 : ∀ fl S, F__law_cell fl [.scr ns, .int 0] S = .ok (.int (cell ns 0)) S) (c1 : ∀ fl S, F__law_cell fl [.scr ns, .int 1] S = .ok (.int (cell ns 1)) S) (c2 : ∀ fl S, F__law_cell fl [.scr ns, .int 2] S = .ok (.int (cell ns 2)) S) (c3 : ∀ fl S, F__law_cell fl [.scr ns, .int 3] S = .ok (.int (cell ns 3)) S) (c4 : ∀ fl S, F__law_cell fl [.scr ns, .int 4] S = .ok (.int (cell ns 4)) S) (c16 : ∀ fl S, F__law_cell fl [.scr ns, .int 16] S = .ok (.int (cell ns 16)) S) : ∃ x0 x1 x2 x3 x4, (Lm x0 ∧ Lm x1 ∧ Lm x2 ∧ Lm x3 ∧ Lm x4) ∧ ∀ tail : Env → Out,
    (sSeq (sSetV 2 (fun env => ((eComp (.nm 11) (iR1 (asCons (eC (.int 5)) asNil)) cYes E_law_1) env).map .list))
  (sSeq (sIf fu (eB (e2 gEq (e2 gMod (pArgs 2 0 gApp (asCons (eVar 0) (asCons (eC (.int 16)) asNil)) asNil (pCall F__law_cell)) (eC (.int 4))) (eC (.int 1))))
  (sSetV 2 (fun env => ((eComp (.nm 11) (iR1 (asCons (eC (.int 5)) asNil)) cYes E_law_2) env).map .list))
  sNil)
  (sSeq (sIf fu (eB (e2 gEq (e2 gMod (pArgs 2 0 gApp (asCons (eVar 0) (asCons (eC (.int 16)) asNil)) asNil (pCall F__law_cell)) (eC (.int 4))) (eC (.int 2))))
  (sSetV 2 (fun env => ((eFit (asCons (e2 gAdd (eC (.int 67108859)) (e2 gMod (pArgs 2 0 gApp (asCons (eVar 0) (asCons (eC (.int 0)) asNil)) asNil (pCall F__law_cell)) (eC (.int 10)))) (asCons (eC (.int 67108863)) (asCons (eC (.int 67108863)) (asCons (eC (.int 67108863)) (asCons (eC (.int 67108863)) asNil)))))) env).map .list))
  sNil)
  tail))) ⟨[.val (.scr ns), .val (.int P5), .no, .no, .no, .no, .no, .no, .no, .no, .no, .no, .no], [], 0⟩ = tail ⟨[.val (.scr ns), .val (.int P5), .val (.list [.int x0, .int x1, .int x2, .int x3, .int x4]), .no, .no, .no, .no, .no, .no, .no, .no, .no, .no], [], 0⟩ := by
  have r5 : rng1 5 = .ok [.int 0, .int 1, .int 2, .int 3, .int 4] := rng1_of (by decide) (by decide)
  have md := fun x : Int => gMod_s x (j := 4611686018427387904) (by decide)
  have md2 := fun x : Int => gMod_s x (j := 10) (by decide)
  by_cases h1 : cell ns 16 % 4 = 1
  · have q1 : (cell ns 16 % 4 == 1) = true := by rw [h1]; rfl
    have q2 : (cell ns 16 % 4 == 2) = false := by rw [h1]; rfl
    refine ⟨4611686018427387903 - cell ns 0 % 2, 4611686018427387903 - cell ns 1 % 2, 4611686018427387903 - cell ns 2 % 2, 4611686018427387903 - cell ns 3 % 2, 4611686018427387903 - cell ns 4 % 2, ⟨⟨by omega, by omega⟩, ⟨by omega, by omega⟩, ⟨by omega, by omega⟩, ⟨by omega, by omega⟩, ⟨by omega, by omega⟩⟩, fun tail => ?_⟩
    clear h1
    unfold E_law_1 E_law_2
    walk_at "s"
    walk_at "s"
    walk_at "s"
    rfl
  · have q1 : (cell ns 16 % 4 == 1) = false := beq_false_of_ne h1
    by_cases h2 : cell ns 16 % 4 = 2
    · have q2 : (cell ns 16 % 4 == 2) = true := by rw [h2]; rfl
      refine ⟨67108859 + cell ns 0 % 10, 67108863, 67108863, 67108863, 67108863, ⟨⟨by omega, by omega⟩, ⟨by omega, by omega⟩, ⟨by omega, by omega⟩, ⟨by omega, by omega⟩, ⟨by omega, by omega⟩⟩, fun tail => ?_⟩
      clear h1 h2
      unfold E_law_1
      walk_at "s"
      walk_at "s"
      walk_at "s"
      rfl
    · have q2 : (cell ns 16 % 4 == 2) = false := beq_false_of_ne h2
      refine ⟨cell ns 0 % 4611686018427387904, cell ns 1 % 4611686018427387904, cell ns 2 % 4611686018427387904, cell ns 3 % 4611686018427387904, cell ns 4 % 4611686018427387904, ⟨⟨by omega, by omega⟩, ⟨by omega, by omega⟩, ⟨by omega, by omega⟩, ⟨by omega, by omega⟩, ⟨by omega, by omega⟩⟩, fun tail => ?_⟩
      clear h1 h2
      unfold E_law_1
      walk_at "s"
      walk_at "s"
      walk_at "s"
      rfl
def Ln (x : Int) : Prop := 0 ≤ x ∧ x ≤ 268435455
theorem seg_b {ns : List Int} {P5 : Int} {XL : Sl} (hX : XL.fz = XL) (c5 : ∀ fl S, F__law_cell fl [.scr ns, .int 5] S = .ok (.int (cell ns 5)) S) (c6 : ∀ fl S, F__law_cell fl [.scr ns, .int 6] S = .ok (.int (cell ns 6)) S) (c7 : ∀ fl S, F__law_cell fl [.scr ns, .int 7] S = .ok (.int (cell ns 7)) S) (c8 : ∀ fl S, F__law_cell fl [.scr ns, .int 8] S = .ok (.int (cell ns 8)) S) (c9 : ∀ fl S, F__law_cell fl [.scr ns, .int 9] S = .ok (.int (cell ns 9)) S) (c10 : ∀ fl S, F__law_cell fl [.scr ns, .int 10] S = .ok (.int (cell ns 10)) S) (c11 : ∀ fl S, F__law_cell fl [.scr ns, .int 11] S = .ok (.int (cell ns 11)) S) (c12 : ∀ fl S, F__law_cell fl [.scr ns, .int 12] S = .ok (.int (cell ns 12)) S) (c13 : ∀ fl S, F__law_cell fl [.scr ns, .int 13] S = .ok (.int (cell ns 13)) S) (c14 : ∀ fl S, F__law_cell fl [.scr ns, .int 14] S = .ok (.int (cell ns 14)) S) (c16 : ∀ fl S, F__law_cell fl [.scr ns, .int 16] S = .ok (.int (cell ns 16)) S) : ∃ f0 f1 f2 f3 f4 g0 g1 g2 g3 g4, ((Ln f0 ∧ Ln f1 ∧ Ln f2 ∧ Ln f3 ∧ Ln f4) ∧ Ln g0 ∧ Ln g1 ∧ Ln g2 ∧ Ln g3 ∧ Ln g4) ∧ ∀ tail : Env → Out,
    (sSeq (sSetV 3 (fun env => ((eComp (.nm 11) (iR1 (asCons (eC (.int 5)) asNil)) cYes E_law_3) env).map .list))
  (sSeq (sSetV 4 (fun env => ((eComp (.nm 11) (iR1 (asCons (eC (.int 5)) asNil)) cYes E_law_4) env).map .list))
  (sSeq (sIf fu (eB (e2 gEq (e2 gMod (e2 gDiv (pArgs 2 0 gApp (asCons (eVar 0) (asCons (eC (.int 16)) asNil)) asNil (pCall F__law_cell)) (eC (.int 4))) (eC (.int 4))) (eC (.int 1))))
  (sSeq (sSetV 3 (fun env => ((e2FF (eFit (asCons (eC (.int 268435455)) asNil)) (eC (.int 5))) env).map .list))
  (sSetV 4 (fun env => ((e2FF (eFit (asCons (eC (.int 268435455)) asNil)) (eC (.int 5))) env).map .list)))
  sNil)
  tail))) ⟨[.val (.scr ns), .val (.int P5), XL, .no, .no, .no, .no, .no, .no, .no, .no, .no, .no], [], 0⟩ = tail ⟨[.val (.scr ns), .val (.int P5), XL, .val (.list [.int f0, .int f1, .int f2, .int f3, .int f4]), .val (.list [.int g0, .int g1, .int g2, .int g3, .int g4]), .no, .no, .no, .no, .no, .no, .no, .no], [], 0⟩ := by
  have r5 : rng1 5 = .ok [.int 0, .int 1, .int 2, .int 3, .int 4] := rng1_of (by decide) (by decide)
  by_cases h1 : cell ns 16 / 4 % 4 = 1
  · have q1 : (cell ns 16 / 4 % 4 == 1) = true := by rw [h1]; rfl
    have rp : gRep (.list [.int 268435455]) (.int 5) = .ok [.int 268435455, .int 268435455, .int 268435455, .int 268435455, .int 268435455] := rfl
    refine ⟨268435455, 268435455, 268435455, 268435455, 268435455, 268435455, 268435455, 268435455, 268435455, 268435455, ⟨⟨⟨by omega, by omega⟩, ⟨by omega, by omega⟩, ⟨by omega, by omega⟩, ⟨by omega, by omega⟩, ⟨by omega, by omega⟩⟩, ⟨by omega, by omega⟩, ⟨by omega, by omega⟩, ⟨by omega, by omega⟩, ⟨by omega, by omega⟩, ⟨by omega, by omega⟩⟩, fun tail => ?_⟩
    clear h1
    unfold E_law_3 E_law_4
    walk_at "s"
    walk_at "s"
    walk_at "s"
    rfl
  · have q1 : (cell ns 16 / 4 % 4 == 1) = false := beq_false_of_ne h1
    refine ⟨cell ns 5 % 268435456, cell ns 6 % 268435456, cell ns 7 % 268435456, cell ns 8 % 268435456, cell ns 9 % 268435456, cell ns 10 % 268435456, cell ns 11 % 268435456, cell ns 12 % 268435456, cell ns 13 % 268435456, cell ns 14 % 268435456, ⟨⟨⟨by omega, by omega⟩, ⟨by omega, by omega⟩, ⟨by omega, by omega⟩, ⟨by omega, by omega⟩, ⟨by omega, by omega⟩⟩, ⟨by omega, by omega⟩, ⟨by omega, by omega⟩, ⟨by omega, by omega⟩, ⟨by omega, by omega⟩, ⟨by omega, by omega⟩⟩, fun tail => ?_⟩
    clear h1
    unfold E_law_3 E_law_4
    walk_at "s"
    walk_at "s"
    walk_at "s"
    rfl
@[irreducible] def W130 : Int := 1361129467683753853853498429727072845824
theorem w130 : e2 gShl (eC (.int 1)) (eC (.int 130)) = eC (.int W130) := by
  unfold W130
  rfl
theorem w130_eq : W130 = 1361129467683753853853498429727072845824 := by
  unfold W130
  rfl
theorem seg_c {ns : List Int} {P5 : Int} {y2 y3 y4 y5 y6 y7 y8 : Sl} (b14 : Builtin.Int.intBits (cell ns 14) ≤ 1048576) (b15 : Builtin.Int.intBits (cell ns 15) ≤ 1048576) (c14 : ∀ fl S, F__law_cell fl [.scr ns, .int 14] S = .ok (.int (cell ns 14)) S) (c15 : ∀ fl S, F__law_cell fl [.scr ns, .int 15] S = .ok (.int (cell ns 15)) S) (c16 : ∀ fl S, F__law_cell fl [.scr ns, .int 16] S = .ok (.int (cell ns 16)) S) : ∃ n, 0 ≤ n ∧ n ≤ 1361129467683753853853498429727072845823 ∧ ∀ tail : Env → Out,
    (sSeq (sSetV 9 (e2 gMod (e2 gMul (fun env => ((asCons (pArgs 2 0 gApp (asCons (eVar 0) (asCons (eC (.int 15)) asNil)) asNil (pCall F__law_cell)) asNil) env).bind gAbs) (fun env => ((asCons (pArgs 2 0 gApp (asCons (eVar 0) (asCons (eC (.int 14)) asNil)) asNil (pCall F__law_cell)) asNil) env).bind gAbs)) (e2 gShl (eC (.int 1)) (eC (.int 130)))))
  (sSeq (sIf fu (eB (e2 gEq (e2 gMod (e2 gDiv (pArgs 2 0 gApp (asCons (eVar 0) (asCons (eC (.int 16)) asNil)) asNil (pCall F__law_cell)) (eC (.int 16))) (eC (.int 3))) (eC (.int 1))))
  (sSetV 9 (e2 gSub (e2 gSub (e2 gShl (eC (.int 1)) (eC (.int 130))) (eC (.int 1))) (e2 gMod (eVar 9) (eC (.int 9)))))
  sNil)
  tail)) ⟨[.val (.scr ns), .val (.int P5), y2, y3, y4, y5, y6, y7, y8, .no, .no, .no, .no], [], 0⟩ = tail ⟨[.val (.scr ns), .val (.int P5), y2, y3, y4, y5, y6, y7, y8, .val (.int n), .no, .no, .no], [], 0⟩ := by
  rw [w130]
  obtain ⟨u, hu⟩ : ∃ u, (if cell ns 14 < 0 then -cell ns 14 else cell ns 14) = u := ⟨_, rfl⟩
  obtain ⟨v, hv⟩ : ∃ v, (if cell ns 15 < 0 then -cell ns 15 else cell ns 15) = v := ⟨_, rfl⟩
  have bu : Builtin.Int.intBits u ≤ 1048576 := by
    rw [← hu]
    split
    · exact Nat.le_trans (bits_le_of (by omega)) b14
    · exact b14
  have bv : Builtin.Int.intBits v ≤ 1048576 := by
    rw [← hv]
    split
    · exact Nat.le_trans (bits_le_of (by omega)) b15
    · exact b15
  have gm : gMul (.int v) (.int u) = .ok (.int (v * u)) := gMul_b (by omega)
  have wp : 0 < W130 := by
    rw [w130_eq]
    decide +kernel
  have gd := gMod_s (v * u) wp
  have n0 := Int.emod_nonneg (v * u) (Int.ne_of_gt wp)
  have n1 := Int.emod_lt_of_pos (v * u) wp
  have w2 := w130_eq
  generalize v * u % W130 = n at *
  by_cases h1 : cell ns 16 / 16 % 3 = 1
  · have q1 : (cell ns 16 / 16 % 3 == 1) = true := by rw [h1]; rfl
    refine ⟨W130 - 1 - n % 9, by omega, by omega, fun tail => ?_⟩
    clear h1 n0 n1 w2 wp bu bv b14 b15
    walk_at "s"
    walk_at "s"
    rfl
  · have q1 : (cell ns 16 / 16 % 3 == 1) = false := beq_false_of_ne h1
    refine ⟨n, n0, by omega, fun tail => ?_⟩
    clear h1 n0 n1 w2 wp bu bv b14 b15
    walk_at "s"
    walk_at "s"
    rfl
theorem turn_0 {f0 f1 f2 f3 f4 g0 g1 g2 g3 g4 : Int} {p00 : Int} (m00 : gMul (.int f0) (.int g0) = .ok (.int p00)) {p14 : Int} (m14 : gMul (.int f1) (.int g4) = .ok (.int p14)) {p23 : Int} (m23 : gMul (.int f2) (.int g3) = .ok (.int p23)) {p32 : Int} (m32 : gMul (.int f3) (.int g2) = .ok (.int p32)) {p41 : Int} (m41 : gMul (.int f4) (.int g1) = .ok (.int p41)) (m5 : gMul (.int 5) (.int (p14 + (p23 + (p32 + p41)))) = .ok (.int (5 * (p14 + (p23 + (p32 + p41)))))) {acc : List D} (hl : acc.length < 16777216) {h0 h1 h2 h5 h9 h10 h11 h12 y8 : Sl} {fl : Nat} {S : Store} : L_law_7 ⟨[h0, h1, h2, .val (.list [.int f0, .int f1, .int f2, .int f3, .int f4]), .val (.list [.int g0, .int g1, .int g2, .int g3, .int g4]), h5, .own acc, .val (.int 0), y8, h9, h10, h11, h12], S, fl⟩ = .nx ⟨[h0, h1, h2, .val (.list [.int f0, .int f1, .int f2, .int f3, .int f4]), .val (.list [.int g0, .int g1, .int g2, .int g3, .int g4]), h5, .own (acc ++ [.int (p00 + 5 * (p14 + (p23 + (p32 + p41))))]), .val (.int 0), .val (.int (p00)), h9, h10, h11, h12], S, fl⟩ := by
  obtain ⟨i0, i1, i2, i3, i4⟩ := ix5 (.int f0) (.int f1) (.int f2) (.int f3) (.int f4)
  obtain ⟨j0, j1, j2, j3, j4⟩ := ix5 (.int g0) (.int g1) (.int g2) (.int g3) (.int g4)
  have r1 : rng1 1 = .ok [.int 0] := rng1_of (by decide) (by decide)
  have r2 : rng2 1 5 = .ok [.int 1, .int 2, .int 3, .int 4] := rng2_of (by decide) (by decide) (by decide) (by decide)
  have s1 := sum_1
  have s2 := sum_4
  unfold L_law_7 E_law_5 E_law_6
  walk_at "s"
  walk_at "evh"
theorem turn_1 {f0 f1 f2 f3 f4 g0 g1 g2 g3 g4 : Int} {p01 : Int} (m01 : gMul (.int f0) (.int g1) = .ok (.int p01)) {p10 : Int} (m10 : gMul (.int f1) (.int g0) = .ok (.int p10)) {p24 : Int} (m24 : gMul (.int f2) (.int g4) = .ok (.int p24)) {p33 : Int} (m33 : gMul (.int f3) (.int g3) = .ok (.int p33)) {p42 : Int} (m42 : gMul (.int f4) (.int g2) = .ok (.int p42)) (m5 : gMul (.int 5) (.int (p24 + (p33 + p42))) = .ok (.int (5 * (p24 + (p33 + p42))))) {acc : List D} (hl : acc.length < 16777216) {h0 h1 h2 h5 h9 h10 h11 h12 y8 : Sl} {fl : Nat} {S : Store} : L_law_7 ⟨[h0, h1, h2, .val (.list [.int f0, .int f1, .int f2, .int f3, .int f4]), .val (.list [.int g0, .int g1, .int g2, .int g3, .int g4]), h5, .own acc, .val (.int 1), y8, h9, h10, h11, h12], S, fl⟩ = .nx ⟨[h0, h1, h2, .val (.list [.int f0, .int f1, .int f2, .int f3, .int f4]), .val (.list [.int g0, .int g1, .int g2, .int g3, .int g4]), h5, .own (acc ++ [.int (p01 + p10 + 5 * (p24 + (p33 + p42)))]), .val (.int 1), .val (.int (p01 + p10)), h9, h10, h11, h12], S, fl⟩ := by
  obtain ⟨i0, i1, i2, i3, i4⟩ := ix5 (.int f0) (.int f1) (.int f2) (.int f3) (.int f4)
  obtain ⟨j0, j1, j2, j3, j4⟩ := ix5 (.int g0) (.int g1) (.int g2) (.int g3) (.int g4)
  have r1 : rng1 2 = .ok [.int 0, .int 1] := rng1_of (by decide) (by decide)
  have r2 : rng2 2 5 = .ok [.int 2, .int 3, .int 4] := rng2_of (by decide) (by decide) (by decide) (by decide)
  have s1 := sum_2
  have s2 := sum_3
  unfold L_law_7 E_law_5 E_law_6
  walk_at "s"
  walk_at "evh"
theorem turn_2 {f0 f1 f2 f3 f4 g0 g1 g2 g3 g4 : Int} {p02 : Int} (m02 : gMul (.int f0) (.int g2) = .ok (.int p02)) {p11 : Int} (m11 : gMul (.int f1) (.int g1) = .ok (.int p11)) {p20 : Int} (m20 : gMul (.int f2) (.int g0) = .ok (.int p20)) {p34 : Int} (m34 : gMul (.int f3) (.int g4) = .ok (.int p34)) {p43 : Int} (m43 : gMul (.int f4) (.int g3) = .ok (.int p43)) (m5 : gMul (.int 5) (.int (p34 + p43)) = .ok (.int (5 * (p34 + p43)))) {acc : List D} (hl : acc.length < 16777216) {h0 h1 h2 h5 h9 h10 h11 h12 y8 : Sl} {fl : Nat} {S : Store} : L_law_7 ⟨[h0, h1, h2, .val (.list [.int f0, .int f1, .int f2, .int f3, .int f4]), .val (.list [.int g0, .int g1, .int g2, .int g3, .int g4]), h5, .own acc, .val (.int 2), y8, h9, h10, h11, h12], S, fl⟩ = .nx ⟨[h0, h1, h2, .val (.list [.int f0, .int f1, .int f2, .int f3, .int f4]), .val (.list [.int g0, .int g1, .int g2, .int g3, .int g4]), h5, .own (acc ++ [.int (p02 + (p11 + p20) + 5 * (p34 + p43))]), .val (.int 2), .val (.int (p02 + (p11 + p20))), h9, h10, h11, h12], S, fl⟩ := by
  obtain ⟨i0, i1, i2, i3, i4⟩ := ix5 (.int f0) (.int f1) (.int f2) (.int f3) (.int f4)
  obtain ⟨j0, j1, j2, j3, j4⟩ := ix5 (.int g0) (.int g1) (.int g2) (.int g3) (.int g4)
  have r1 : rng1 3 = .ok [.int 0, .int 1, .int 2] := rng1_of (by decide) (by decide)
  have r2 : rng2 3 5 = .ok [.int 3, .int 4] := rng2_of (by decide) (by decide) (by decide) (by decide)
  have s1 := sum_3
  have s2 := sum_2
  unfold L_law_7 E_law_5 E_law_6
  walk_at "s"
  walk_at "evh"
theorem turn_3 {f0 f1 f2 f3 f4 g0 g1 g2 g3 g4 : Int} {p03 : Int} (m03 : gMul (.int f0) (.int g3) = .ok (.int p03)) {p12 : Int} (m12 : gMul (.int f1) (.int g2) = .ok (.int p12)) {p21 : Int} (m21 : gMul (.int f2) (.int g1) = .ok (.int p21)) {p30 : Int} (m30 : gMul (.int f3) (.int g0) = .ok (.int p30)) {p44 : Int} (m44 : gMul (.int f4) (.int g4) = .ok (.int p44)) (m5 : gMul (.int 5) (.int (p44)) = .ok (.int (5 * (p44)))) {acc : List D} (hl : acc.length < 16777216) {h0 h1 h2 h5 h9 h10 h11 h12 y8 : Sl} {fl : Nat} {S : Store} : L_law_7 ⟨[h0, h1, h2, .val (.list [.int f0, .int f1, .int f2, .int f3, .int f4]), .val (.list [.int g0, .int g1, .int g2, .int g3, .int g4]), h5, .own acc, .val (.int 3), y8, h9, h10, h11, h12], S, fl⟩ = .nx ⟨[h0, h1, h2, .val (.list [.int f0, .int f1, .int f2, .int f3, .int f4]), .val (.list [.int g0, .int g1, .int g2, .int g3, .int g4]), h5, .own (acc ++ [.int (p03 + (p12 + (p21 + p30)) + 5 * (p44))]), .val (.int 3), .val (.int (p03 + (p12 + (p21 + p30)))), h9, h10, h11, h12], S, fl⟩ := by
  obtain ⟨i0, i1, i2, i3, i4⟩ := ix5 (.int f0) (.int f1) (.int f2) (.int f3) (.int f4)
  obtain ⟨j0, j1, j2, j3, j4⟩ := ix5 (.int g0) (.int g1) (.int g2) (.int g3) (.int g4)
  have r1 : rng1 4 = .ok [.int 0, .int 1, .int 2, .int 3] := rng1_of (by decide) (by decide)
  have r2 : rng2 4 5 = .ok [.int 4] := rng2_of (by decide) (by decide) (by decide) (by decide)
  have s1 := sum_4
  have s2 := sum_1
  unfold L_law_7 E_law_5 E_law_6
  walk_at "s"
  walk_at "evh"
theorem turn_4 {f0 f1 f2 f3 f4 g0 g1 g2 g3 g4 : Int} {p04 : Int} (m04 : gMul (.int f0) (.int g4) = .ok (.int p04)) {p13 : Int} (m13 : gMul (.int f1) (.int g3) = .ok (.int p13)) {p22 : Int} (m22 : gMul (.int f2) (.int g2) = .ok (.int p22)) {p31 : Int} (m31 : gMul (.int f3) (.int g1) = .ok (.int p31)) {p40 : Int} (m40 : gMul (.int f4) (.int g0) = .ok (.int p40))  {acc : List D} (hl : acc.length < 16777216) {h0 h1 h2 h5 h9 h10 h11 h12 y8 : Sl} {fl : Nat} {S : Store} : L_law_7 ⟨[h0, h1, h2, .val (.list [.int f0, .int f1, .int f2, .int f3, .int f4]), .val (.list [.int g0, .int g1, .int g2, .int g3, .int g4]), h5, .own acc, .val (.int 4), y8, h9, h10, h11, h12], S, fl⟩ = .nx ⟨[h0, h1, h2, .val (.list [.int f0, .int f1, .int f2, .int f3, .int f4]), .val (.list [.int g0, .int g1, .int g2, .int g3, .int g4]), h5, .own (acc ++ [.int (p04 + (p13 + (p22 + (p31 + p40))) + 0)]), .val (.int 4), .val (.int (p04 + (p13 + (p22 + (p31 + p40))))), h9, h10, h11, h12], S, fl⟩ := by
  obtain ⟨i0, i1, i2, i3, i4⟩ := ix5 (.int f0) (.int f1) (.int f2) (.int f3) (.int f4)
  obtain ⟨j0, j1, j2, j3, j4⟩ := ix5 (.int g0) (.int g1) (.int g2) (.int g3) (.int g4)
  have r1 : rng1 5 = .ok [.int 0, .int 1, .int 2, .int 3, .int 4] := rng1_of (by decide) (by decide)
  have r2 : rng2 5 5 = .ok [] := rng2_of (by decide) (by decide) (by decide) (by decide)
  have s1 := sum_5
  have s2 := sum_0
  unfold L_law_7 E_law_5 E_law_6
  walk_at "s"
  walk_at "evh"
theorem law_walk {ns : List Int} {P5 n x0 x1 x2 x3 x4 f0 f1 f2 f3 f4 g0 g1 g2 g3 g4 r0 r1 r2 r3 r4 s0 s1 s2 s3 s4 t0 t1 t2 t3 t4 vr vf vg vp vm vx : Int} {y7 y8 : Sl} (hp : e2 gSub (e2 gShl (eC (.int 1)) (eC (.int 130))) (eC (.int 5)) = eC (.int P5))
    (sa : ∀ tail : Env → Out, (sSeq (sSetV 2 (fun env => ((eComp (.nm 11) (iR1 (asCons (eC (.int 5)) asNil)) cYes E_law_1) env).map .list))
  (sSeq (sIf fu (eB (e2 gEq (e2 gMod (pArgs 2 0 gApp (asCons (eVar 0) (asCons (eC (.int 16)) asNil)) asNil (pCall F__law_cell)) (eC (.int 4))) (eC (.int 1))))
  (sSetV 2 (fun env => ((eComp (.nm 11) (iR1 (asCons (eC (.int 5)) asNil)) cYes E_law_2) env).map .list))
  sNil)
  (sSeq (sIf fu (eB (e2 gEq (e2 gMod (pArgs 2 0 gApp (asCons (eVar 0) (asCons (eC (.int 16)) asNil)) asNil (pCall F__law_cell)) (eC (.int 4))) (eC (.int 2))))
  (sSetV 2 (fun env => ((eFit (asCons (e2 gAdd (eC (.int 67108859)) (e2 gMod (pArgs 2 0 gApp (asCons (eVar 0) (asCons (eC (.int 0)) asNil)) asNil (pCall F__law_cell)) (eC (.int 10)))) (asCons (eC (.int 67108863)) (asCons (eC (.int 67108863)) (asCons (eC (.int 67108863)) (asCons (eC (.int 67108863)) asNil)))))) env).map .list))
  sNil)
  tail))) ⟨[.val (.scr ns), .val (.int P5), .no, .no, .no, .no, .no, .no, .no, .no, .no, .no, .no], [], 0⟩ = tail ⟨[.val (.scr ns), .val (.int P5), .val (.list [.int x0, .int x1, .int x2, .int x3, .int x4]), .no, .no, .no, .no, .no, .no, .no, .no, .no, .no], [], 0⟩) (ca : ∀ fl S, F__law_carried fl [.list [.int x0, .int x1, .int x2, .int x3, .int x4]] S = .ok (.bool true) S)
    (sb : ∀ tail : Env → Out, (sSeq (sSetV 3 (fun env => ((eComp (.nm 11) (iR1 (asCons (eC (.int 5)) asNil)) cYes E_law_3) env).map .list))
  (sSeq (sSetV 4 (fun env => ((eComp (.nm 11) (iR1 (asCons (eC (.int 5)) asNil)) cYes E_law_4) env).map .list))
  (sSeq (sIf fu (eB (e2 gEq (e2 gMod (e2 gDiv (pArgs 2 0 gApp (asCons (eVar 0) (asCons (eC (.int 16)) asNil)) asNil (pCall F__law_cell)) (eC (.int 4))) (eC (.int 4))) (eC (.int 1))))
  (sSeq (sSetV 3 (fun env => ((e2FF (eFit (asCons (eC (.int 268435455)) asNil)) (eC (.int 5))) env).map .list))
  (sSetV 4 (fun env => ((e2FF (eFit (asCons (eC (.int 268435455)) asNil)) (eC (.int 5))) env).map .list)))
  sNil)
  tail))) ⟨[.val (.scr ns), .val (.int P5), .val (.list [.int x0, .int x1, .int x2, .int x3, .int x4]), .no, .no, .no, .no, .no, .no, .no, .no, .no, .no], [], 0⟩ = tail ⟨[.val (.scr ns), .val (.int P5), .val (.list [.int x0, .int x1, .int x2, .int x3, .int x4]), .val (.list [.int f0, .int f1, .int f2, .int f3, .int f4]), .val (.list [.int g0, .int g1, .int g2, .int g3, .int g4]), .no, .no, .no, .no, .no, .no, .no, .no], [], 0⟩) (mu : ∀ fl S, F_multiply_limbs fl [.list [.int f0, .int f1, .int f2, .int f3, .int f4], .list [.int g0, .int g1, .int g2, .int g3, .int g4]] S = .ok (.list [.int r0, .int r1, .int r2, .int r3, .int r4]) S)
    (lo : loopF (.nm 7) L_law_7 [.int 0, .int 1, .int 2, .int 3, .int 4] ⟨[.val (.scr ns), .val (.int P5), .val (.list [.int x0, .int x1, .int x2, .int x3, .int x4]), .val (.list [.int f0, .int f1, .int f2, .int f3, .int f4]), .val (.list [.int g0, .int g1, .int g2, .int g3, .int g4]), .val (.list [.int r0, .int r1, .int r2, .int r3, .int r4]), .own [], .no, .no, .no, .no, .no, .no], [], 0⟩ = .nx ⟨[.val (.scr ns), .val (.int P5), .val (.list [.int x0, .int x1, .int x2, .int x3, .int x4]), .val (.list [.int f0, .int f1, .int f2, .int f3, .int f4]), .val (.list [.int g0, .int g1, .int g2, .int g3, .int g4]), .val (.list [.int r0, .int r1, .int r2, .int r3, .int r4]), .own [.int s0, .int s1, .int s2, .int s3, .int s4], y7, y8, .no, .no, .no, .no], [], 0⟩) (lc : ∀ fl S, F__law_carry fl [.list [.int s0, .int s1, .int s2, .int s3, .int s4]] S = .ok (.list [.int r0, .int r1, .int r2, .int r3, .int r4]) S) (il : ∀ a b c d e fl S, F__law_is_list fl [.list [.int a, .int b, .int c, .int d, .int e], .list [.int a, .int b, .int c, .int d, .int e]] S = .ok (.bool true) S) (sm : ∀ fl S, F__law_small fl [.list [.int r0, .int r1, .int r2, .int r3, .int r4]] S = .ok (.bool true) S)
    (wr : ∀ fl S, F__law_value fl [.list [.int r0, .int r1, .int r2, .int r3, .int r4]] S = .ok (.int vr) S) (wf : ∀ fl S, F__law_value fl [.list [.int f0, .int f1, .int f2, .int f3, .int f4]] S = .ok (.int vf) S) (wg : ∀ fl S, F__law_value fl [.list [.int g0, .int g1, .int g2, .int g3, .int g4]] S = .ok (.int vg) S) (gp : gMul (.int vf) (.int vg) = .ok (.int vp)) (m1 : gMod (.int vr) (.int P5) = .ok (.int vm)) (m2 : gMod (.int vp) (.int P5) = .ok (.int vm))
    (sc : ∀ tail : Env → Out, (sSeq (sSetV 9 (e2 gMod (e2 gMul (fun env => ((asCons (pArgs 2 0 gApp (asCons (eVar 0) (asCons (eC (.int 15)) asNil)) asNil (pCall F__law_cell)) asNil) env).bind gAbs) (fun env => ((asCons (pArgs 2 0 gApp (asCons (eVar 0) (asCons (eC (.int 14)) asNil)) asNil (pCall F__law_cell)) asNil) env).bind gAbs)) (e2 gShl (eC (.int 1)) (eC (.int 130)))))
  (sSeq (sIf fu (eB (e2 gEq (e2 gMod (e2 gDiv (pArgs 2 0 gApp (asCons (eVar 0) (asCons (eC (.int 16)) asNil)) asNil (pCall F__law_cell)) (eC (.int 16))) (eC (.int 3))) (eC (.int 1))))
  (sSetV 9 (e2 gSub (e2 gSub (e2 gShl (eC (.int 1)) (eC (.int 130))) (eC (.int 1))) (e2 gMod (eVar 9) (eC (.int 9)))))
  sNil)
  tail)) ⟨[.val (.scr ns), .val (.int P5), .val (.list [.int x0, .int x1, .int x2, .int x3, .int x4]), .val (.list [.int f0, .int f1, .int f2, .int f3, .int f4]), .val (.list [.int g0, .int g1, .int g2, .int g3, .int g4]), .val (.list [.int r0, .int r1, .int r2, .int r3, .int r4]), .own [.int s0, .int s1, .int s2, .int s3, .int s4], y7, y8, .no, .no, .no, .no], [], 0⟩ = tail ⟨[.val (.scr ns), .val (.int P5), .val (.list [.int x0, .int x1, .int x2, .int x3, .int x4]), .val (.list [.int f0, .int f1, .int f2, .int f3, .int f4]), .val (.list [.int g0, .int g1, .int g2, .int g3, .int g4]), .val (.list [.int r0, .int r1, .int r2, .int r3, .int r4]), .own [.int s0, .int s1, .int s2, .int s3, .int s4], y7, y8, .val (.int n), .no, .no, .no], [], 0⟩) (tl' : ∀ fl S, F_to_limbs fl [.int n] S = .ok (.list [.int t0, .int t1, .int t2, .int t3, .int t4]) S) (e80 : E_law_8 ⟨[.val (.scr ns), .val (.int P5), .val (.list [.int x0, .int x1, .int x2, .int x3, .int x4]), .val (.list [.int f0, .int f1, .int f2, .int f3, .int f4]), .val (.list [.int g0, .int g1, .int g2, .int g3, .int g4]), .val (.list [.int r0, .int r1, .int r2, .int r3, .int r4]), .val (.list [.int s0, .int s1, .int s2, .int s3, .int s4]), y7.fz, y8.fz, .val (.int n), .val (.list [.int t0, .int t1, .int t2, .int t3, .int t4]), .val (.int 0), .no], [], 0⟩ = .ok (.int t0)) (e81 : E_law_8 ⟨[.val (.scr ns), .val (.int P5), .val (.list [.int x0, .int x1, .int x2, .int x3, .int x4]), .val (.list [.int f0, .int f1, .int f2, .int f3, .int f4]), .val (.list [.int g0, .int g1, .int g2, .int g3, .int g4]), .val (.list [.int r0, .int r1, .int r2, .int r3, .int r4]), .val (.list [.int s0, .int s1, .int s2, .int s3, .int s4]), y7.fz, y8.fz, .val (.int n), .val (.list [.int t0, .int t1, .int t2, .int t3, .int t4]), .val (.int 1), .no], [], 0⟩ = .ok (.int t1)) (e82 : E_law_8 ⟨[.val (.scr ns), .val (.int P5), .val (.list [.int x0, .int x1, .int x2, .int x3, .int x4]), .val (.list [.int f0, .int f1, .int f2, .int f3, .int f4]), .val (.list [.int g0, .int g1, .int g2, .int g3, .int g4]), .val (.list [.int r0, .int r1, .int r2, .int r3, .int r4]), .val (.list [.int s0, .int s1, .int s2, .int s3, .int s4]), y7.fz, y8.fz, .val (.int n), .val (.list [.int t0, .int t1, .int t2, .int t3, .int t4]), .val (.int 2), .no], [], 0⟩ = .ok (.int t2)) (e83 : E_law_8 ⟨[.val (.scr ns), .val (.int P5), .val (.list [.int x0, .int x1, .int x2, .int x3, .int x4]), .val (.list [.int f0, .int f1, .int f2, .int f3, .int f4]), .val (.list [.int g0, .int g1, .int g2, .int g3, .int g4]), .val (.list [.int r0, .int r1, .int r2, .int r3, .int r4]), .val (.list [.int s0, .int s1, .int s2, .int s3, .int s4]), y7.fz, y8.fz, .val (.int n), .val (.list [.int t0, .int t1, .int t2, .int t3, .int t4]), .val (.int 3), .no], [], 0⟩ = .ok (.int t3)) (e84 : E_law_8 ⟨[.val (.scr ns), .val (.int P5), .val (.list [.int x0, .int x1, .int x2, .int x3, .int x4]), .val (.list [.int f0, .int f1, .int f2, .int f3, .int f4]), .val (.list [.int g0, .int g1, .int g2, .int g3, .int g4]), .val (.list [.int r0, .int r1, .int r2, .int r3, .int r4]), .val (.list [.int s0, .int s1, .int s2, .int s3, .int s4]), y7.fz, y8.fz, .val (.int n), .val (.list [.int t0, .int t1, .int t2, .int t3, .int t4]), .val (.int 4), .no], [], 0⟩ = .ok (.int t4)) (ie : ∀ i fl S, F__law_integer fl [.int i] S = .ok (.bool true) S) (fr : ∀ fl S, F_from_limbs fl [.list [.int t0, .int t1, .int t2, .int t3, .int t4]] S = .ok (.int n) S) (fx : ∀ fl S, F_from_limbs fl [.list [.int x0, .int x1, .int x2, .int x3, .int x4]] S = .ok (.int vx) S) (vx' : ∀ fl S, F__law_value fl [.list [.int x0, .int x1, .int x2, .int x3, .int x4]] S = .ok (.int vx) S)
    (ct : cutD [.int x0, .int x1, .int x2, .int x3, .int x4] none (some 4) = [.int x0, .int x1, .int x2, .int x3]) (rf1 : ∀ fl S, F__law_refused fl [.list [.int x0, .int x1, .int x2, .int x3], .int (-1)] S = .ok (.bool true) S) (gc : gCat (.list [.int x0, .int x1, .int x2, .int x3, .int x4]) (.list [.int 0]) = .ok [.int x0, .int x1, .int x2, .int x3, .int x4, .int 0]) (rf2 : ∀ fl S, F__law_refused fl [.list [.int x0, .int x1, .int x2, .int x3, .int x4, .int 0], .int W130] S = .ok (.bool true) S) : F_law 0 [.scr ns] [] = .ok (.bool true) [] := by
  have r5 : rng1 5 = .ok [.int 0, .int 1, .int 2, .int 3, .int 4] := rng1_of (by decide) (by decide)
  show (B_law ⟨[.val (.scr ns), .no, .no, .no, .no, .no, .no, .no, .no, .no, .no, .no, .no], [], 0⟩).fin = _
  unfold B_law
  refine ssqf (e' := ⟨[.val (.scr ns), .val (.int P5), .no, .no, .no, .no, .no, .no, .no, .no, .no, .no, .no], [], 0⟩) (by
    rw [hp]
    walk_at "ev") ?_
  rw [sa]
  clear sa hp
  walk_at "s"
  rw [sb]
  clear sb ca
  walk_at "s"
  walk_at "s"
  walk_at "s"
  walk_at "s"
  walk_at "s"
  rw [sc]
  clear sc lo mu lc sm wr wf wg
  walk_at "s"
  walk_at "s"
  walk_at "s"
  rw [w130]
  walk_at "evh"
theorem e8_0 {n : Int} {h0 h1 h2 h3 h4 h5 h6 h7 h8 h10 h12 : Sl} {S : Store} {fl : Nat} : E_law_8 ⟨[h0, h1, h2, h3, h4, h5, h6, h7, h8, .val (.int n), h10, .val (.int 0), h12], S, fl⟩ = .ok (.int (dg n 0)) := by
  have d : gDiv (.int n) (.int 1) = .ok (.int (n / 1)) := by
    rw [gDiv_ii, if_pos ⟨by decide +kernel, by decide +kernel⟩]
  have ed : n / 1 % 67108864 = dg n 0 := rfl
  unfold E_law_8
  walk_at "evh"
theorem e8_1 {n : Int} {h0 h1 h2 h3 h4 h5 h6 h7 h8 h10 h12 : Sl} {S : Store} {fl : Nat} : E_law_8 ⟨[h0, h1, h2, h3, h4, h5, h6, h7, h8, .val (.int n), h10, .val (.int 1), h12], S, fl⟩ = .ok (.int (dg n 1)) := by
  have d : gDiv (.int n) (.int 67108864) = .ok (.int (n / 67108864)) := by
    rw [gDiv_ii, if_pos ⟨by decide +kernel, by decide +kernel⟩]
  have ed : n / 67108864 % 67108864 = dg n 1 := rfl
  unfold E_law_8
  walk_at "evh"
theorem e8_2 {n : Int} {h0 h1 h2 h3 h4 h5 h6 h7 h8 h10 h12 : Sl} {S : Store} {fl : Nat} : E_law_8 ⟨[h0, h1, h2, h3, h4, h5, h6, h7, h8, .val (.int n), h10, .val (.int 2), h12], S, fl⟩ = .ok (.int (dg n 2)) := by
  have d : gDiv (.int n) (.int 4503599627370496) = .ok (.int (n / 4503599627370496)) := by
    rw [gDiv_ii, if_pos ⟨by decide +kernel, by decide +kernel⟩]
  have ed : n / 4503599627370496 % 67108864 = dg n 2 := rfl
  unfold E_law_8
  walk_at "evh"
theorem e8_3 {n : Int} {h0 h1 h2 h3 h4 h5 h6 h7 h8 h10 h12 : Sl} {S : Store} {fl : Nat} : E_law_8 ⟨[h0, h1, h2, h3, h4, h5, h6, h7, h8, .val (.int n), h10, .val (.int 3), h12], S, fl⟩ = .ok (.int (dg n 3)) := by
  have d : gDiv (.int n) (.int 302231454903657293676544) = .ok (.int (n / 302231454903657293676544)) := by
    rw [gDiv_ii, if_pos ⟨by decide +kernel, by decide +kernel⟩]
  have ed : n / 302231454903657293676544 % 67108864 = dg n 3 := rfl
  unfold E_law_8
  walk_at "evh"
theorem e8_4 {n : Int} {h0 h1 h2 h3 h4 h5 h6 h7 h8 h10 h12 : Sl} {S : Store} {fl : Nat} : E_law_8 ⟨[h0, h1, h2, h3, h4, h5, h6, h7, h8, .val (.int n), h10, .val (.int 4), h12], S, fl⟩ = .ok (.int (dg n 4)) := by
  have d : gDiv (.int n) (.int 20282409603651670423947251286016) = .ok (.int (n / 20282409603651670423947251286016)) := by
    rw [gDiv_ii, if_pos ⟨by decide +kernel, by decide +kernel⟩]
  have ed : n / 20282409603651670423947251286016 % 67108864 = dg n 4 := rfl
  unfold E_law_8
  walk_at "evh"
theorem law_true (ns : List Int) (hns : ns.length ≤ 63) (hz : ∀ z ∈ ns, Builtin.Int.intBits z ≤ 1048576) : ∃ S, F_law 0 [.scr ns] [] = .ok (.bool true) S := by
  have c0 : ∀ fl S, F__law_cell fl [.scr ns, .int 0] S = .ok (.int (cell ns 0)) S := fun fl S => cell_eq ns 0 (fl := fl) (S := S)
  have c1 : ∀ fl S, F__law_cell fl [.scr ns, .int 1] S = .ok (.int (cell ns 1)) S := fun fl S => cell_eq ns 1 (fl := fl) (S := S)
  have c2 : ∀ fl S, F__law_cell fl [.scr ns, .int 2] S = .ok (.int (cell ns 2)) S := fun fl S => cell_eq ns 2 (fl := fl) (S := S)
  have c3 : ∀ fl S, F__law_cell fl [.scr ns, .int 3] S = .ok (.int (cell ns 3)) S := fun fl S => cell_eq ns 3 (fl := fl) (S := S)
  have c4 : ∀ fl S, F__law_cell fl [.scr ns, .int 4] S = .ok (.int (cell ns 4)) S := fun fl S => cell_eq ns 4 (fl := fl) (S := S)
  have c5 : ∀ fl S, F__law_cell fl [.scr ns, .int 5] S = .ok (.int (cell ns 5)) S := fun fl S => cell_eq ns 5 (fl := fl) (S := S)
  have c6 : ∀ fl S, F__law_cell fl [.scr ns, .int 6] S = .ok (.int (cell ns 6)) S := fun fl S => cell_eq ns 6 (fl := fl) (S := S)
  have c7 : ∀ fl S, F__law_cell fl [.scr ns, .int 7] S = .ok (.int (cell ns 7)) S := fun fl S => cell_eq ns 7 (fl := fl) (S := S)
  have c8 : ∀ fl S, F__law_cell fl [.scr ns, .int 8] S = .ok (.int (cell ns 8)) S := fun fl S => cell_eq ns 8 (fl := fl) (S := S)
  have c9 : ∀ fl S, F__law_cell fl [.scr ns, .int 9] S = .ok (.int (cell ns 9)) S := fun fl S => cell_eq ns 9 (fl := fl) (S := S)
  have c10 : ∀ fl S, F__law_cell fl [.scr ns, .int 10] S = .ok (.int (cell ns 10)) S := fun fl S => cell_eq ns 10 (fl := fl) (S := S)
  have c11 : ∀ fl S, F__law_cell fl [.scr ns, .int 11] S = .ok (.int (cell ns 11)) S := fun fl S => cell_eq ns 11 (fl := fl) (S := S)
  have c12 : ∀ fl S, F__law_cell fl [.scr ns, .int 12] S = .ok (.int (cell ns 12)) S := fun fl S => cell_eq ns 12 (fl := fl) (S := S)
  have c13 : ∀ fl S, F__law_cell fl [.scr ns, .int 13] S = .ok (.int (cell ns 13)) S := fun fl S => cell_eq ns 13 (fl := fl) (S := S)
  have c14 : ∀ fl S, F__law_cell fl [.scr ns, .int 14] S = .ok (.int (cell ns 14)) S := fun fl S => cell_eq ns 14 (fl := fl) (S := S)
  have c15 : ∀ fl S, F__law_cell fl [.scr ns, .int 15] S = .ok (.int (cell ns 15)) S := fun fl S => cell_eq ns 15 (fl := fl) (S := S)
  have c16 : ∀ fl S, F__law_cell fl [.scr ns, .int 16] S = .ok (.int (cell ns 16)) S := fun fl S => cell_eq ns 16 (fl := fl) (S := S)
  obtain ⟨x0, x1, x2, x3, x4, ⟨a0, a1, a2, a3, a4⟩, sa⟩ := seg_a (P5 := 1361129467683753853853498429727072845819) c0 c1 c2 c3 c4 c16
  obtain ⟨f0, f1, f2, f3, f4, g0, g1, g2, g3, g4, ⟨⟨u0, u1, u2, u3, u4⟩, v0, v1, v2, v3, v4⟩, sb⟩ := seg_b (P5 := 1361129467683753853853498429727072845819) (XL := .val (.list [.int x0, .int x1, .int x2, .int x3, .int x4])) rfl c5 c6 c7 c8 c9 c10 c11 c12 c13 c14 c16
  have lo_of : ∀ {x : Int}, Ln x → Lm x := fun h => ⟨h.1, by have := h.2; omega⟩
  have gm : ∀ {x y : Int}, Ln x → Ln y → gMul (.int x) (.int y) = .ok (.int (x * y)) := fun h g => gMul_s (by have := h.1; omega) (by have := h.2; omega) (by have := g.1; omega) (by have := g.2; omega)
  have bd : ∀ {x y : Int}, Ln x → Ln y → 0 ≤ x * y ∧ x * y ≤ 72057594037927936 := fun h g => ⟨Int.mul_nonneg h.1 g.1, by
    have := Int.mul_le_mul h.2 g.2 g.1 (show (0 : Int) ≤ 268435455 by decide)
    omega⟩
  have ev := va_prod f0 f1 f2 f3 f4 g0 g1 g2 g3 g4
  have m00 := gm u0 v0
  have k00 := bd u0 v0
  have m01 := gm u0 v1
  have k01 := bd u0 v1
  have m02 := gm u0 v2
  have k02 := bd u0 v2
  have m03 := gm u0 v3
  have k03 := bd u0 v3
  have m04 := gm u0 v4
  have k04 := bd u0 v4
  have m10 := gm u1 v0
  have k10 := bd u1 v0
  have m11 := gm u1 v1
  have k11 := bd u1 v1
  have m12 := gm u1 v2
  have k12 := bd u1 v2
  have m13 := gm u1 v3
  have k13 := bd u1 v3
  have m14 := gm u1 v4
  have k14 := bd u1 v4
  have m20 := gm u2 v0
  have k20 := bd u2 v0
  have m21 := gm u2 v1
  have k21 := bd u2 v1
  have m22 := gm u2 v2
  have k22 := bd u2 v2
  have m23 := gm u2 v3
  have k23 := bd u2 v3
  have m24 := gm u2 v4
  have k24 := bd u2 v4
  have m30 := gm u3 v0
  have k30 := bd u3 v0
  have m31 := gm u3 v1
  have k31 := bd u3 v1
  have m32 := gm u3 v2
  have k32 := bd u3 v2
  have m33 := gm u3 v3
  have k33 := bd u3 v3
  have m34 := gm u3 v4
  have k34 := bd u3 v4
  have m40 := gm u4 v0
  have k40 := bd u4 v0
  have m41 := gm u4 v1
  have k41 := bd u4 v1
  have m42 := gm u4 v2
  have k42 := bd u4 v2
  have m43 := gm u4 v3
  have k43 := bd u4 v3
  have m44 := gm u4 v4
  have k44 := bd u4 v4
  generalize f0 * g0 = p00 at *
  generalize f0 * g1 = p01 at *
  generalize f0 * g2 = p02 at *
  generalize f0 * g3 = p03 at *
  generalize f0 * g4 = p04 at *
  generalize f1 * g0 = p10 at *
  generalize f1 * g1 = p11 at *
  generalize f1 * g2 = p12 at *
  generalize f1 * g3 = p13 at *
  generalize f1 * g4 = p14 at *
  generalize f2 * g0 = p20 at *
  generalize f2 * g1 = p21 at *
  generalize f2 * g2 = p22 at *
  generalize f2 * g3 = p23 at *
  generalize f2 * g4 = p24 at *
  generalize f3 * g0 = p30 at *
  generalize f3 * g1 = p31 at *
  generalize f3 * g2 = p32 at *
  generalize f3 * g3 = p33 at *
  generalize f3 * g4 = p34 at *
  generalize f4 * g0 = p40 at *
  generalize f4 * g1 = p41 at *
  generalize f4 * g2 = p42 at *
  generalize f4 * g3 = p43 at *
  generalize f4 * g4 = p44 at *
  obtain ⟨⟨l0, l1, l2, l3, l4⟩, _⟩ := multiply_eq m00 k00 m01 k01 m02 k02 m03 k03 m04 k04 m10 k10 m11 k11 m12 k12 m13 k13 m14 k14 m20 k20 m21 k21 m22 k22 m23 k23 m24 k24 m30 k30 m31 k31 m32 k32 m33 k33 m34 k34 m40 k40 m41 k41 m42 k42 m43 k43 m44 k44 (fl := 0) (S := [])
  have mu := fun fl S => (multiply_eq m00 k00 m01 k01 m02 k02 m03 k03 m04 k04 m10 k10 m11 k11 m12 k12 m13 k13 m14 k14 m20 k20 m21 k21 m22 k22 m23 k23 m24 k24 m30 k30 m31 k31 m32 k32 m33 k33 m34 k34 m40 k40 m41 k41 m42 k42 m43 k43 m44 k44 (fl := fl) (S := S)).2
  have q0 : gMul (.int 5) (.int (p14 + (p23 + (p32 + p41)))) = .ok (.int (5 * (p14 + (p23 + (p32 + p41))))) := gMul_s (by decide) (by decide) (by omega) (by omega)
  have q1 : gMul (.int 5) (.int (p24 + (p33 + p42))) = .ok (.int (5 * (p24 + (p33 + p42)))) := gMul_s (by decide) (by decide) (by omega) (by omega)
  have q2 : gMul (.int 5) (.int (p34 + p43)) = .ok (.int (5 * (p34 + p43))) := gMul_s (by decide) (by decide) (by omega) (by omega)
  have q3 : gMul (.int 5) (.int (p44)) = .ok (.int (5 * (p44))) := gMul_s (by decide) (by decide) (by omega) (by omega)
  have tn0 := fun y8 => turn_0 m00 m14 m23 m32 m41 q0 (acc := []) (by show 0 < 16777216; decide) (h0 := .val (.scr ns)) (h1 := .val (.int 1361129467683753853853498429727072845819)) (h2 := .val (.list [.int x0, .int x1, .int x2, .int x3, .int x4])) (h5 := .val (.list [.int (k0 (p00 + 5 * (p14 + (p23 + (p32 + p41)))) (p01 + p10 + 5 * (p24 + (p33 + p42))) (p02 + (p11 + p20) + 5 * (p34 + p43)) (p03 + (p12 + (p21 + p30)) + 5 * (p44)) (p04 + (p13 + (p22 + (p31 + p40))) + 0) % 67108864), .int (kB (p00 + 5 * (p14 + (p23 + (p32 + p41)))) (p01 + p10 + 5 * (p24 + (p33 + p42))) (p02 + (p11 + p20) + 5 * (p34 + p43)) (p03 + (p12 + (p21 + p30)) + 5 * (p44)) (p04 + (p13 + (p22 + (p31 + p40))) + 0)), .int (k2 (p00 + 5 * (p14 + (p23 + (p32 + p41)))) (p01 + p10 + 5 * (p24 + (p33 + p42))) (p02 + (p11 + p20) + 5 * (p34 + p43)) % 67108864), .int (k3 (p00 + 5 * (p14 + (p23 + (p32 + p41)))) (p01 + p10 + 5 * (p24 + (p33 + p42))) (p02 + (p11 + p20) + 5 * (p34 + p43)) (p03 + (p12 + (p21 + p30)) + 5 * (p44)) % 67108864), .int (k4 (p00 + 5 * (p14 + (p23 + (p32 + p41)))) (p01 + p10 + 5 * (p24 + (p33 + p42))) (p02 + (p11 + p20) + 5 * (p34 + p43)) (p03 + (p12 + (p21 + p30)) + 5 * (p44)) (p04 + (p13 + (p22 + (p31 + p40))) + 0) % 67108864)])) (h9 := .no) (h10 := .no) (h11 := .no) (h12 := .no) (y8 := y8) (fl := 0) (S := [])
  have tn1 := fun y8 => turn_1 m01 m10 m24 m33 m42 q1 (acc := [.int (p00 + 5 * (p14 + (p23 + (p32 + p41))))]) (by show 1 < 16777216; decide) (h0 := .val (.scr ns)) (h1 := .val (.int 1361129467683753853853498429727072845819)) (h2 := .val (.list [.int x0, .int x1, .int x2, .int x3, .int x4])) (h5 := .val (.list [.int (k0 (p00 + 5 * (p14 + (p23 + (p32 + p41)))) (p01 + p10 + 5 * (p24 + (p33 + p42))) (p02 + (p11 + p20) + 5 * (p34 + p43)) (p03 + (p12 + (p21 + p30)) + 5 * (p44)) (p04 + (p13 + (p22 + (p31 + p40))) + 0) % 67108864), .int (kB (p00 + 5 * (p14 + (p23 + (p32 + p41)))) (p01 + p10 + 5 * (p24 + (p33 + p42))) (p02 + (p11 + p20) + 5 * (p34 + p43)) (p03 + (p12 + (p21 + p30)) + 5 * (p44)) (p04 + (p13 + (p22 + (p31 + p40))) + 0)), .int (k2 (p00 + 5 * (p14 + (p23 + (p32 + p41)))) (p01 + p10 + 5 * (p24 + (p33 + p42))) (p02 + (p11 + p20) + 5 * (p34 + p43)) % 67108864), .int (k3 (p00 + 5 * (p14 + (p23 + (p32 + p41)))) (p01 + p10 + 5 * (p24 + (p33 + p42))) (p02 + (p11 + p20) + 5 * (p34 + p43)) (p03 + (p12 + (p21 + p30)) + 5 * (p44)) % 67108864), .int (k4 (p00 + 5 * (p14 + (p23 + (p32 + p41)))) (p01 + p10 + 5 * (p24 + (p33 + p42))) (p02 + (p11 + p20) + 5 * (p34 + p43)) (p03 + (p12 + (p21 + p30)) + 5 * (p44)) (p04 + (p13 + (p22 + (p31 + p40))) + 0) % 67108864)])) (h9 := .no) (h10 := .no) (h11 := .no) (h12 := .no) (y8 := y8) (fl := 0) (S := [])
  have tn2 := fun y8 => turn_2 m02 m11 m20 m34 m43 q2 (acc := [.int (p00 + 5 * (p14 + (p23 + (p32 + p41)))), .int (p01 + p10 + 5 * (p24 + (p33 + p42)))]) (by show 2 < 16777216; decide) (h0 := .val (.scr ns)) (h1 := .val (.int 1361129467683753853853498429727072845819)) (h2 := .val (.list [.int x0, .int x1, .int x2, .int x3, .int x4])) (h5 := .val (.list [.int (k0 (p00 + 5 * (p14 + (p23 + (p32 + p41)))) (p01 + p10 + 5 * (p24 + (p33 + p42))) (p02 + (p11 + p20) + 5 * (p34 + p43)) (p03 + (p12 + (p21 + p30)) + 5 * (p44)) (p04 + (p13 + (p22 + (p31 + p40))) + 0) % 67108864), .int (kB (p00 + 5 * (p14 + (p23 + (p32 + p41)))) (p01 + p10 + 5 * (p24 + (p33 + p42))) (p02 + (p11 + p20) + 5 * (p34 + p43)) (p03 + (p12 + (p21 + p30)) + 5 * (p44)) (p04 + (p13 + (p22 + (p31 + p40))) + 0)), .int (k2 (p00 + 5 * (p14 + (p23 + (p32 + p41)))) (p01 + p10 + 5 * (p24 + (p33 + p42))) (p02 + (p11 + p20) + 5 * (p34 + p43)) % 67108864), .int (k3 (p00 + 5 * (p14 + (p23 + (p32 + p41)))) (p01 + p10 + 5 * (p24 + (p33 + p42))) (p02 + (p11 + p20) + 5 * (p34 + p43)) (p03 + (p12 + (p21 + p30)) + 5 * (p44)) % 67108864), .int (k4 (p00 + 5 * (p14 + (p23 + (p32 + p41)))) (p01 + p10 + 5 * (p24 + (p33 + p42))) (p02 + (p11 + p20) + 5 * (p34 + p43)) (p03 + (p12 + (p21 + p30)) + 5 * (p44)) (p04 + (p13 + (p22 + (p31 + p40))) + 0) % 67108864)])) (h9 := .no) (h10 := .no) (h11 := .no) (h12 := .no) (y8 := y8) (fl := 0) (S := [])
  have tn3 := fun y8 => turn_3 m03 m12 m21 m30 m44 q3 (acc := [.int (p00 + 5 * (p14 + (p23 + (p32 + p41)))), .int (p01 + p10 + 5 * (p24 + (p33 + p42))), .int (p02 + (p11 + p20) + 5 * (p34 + p43))]) (by show 3 < 16777216; decide) (h0 := .val (.scr ns)) (h1 := .val (.int 1361129467683753853853498429727072845819)) (h2 := .val (.list [.int x0, .int x1, .int x2, .int x3, .int x4])) (h5 := .val (.list [.int (k0 (p00 + 5 * (p14 + (p23 + (p32 + p41)))) (p01 + p10 + 5 * (p24 + (p33 + p42))) (p02 + (p11 + p20) + 5 * (p34 + p43)) (p03 + (p12 + (p21 + p30)) + 5 * (p44)) (p04 + (p13 + (p22 + (p31 + p40))) + 0) % 67108864), .int (kB (p00 + 5 * (p14 + (p23 + (p32 + p41)))) (p01 + p10 + 5 * (p24 + (p33 + p42))) (p02 + (p11 + p20) + 5 * (p34 + p43)) (p03 + (p12 + (p21 + p30)) + 5 * (p44)) (p04 + (p13 + (p22 + (p31 + p40))) + 0)), .int (k2 (p00 + 5 * (p14 + (p23 + (p32 + p41)))) (p01 + p10 + 5 * (p24 + (p33 + p42))) (p02 + (p11 + p20) + 5 * (p34 + p43)) % 67108864), .int (k3 (p00 + 5 * (p14 + (p23 + (p32 + p41)))) (p01 + p10 + 5 * (p24 + (p33 + p42))) (p02 + (p11 + p20) + 5 * (p34 + p43)) (p03 + (p12 + (p21 + p30)) + 5 * (p44)) % 67108864), .int (k4 (p00 + 5 * (p14 + (p23 + (p32 + p41)))) (p01 + p10 + 5 * (p24 + (p33 + p42))) (p02 + (p11 + p20) + 5 * (p34 + p43)) (p03 + (p12 + (p21 + p30)) + 5 * (p44)) (p04 + (p13 + (p22 + (p31 + p40))) + 0) % 67108864)])) (h9 := .no) (h10 := .no) (h11 := .no) (h12 := .no) (y8 := y8) (fl := 0) (S := [])
  have tn4 := fun y8 => turn_4 m04 m13 m22 m31 m40  (acc := [.int (p00 + 5 * (p14 + (p23 + (p32 + p41)))), .int (p01 + p10 + 5 * (p24 + (p33 + p42))), .int (p02 + (p11 + p20) + 5 * (p34 + p43)), .int (p03 + (p12 + (p21 + p30)) + 5 * (p44))]) (by show 4 < 16777216; decide) (h0 := .val (.scr ns)) (h1 := .val (.int 1361129467683753853853498429727072845819)) (h2 := .val (.list [.int x0, .int x1, .int x2, .int x3, .int x4])) (h5 := .val (.list [.int (k0 (p00 + 5 * (p14 + (p23 + (p32 + p41)))) (p01 + p10 + 5 * (p24 + (p33 + p42))) (p02 + (p11 + p20) + 5 * (p34 + p43)) (p03 + (p12 + (p21 + p30)) + 5 * (p44)) (p04 + (p13 + (p22 + (p31 + p40))) + 0) % 67108864), .int (kB (p00 + 5 * (p14 + (p23 + (p32 + p41)))) (p01 + p10 + 5 * (p24 + (p33 + p42))) (p02 + (p11 + p20) + 5 * (p34 + p43)) (p03 + (p12 + (p21 + p30)) + 5 * (p44)) (p04 + (p13 + (p22 + (p31 + p40))) + 0)), .int (k2 (p00 + 5 * (p14 + (p23 + (p32 + p41)))) (p01 + p10 + 5 * (p24 + (p33 + p42))) (p02 + (p11 + p20) + 5 * (p34 + p43)) % 67108864), .int (k3 (p00 + 5 * (p14 + (p23 + (p32 + p41)))) (p01 + p10 + 5 * (p24 + (p33 + p42))) (p02 + (p11 + p20) + 5 * (p34 + p43)) (p03 + (p12 + (p21 + p30)) + 5 * (p44)) % 67108864), .int (k4 (p00 + 5 * (p14 + (p23 + (p32 + p41)))) (p01 + p10 + 5 * (p24 + (p33 + p42))) (p02 + (p11 + p20) + 5 * (p34 + p43)) (p03 + (p12 + (p21 + p30)) + 5 * (p44)) (p04 + (p13 + (p22 + (p31 + p40))) + 0) % 67108864)])) (h9 := .no) (h10 := .no) (h11 := .no) (h12 := .no) (y8 := y8) (fl := 0) (S := [])
  have lo : loopF (.nm 7) L_law_7 [.int 0, .int 1, .int 2, .int 3, .int 4] ⟨[.val (.scr ns), .val (.int 1361129467683753853853498429727072845819), .val (.list [.int x0, .int x1, .int x2, .int x3, .int x4]), .val (.list [.int f0, .int f1, .int f2, .int f3, .int f4]), .val (.list [.int g0, .int g1, .int g2, .int g3, .int g4]), .val (.list [.int (k0 (p00 + 5 * (p14 + (p23 + (p32 + p41)))) (p01 + p10 + 5 * (p24 + (p33 + p42))) (p02 + (p11 + p20) + 5 * (p34 + p43)) (p03 + (p12 + (p21 + p30)) + 5 * (p44)) (p04 + (p13 + (p22 + (p31 + p40))) + 0) % 67108864), .int (kB (p00 + 5 * (p14 + (p23 + (p32 + p41)))) (p01 + p10 + 5 * (p24 + (p33 + p42))) (p02 + (p11 + p20) + 5 * (p34 + p43)) (p03 + (p12 + (p21 + p30)) + 5 * (p44)) (p04 + (p13 + (p22 + (p31 + p40))) + 0)), .int (k2 (p00 + 5 * (p14 + (p23 + (p32 + p41)))) (p01 + p10 + 5 * (p24 + (p33 + p42))) (p02 + (p11 + p20) + 5 * (p34 + p43)) % 67108864), .int (k3 (p00 + 5 * (p14 + (p23 + (p32 + p41)))) (p01 + p10 + 5 * (p24 + (p33 + p42))) (p02 + (p11 + p20) + 5 * (p34 + p43)) (p03 + (p12 + (p21 + p30)) + 5 * (p44)) % 67108864), .int (k4 (p00 + 5 * (p14 + (p23 + (p32 + p41)))) (p01 + p10 + 5 * (p24 + (p33 + p42))) (p02 + (p11 + p20) + 5 * (p34 + p43)) (p03 + (p12 + (p21 + p30)) + 5 * (p44)) (p04 + (p13 + (p22 + (p31 + p40))) + 0) % 67108864)]), .own [], .no, .no, .no, .no, .no, .no], [], 0⟩ = .nx ⟨[.val (.scr ns), .val (.int 1361129467683753853853498429727072845819), .val (.list [.int x0, .int x1, .int x2, .int x3, .int x4]), .val (.list [.int f0, .int f1, .int f2, .int f3, .int f4]), .val (.list [.int g0, .int g1, .int g2, .int g3, .int g4]), .val (.list [.int (k0 (p00 + 5 * (p14 + (p23 + (p32 + p41)))) (p01 + p10 + 5 * (p24 + (p33 + p42))) (p02 + (p11 + p20) + 5 * (p34 + p43)) (p03 + (p12 + (p21 + p30)) + 5 * (p44)) (p04 + (p13 + (p22 + (p31 + p40))) + 0) % 67108864), .int (kB (p00 + 5 * (p14 + (p23 + (p32 + p41)))) (p01 + p10 + 5 * (p24 + (p33 + p42))) (p02 + (p11 + p20) + 5 * (p34 + p43)) (p03 + (p12 + (p21 + p30)) + 5 * (p44)) (p04 + (p13 + (p22 + (p31 + p40))) + 0)), .int (k2 (p00 + 5 * (p14 + (p23 + (p32 + p41)))) (p01 + p10 + 5 * (p24 + (p33 + p42))) (p02 + (p11 + p20) + 5 * (p34 + p43)) % 67108864), .int (k3 (p00 + 5 * (p14 + (p23 + (p32 + p41)))) (p01 + p10 + 5 * (p24 + (p33 + p42))) (p02 + (p11 + p20) + 5 * (p34 + p43)) (p03 + (p12 + (p21 + p30)) + 5 * (p44)) % 67108864), .int (k4 (p00 + 5 * (p14 + (p23 + (p32 + p41)))) (p01 + p10 + 5 * (p24 + (p33 + p42))) (p02 + (p11 + p20) + 5 * (p34 + p43)) (p03 + (p12 + (p21 + p30)) + 5 * (p44)) (p04 + (p13 + (p22 + (p31 + p40))) + 0) % 67108864)]), .own [.int (p00 + 5 * (p14 + (p23 + (p32 + p41)))), .int (p01 + p10 + 5 * (p24 + (p33 + p42))), .int (p02 + (p11 + p20) + 5 * (p34 + p43)), .int (p03 + (p12 + (p21 + p30)) + 5 * (p44)), .int (p04 + (p13 + (p22 + (p31 + p40))) + 0)], .val (.int 4), .val (.int (p04 + (p13 + (p22 + (p31 + p40))))), .no, .no, .no, .no], [], 0⟩ := by
    clear sa sb gm bd lo_of ev mu c0 c1 c2 c3 c4 c5 c6 c7 c8 c9 c10 c11 c12 c13 c14 c15 c16
    walk_at "evh"
  obtain ⟨n, n0, n1, sc⟩ := seg_c (P5 := 1361129467683753853853498429727072845819) (y2 := .val (.list [.int x0, .int x1, .int x2, .int x3, .int x4])) (y3 := .val (.list [.int f0, .int f1, .int f2, .int f3, .int f4])) (y4 := .val (.list [.int g0, .int g1, .int g2, .int g3, .int g4])) (y5 := .val (.list [.int (k0 (p00 + 5 * (p14 + (p23 + (p32 + p41)))) (p01 + p10 + 5 * (p24 + (p33 + p42))) (p02 + (p11 + p20) + 5 * (p34 + p43)) (p03 + (p12 + (p21 + p30)) + 5 * (p44)) (p04 + (p13 + (p22 + (p31 + p40))) + 0) % 67108864), .int (kB (p00 + 5 * (p14 + (p23 + (p32 + p41)))) (p01 + p10 + 5 * (p24 + (p33 + p42))) (p02 + (p11 + p20) + 5 * (p34 + p43)) (p03 + (p12 + (p21 + p30)) + 5 * (p44)) (p04 + (p13 + (p22 + (p31 + p40))) + 0)), .int (k2 (p00 + 5 * (p14 + (p23 + (p32 + p41)))) (p01 + p10 + 5 * (p24 + (p33 + p42))) (p02 + (p11 + p20) + 5 * (p34 + p43)) % 67108864), .int (k3 (p00 + 5 * (p14 + (p23 + (p32 + p41)))) (p01 + p10 + 5 * (p24 + (p33 + p42))) (p02 + (p11 + p20) + 5 * (p34 + p43)) (p03 + (p12 + (p21 + p30)) + 5 * (p44)) % 67108864), .int (k4 (p00 + 5 * (p14 + (p23 + (p32 + p41)))) (p01 + p10 + 5 * (p24 + (p33 + p42))) (p02 + (p11 + p20) + 5 * (p34 + p43)) (p03 + (p12 + (p21 + p30)) + 5 * (p44)) (p04 + (p13 + (p22 + (p31 + p40))) + 0) % 67108864)])) (y6 := .own [.int (p00 + 5 * (p14 + (p23 + (p32 + p41)))), .int (p01 + p10 + 5 * (p24 + (p33 + p42))), .int (p02 + (p11 + p20) + 5 * (p34 + p43)), .int (p03 + (p12 + (p21 + p30)) + 5 * (p44)), .int (p04 + (p13 + (p22 + (p31 + p40))) + 0)]) (y7 := .val (.int 4)) (y8 := .val (.int (p04 + (p13 + (p22 + (p31 + p40)))))) (cell_bits hz 14) (cell_bits hz 15) c14 c15 c16
  obtain ⟨s0, s1, s2, s3, s4⟩ := carry_small l0 l1 l2 l3 l4
  have cv := carry_val (p00 + 5 * (p14 + (p23 + (p32 + p41)))) (p01 + p10 + 5 * (p24 + (p33 + p42))) (p02 + (p11 + p20) + 5 * (p34 + p43)) (p03 + (p12 + (p21 + p30)) + 5 * (p44)) (p04 + (p13 + (p22 + (p31 + p40))) + 0)
  rw [va_raw, ← ev] at cv
  have lcr := fun fl S => law_carry_eq l0 l1 l2 l3 l4 (fl := fl) (S := S)
  have dgl : ∀ k, Lm (dg n k) := fun k => by
    unfold dg Lm
    omega
  have dge : va (dg n 0) (dg n 1) (dg n 2) (dg n 3) (dg n 4) = n := dg_sum n0 n1
  have bvf : ∀ {a b c d e : Int}, Ln a → Ln b → Ln c → Ln d → Ln e → Builtin.Int.intBits (va a b c d e) ≤ 150 := fun h0 h1 h2 h3 h4 => bits_le_iff.mpr (by
    unfold va Ln at *
    omega)
  refine ⟨[], law_walk (P5 := 1361129467683753853853498429727072845819) (n := n) rfl sa (fun fl S => carried_eq a0 a1 a2 a3 a4) sb mu lo lcr (fun a b c d e fl S => is_list_eq a b c d e) (fun fl S => small_eq s0 s1 s2 s3 s4) (fun fl S => value_eq ⟨s0.1, by omega⟩ ⟨s1.1, by omega⟩ ⟨s2.1, by omega⟩ ⟨s3.1, by omega⟩ ⟨s4.1, by omega⟩) (fun fl S => value_eq (lo_of u0) (lo_of u1) (lo_of u2) (lo_of u3) (lo_of u4)) (fun fl S => value_eq (lo_of v0) (lo_of v1) (lo_of v2) (lo_of v3) (lo_of v4)) (gMul_b (by have := bvf u0 u1 u2 u3 u4; have := bvf v0 v1 v2 v3 v4; omega)) ?_ (gMod_s _ (by decide +kernel)) sc (fun fl S => to_limbs_eq n0 n1) e8_0 e8_1 e8_2 e8_3 e8_4 (fun i fl S => integer_eq i) (fun fl S => ?_) (fun fl S => from_limbs_eq a0 a1 a2 a3 a4) (fun fl S => value_eq a0 a1 a2 a3 a4) rfl (fun fl S => refused_walk (bs := [x0, x1, x2, x3]) (by show 4 ≠ 5; decide) (by omega)) rfl (fun fl S => refused_walk (bs := [x0, x1, x2, x3, x4, 0]) (by show 6 ≠ 5; decide) (by rw [w130_eq]; omega))⟩
  · rw [gMod_s _ (by decide +kernel), cv]
    congr 2
    omega
  · rw [from_limbs_eq (dgl 0) (dgl 1) (dgl 2) (dgl 3) (dgl 4), dge]

end L2.FO.K25

set_option Elab.async false
set_option maxRecDepth 100000
open PySem PySem.W PyProof.Rows
set_option maxHeartbeats 0 in
theorem PySem.Challenge.cw_hushlink_k25_limbs_holds : PySem.Challenge.rw_hushlink_k25_limbs.Holds := by
  w_on; o_law; k_head; (case hw => w_witness2)
  k_fill
  refine L2.walk_ofB (l := PySem.Challenge.rw_hushlink_k25_limbs) (n := 63) (k := 5) (x := "script") (CX := fun w => L2.CX PySem.Challenge.rw_hushlink_k25_limbs.prog w) (sp := fun w => L2.FO.spLaw _) rfl (by decide) rfl ⟨rfl, by decide, by decide⟩ (fun w h Y => PySem.W.kIn_of Y) ?F (fun _ _ a ns hl hb _ hS => ⟨a, ns, rfl, hS, hl, hb, fun _ => rfl⟩) (fun _ _ _ _ _ h => L2.FO.cx_never h)
  case F =>
    intro w mg fa h KX G hmg
    refine' L2.FO.K25.all_mk KX G hmg ?a_HushError ?x_HushError ?k_HushError ?b_HushError ?t_HushError ?ga_HushError ?gg_HushError ?hd_HushError ?cl_HushError ?mr_HushError ?a_OutOfRange ?x_OutOfRange ?k_OutOfRange ?b_OutOfRange ?t_OutOfRange ?ga_OutOfRange ?gg_OutOfRange ?hd_OutOfRange ?cl_OutOfRange ?mr_OutOfRange ?s_HushError_HushError ?s_HushError_OutOfRange ?s_OutOfRange_HushError ?s_OutOfRange_OutOfRange ?sp_c ?tk_c ?a_need_length ?l_need_length ?c_need_length ?k_need_length ?a_need_range ?l_need_range ?c_need_range ?k_need_range ?a_to_limbs ?l_to_limbs ?c_to_limbs ?k_to_limbs ?a_from_limbs ?l_from_limbs ?c_from_limbs ?k_from_limbs ?a_carry_limbs ?l_carry_limbs ?c_carry_limbs ?k_carry_limbs ?a_multiply_limbs ?l_multiply_limbs ?c_multiply_limbs ?k_multiply_limbs ?a__law_cell ?l__law_cell ?c__law_cell ?k__law_cell ?a__law_integer ?l__law_integer ?c__law_integer ?k__law_integer ?a__law_is_list ?l__law_is_list ?c__law_is_list ?k__law_is_list ?a__law_value ?l__law_value ?c__law_value ?k__law_value ?a__law_carry ?l__law_carry ?c__law_carry ?k__law_carry ?a__law_small ?l__law_small ?c__law_small ?k__law_small ?a__law_refused ?l__law_refused ?c__law_refused ?k__law_refused ?a__law_carried ?l__law_carried ?c__law_carried ?k__law_carried ?a_law ?l_law ?c_law ?k_law ?z_abs ?z_bool ?z_enumerate ?z_int ?z_isinstance ?z_len ?z_list ?z_range ?z_sum ?z_zip ?d_LIMB_BITS ?d_LIMB_MASK ?d_MOST_NUMBER L2.FO.K25.law_true
    (case a_HushError => k_is)
    (case x_HushError => k_exc)
    (case k_HushError => k_is)
    (case b_HushError => k_is)
    (case t_HushError => k_is)
    (case ga_HushError => k_is)
    (case gg_HushError => k_is)
    (case hd_HushError => k_is)
    (case cl_HushError => k_is)
    (case mr_HushError => k_is)
    (case a_OutOfRange => k_is)
    (case x_OutOfRange => k_exc)
    (case k_OutOfRange => k_is)
    (case b_OutOfRange => k_is)
    (case t_OutOfRange => k_is)
    (case ga_OutOfRange => k_is)
    (case gg_OutOfRange => k_is)
    (case hd_OutOfRange => k_is)
    (case cl_OutOfRange => k_is)
    (case mr_OutOfRange => k_is)
    (case s_HushError_HushError => first | rfl | k_is)
    (case s_HushError_OutOfRange => first | rfl | k_is)
    (case s_OutOfRange_HushError => first | rfl | k_is)
    (case s_OutOfRange_OutOfRange => first | rfl | k_is)
    (case sp_c => k_is)
    (case tk_c => k_is)
    (case a_need_length => k_is)
    (case l_need_length => k_is)
    (case c_need_length => k_is)
    (case k_need_length => k_is)
    (case a_need_range => k_is)
    (case l_need_range => k_is)
    (case c_need_range => k_is)
    (case k_need_range => k_is)
    (case a_to_limbs => k_is)
    (case l_to_limbs => k_is)
    (case c_to_limbs => k_is)
    (case k_to_limbs => k_is)
    (case a_from_limbs => k_is)
    (case l_from_limbs => k_is)
    (case c_from_limbs => k_is)
    (case k_from_limbs => k_is)
    (case a_carry_limbs => k_is)
    (case l_carry_limbs => k_is)
    (case c_carry_limbs => k_is)
    (case k_carry_limbs => k_is)
    (case a_multiply_limbs => k_is)
    (case l_multiply_limbs => k_is)
    (case c_multiply_limbs => k_is)
    (case k_multiply_limbs => k_is)
    (case a__law_cell => k_is)
    (case l__law_cell => k_is)
    (case c__law_cell => k_is)
    (case k__law_cell => k_is)
    (case a__law_integer => k_is)
    (case l__law_integer => k_is)
    (case c__law_integer => k_is)
    (case k__law_integer => k_is)
    (case a__law_is_list => k_is)
    (case l__law_is_list => k_is)
    (case c__law_is_list => k_is)
    (case k__law_is_list => k_is)
    (case a__law_value => k_is)
    (case l__law_value => k_is)
    (case c__law_value => k_is)
    (case k__law_value => k_is)
    (case a__law_carry => k_is)
    (case l__law_carry => k_is)
    (case c__law_carry => k_is)
    (case k__law_carry => k_is)
    (case a__law_small => k_is)
    (case l__law_small => k_is)
    (case c__law_small => k_is)
    (case k__law_small => k_is)
    (case a__law_refused => k_is)
    (case l__law_refused => k_is)
    (case c__law_refused => k_is)
    (case k__law_refused => k_is)
    (case a__law_carried => k_is)
    (case l__law_carried => k_is)
    (case c__law_carried => k_is)
    (case k__law_carried => k_is)
    (case a_law => k_is)
    (case l_law => k_is)
    (case c_law => k_is)
    (case k_law => k_is)
    (case z_abs => k_is)
    (case z_bool => k_is)
    (case z_enumerate => k_is)
    (case z_int => k_is)
    (case z_isinstance => k_is)
    (case z_len => k_is)
    (case z_list => k_is)
    (case z_range => k_is)
    (case z_sum => k_is)
    (case z_zip => k_is)
    (case d_LIMB_BITS => k_is)
    (case d_LIMB_MASK => k_is)
    (case d_MOST_NUMBER => k_is)

