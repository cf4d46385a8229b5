import PyProof.Rows.All
import HandS.ForMost
import HandS.ForExc
import HandS.Wide
import HandS.WideBits
import HandS.ExcIs
import HandS.IsInst
import HandS.Style
import HandS.NoneIn
import HandS.Zip
import HandS.Rev
import HandS.EndBits
import PySem.Challenge.RW_hushlink_k00_orders_of_numbers
set_option Elab.async false
set_option linter.all false
set_option maxRecDepth 100000
set_option maxHeartbeats 4000000
/-! FL: programs as plain functions of data. A value is PyData; a def is a function List D → Res D; a local name holds a datum, an own (fresh, unshared) list, or a caught exception. -/
namespace L2.FL
open PySem PySem.Spec PyProof.Rows

abbrev D := PyData

/-! ### a value stands for a datum -/
mutual
inductive Rp (K : PySem.W.Frag) (H : Hp) : V → D → Prop
  | non : Rp K H .non .none
  | bl (b : Bool) : Rp K H (.bl b) (.bool b)
  | int (i : Int) : Rp K H (.int i) (.int i)
  | str (x : Str) : Rp K H (.str x) (.str x)
  | lst {a : Addr} {xs : List V} {ds : List D} : Rd H a (.lst xs) → Rps K H xs ds → Rp K H (.ref a) (.list ds)
  | tup {a : Addr} {xs : List V} {ds : List D} : SqT K H a xs → Rps K H xs ds → Rp K H (.ref a) (.tuple ds)
  /-- the script (it is read only): told apart by the form of a dict -/
  | scr {a : Addr} {ns : List Int} : SqL K H a (ns.map V.int) → Rp K H (.ref a) (.dict (ns.map fun n => (PyData.int n, PyData.none)))
inductive Rps (K : PySem.W.Frag) (H : Hp) : List V → List D → Prop
  | nil : Rps K H [] []
  | cons {v : V} {vs : List V} {d : D} {ds : List D} : Rp K H v d → Rps K H vs ds → Rps K H (v :: vs) (d :: ds)
end

theorem Rd.same {H H' : Hp} {a : Addr} {u : HO} (s : Same H H') (h : Rd H a u) : Rd H' a u := by
  rcases h with h | ⟨o, h⟩
  · exact .inl (s _ _ h)
  · exact .inr ⟨o, s _ _ h⟩
theorem SqT.same {K : PySem.W.Frag} {H H' : Hp} {a : Addr} {xs : List V} (s : Same H H') (h : SqT K H a xs) : SqT K H' a xs := by
  rcases h with h | h
  · exact .inl (Rd.same s h)
  · exact .inr h
section
variable {K : PySem.W.Frag} {H H' : Hp}
mutual
theorem Rp.same (s : Same H H') : ∀ {d : D} {v : V}, Rp K H v d → Rp K H' v d
  | _, _, .non => .non
  | _, _, .bl b => .bl b
  | _, _, .int i => .int i
  | _, _, .str x => .str x
  | _, _, .lst h hs => .lst (Rd.same s h) (Rps.same s hs)
  | _, _, .tup h hs => .tup (SqT.same s h) (Rps.same s hs)
  | _, _, .scr h => .scr (Same.seq s h)
theorem Rps.same (s : Same H H') : ∀ {ds : List D} {vs : List V}, Rps K H vs ds → Rps K H' vs ds
  | _, _, .nil => .nil
  | _, _, .cons h hs => .cons (Rp.same s h) (Rps.same s hs)
end
mutual
theorem Rp.dp : ∀ {d : D} {v : V}, Rp K H v d → d.canLay0 = true → Dp K H v d
  | _, _, .non, _ => .non
  | _, _, .bl b, _ => .bl b
  | _, _, .int i, _ => .int i
  | _, _, .str x, _ => .str x
  | _, _, .lst h hs, c => .lst (.inl h) (Rps.dp hs c)
  | _, _, .tup h hs, c => .tup h (Rps.dp hs c)
  | _, _, .scr h, c => absurd c Bool.false_ne_true
theorem Rps.dp : ∀ {ds : List D} {vs : List V}, Rps K H vs ds → PyData.canLayAll0 ds = true → DpAll K H vs ds
  | _, _, .nil, _ => .nil
  | d :: ds, _, .cons h hs, c => by
    have c' : (d.canLay0 && PyData.canLayAll0 ds) = true := c
    rw [Bool.and_eq_true] at c'
    exact .cons (Rp.dp h c'.1) (Rps.dp hs c'.2)
end
theorem shaped_lay {d : D} (h : SeqAt.shaped d = true) : d.canLay0 = true := by
  unfold SeqAt.shaped at h
  rw [Bool.and_eq_true] at h
  exact h.1
theorem Rps.length : ∀ {vs : List V} {ds : List D}, Rps K H vs ds → vs.length = ds.length
  | _, _, .nil => rfl
  | _, _, .cons _ hs => by rw [List.length_cons, List.length_cons, Rps.length hs]
theorem Rps.get : ∀ {vs : List V} {ds : List D} {i : Nat} {d : D}, Rps K H vs ds → ds[i]? = some d → ∃ v, vs[i]? = some v ∧ Rp K H v d
  | _, _, _, _, .nil, e => by simp at e
  | _, _, 0, _, .cons h _, e => by simp at e; subst e; exact ⟨_, rfl, h⟩
  | _, _, i + 1, d, .cons _ hs, e => by
    obtain ⟨v, h1, h2⟩ := Rps.get (i := i) (d := d) hs (by simpa using e)
    exact ⟨v, by simpa using h1, h2⟩
theorem Rps.append : ∀ {vs ws : List V} {ds es : List D}, Rps K H vs ds → Rps K H ws es → Rps K H (vs ++ ws) (ds ++ es)
  | _, _, _, _, .nil, h => h
  | _, _, _, _, .cons h hs, g => .cons h (Rps.append hs g)
theorem Rps.take : ∀ {vs : List V} {ds : List D} (n : Nat), Rps K H vs ds → Rps K H (vs.take n) (ds.take n)
  | _, _, 0, _ => .nil
  | _, _, _ + 1, .nil => .nil
  | _, _, n + 1, .cons h hs => .cons h (Rps.take n hs)
theorem Rps.drop : ∀ {vs : List V} {ds : List D} (n : Nat), Rps K H vs ds → Rps K H (vs.drop n) (ds.drop n)
  | _, _, 0, h => h
  | _, _, _ + 1, .nil => .nil
  | _, _, n + 1, .cons _ hs => Rps.drop n hs
theorem Rps.set {v : V} {d : D} (h : Rp K H v d) : ∀ {vs : List V} {ds : List D} (n : Nat), Rps K H vs ds → Rps K H (vs.set n v) (ds.set n d)
  | _, _, _, .nil => .nil
  | _, _, 0, .cons _ hs => .cons h hs
  | _, _, n + 1, .cons g hs => .cons g (Rps.set h n hs)
theorem Rps.reverse : ∀ {vs : List V} {ds : List D}, Rps K H vs ds → Rps K H vs.reverse ds.reverse
  | _, _, .nil => .nil
  | _, _, .cons h hs => by
    rw [List.reverse_cons, List.reverse_cons]
    exact (Rps.reverse hs).append (.cons h .nil)
theorem Rps.rep : ∀ {vs : List V} {ds : List D} (n : Nat), Rps K H vs ds → Rps K H (List.replicate n vs).flatten (List.replicate n ds).flatten
  | _, _, 0, _ => .nil
  | vs, ds, n + 1, h => by
    rw [List.replicate_succ, List.replicate_succ, List.flatten_cons, List.flatten_cons]
    exact h.append (Rps.rep n h)
/-- ints -/
theorem Rps.ints : ∀ {ns : List Int} {vs : List V}, Rps K H vs (ns.map PyData.int) → vs = ns.map V.int
  | [], _, .nil => rfl
  | n :: ns, _, .cons h hs => by
    cases h
    rw [Rps.ints hs]
    rfl
theorem Rps.of_ints : ∀ (ns : List Int), Rps K H (ns.map V.int) (ns.map PyData.int)
  | [] => .nil
  | n :: ns => .cons (.int n) (Rps.of_ints ns)
theorem Rps.bools : ∀ {ns : List Bool} {vs : List V}, Rps K H vs (ns.map PyData.bool) → vs = ns.map V.bl
  | [], _, .nil => rfl
  | n :: ns, _, .cons h hs => by
    cases h
    rw [Rps.bools hs]
    rfl
theorem Rps.strs : ∀ {ns : List Str} {vs : List V}, Rps K H vs (ns.map PyData.str) → vs = ns.map V.str
  | [], _, .nil => rfl
  | n :: ns, _, .cons h hs => by
    cases h
    rw [Rps.strs hs]
    rfl
/-- no list within: it stands in every heap -/
def scal : D → Bool
  | .none => true
  | .bool _ => true
  | .int _ => true
  | .str _ => true
  | _ => false
theorem Rp.scal {d : D} {v : V} (h : Rp K H v d) (s : FL.scal d = true) (H' : Hp) : Rp K H' v d := by
  cases h with
  | non => exact .non
  | bl b => exact .bl b
  | int i => exact .int i
  | str x => exact .str x
  | lst _ _ => exact absurd s Bool.false_ne_true
  | tup _ _ => exact absurd s Bool.false_ne_true
  | scr _ => exact absurd s Bool.false_ne_true
theorem Rps.scal : ∀ {ds : List D} {vs : List V}, Rps K H vs ds → ds.all FL.scal = true → ∀ H' : Hp, Rps K H' vs ds
  | _, _, .nil, _, _ => .nil
  | d :: ds, _, .cons h hs, s, H' => by
    rw [List.all_cons, Bool.and_eq_true] at s
    exact .cons (h.scal s.1 H') (Rps.scal hs s.2 H')
end

/-! ### results, names -/
inductive Res (α : Type) where
  | ok (a : α)
  | ex (n : Nat)
  | bad
def Res.bind {α β : Type} (r : Res α) (k : α → Res β) : Res β := match r with
  | .ok a => k a
  | .ex n => .ex n
  | .bad => .bad
def Res.map {α β : Type} (f : α → β) (r : Res α) : Res β := r.bind fun a => .ok (f a)
inductive Sl where
  | no
  | val (d : D)
  | own (ds : List D)
  | exc (n : Nat)
abbrev Env := List Sl

/-! ### heaps that grow: (G, H) to (G', H'); G is what may be seen -/
structure Ext (G H G' H' : Hp) : Prop where
  hh : Same H H'
  gg : Same G G'
  gh : Same G' H'
  fr : ∀ a o, G' a = some o → (∃ o', G a = some o') ∨ H a = none
section
variable {G H G' H' G2 H2 : Hp}
theorem Ext.refl (s : Same G H) : Ext G H G H := ⟨.refl _, .refl _, s, fun _ o e => .inl ⟨o, e⟩⟩
theorem Ext.trans (a : Ext G H G' H') (b : Ext G' H' G2 H2) : Ext G H G2 H2 := ⟨a.hh.trans b.hh, a.gg.trans b.gg, b.gh, fun x o e => by
  rcases b.fr x o e with ⟨o', e'⟩ | e'
  · exact a.fr x o' e'
  · exact .inr (a.hh.free e')⟩
theorem Ext.new {p : Addr} {o : HO} (s : Same G H) (h : H p = none) : Ext G H (upd G p o) (upd H p o) := by
  have g : G p = none := s.free h
  refine ⟨same_upd' h, same_upd' g, fun b u e => ?_, fun a u e => ?_⟩
  · by_cases hb : b = p
    · rw [hb, upd_same] at e ⊢
      exact e
    · rw [upd_ne hb] at e ⊢
      exact s b u e
  · by_cases hb : a = p
    · rw [hb]
      exact .inr h
    · rw [upd_ne hb] at e
      exact .inl ⟨u, e⟩
where
  same_upd' {H : Hp} {p : Addr} {o : HO} (h : H p = none) : Same H (upd H p o) := fun b x e => by
    rw [upd_ne (ne_of_none e h)]
    exact e
/-- only H grows -/
theorem Ext.newH {p : Addr} {o : HO} (s : Same G H) (h : H p = none) : Ext G H G (upd H p o) :=
  ⟨Ext.new.same_upd' h, .refl _, s.trans (Ext.new.same_upd' h), fun _ o e => .inl ⟨o, e⟩⟩
end

/-- what is to be shown of a result: every value that stands for it, in every heap grown so far -/
def Post {α ν : Type} (R : Hp → ν → α → Prop) (xw : Nat → Hp → Prop) (G H : Hp) (Q : ν → Hp → Prop) : Res α → Prop
  | .ok a => ∀ v G' H', Ext G H G' H' → R G' v a → Q v H'
  | .ex n => ∀ H', Same H H' → xw n H'
  | .bad => False
section
variable {α β ν μ : Type} {R : Hp → ν → α → Prop} {R2 : Hp → μ → β → Prop} {xw : Nat → Hp → Prop} {G H G' H' : Hp} {Q : ν → Hp → Prop} {Q2 : μ → Hp → Prop}
theorem Post.ext (e : Ext G H G' H') {r : Res α} (h : Post R xw G H Q r) : Post R xw G' H' Q r := by
  cases r with
  | ok a => exact fun v G2 H2 x rp => h v G2 H2 (e.trans x) rp
  | ex n => exact fun H2 s => h H2 (e.hh.trans s)
  | bad => exact h
theorem Post.bind {r : Res α} {k : α → Res β} (h : Post R2 xw G H Q2 (r.bind k)) (j : ∀ a v G1 H1, Ext G H G1 H1 → R G1 v a → Post R2 xw G1 H1 Q2 (k a) → Q v H1) : Post R xw G H Q r := by
  cases r with
  | ok a => exact fun v G1 H1 e rp => j a v G1 H1 e rp (Post.ext e h)
  | ex n => exact h
  | bad => exact h
end

abbrev RpsR (K : PySem.W.Frag) : Hp → List V → List D → Prop := fun H => Rps K H
abbrev BoR : Hp → Bool → Bool → Prop := fun _ a b => a = b
/-- a fresh list at p -/
abbrev FrR (K : PySem.W.Frag) (H0 : Hp) : Hp → V → List D → Prop := fun _ _ _ => True

/-- what the slots say -/
structure ER (K : PySem.W.Frag) (z : Addr × Nat) (G : Hp) (env : Env) (σ : St) : Prop where
  val : ∀ (i : Nat) (d : D), env[i]? = some (Sl.val d) → ∃ v : V, σ[i]? = some (some v) ∧ Rp K G v d
  exc : ∀ (i n : Nat), env[i]? = some (Sl.exc n) → σ[i]? = some (some (V.ref z.1)) ∧ n = z.2
  len : env.length = σ.length
theorem ER.same {K : PySem.W.Frag} {z : Addr × Nat} {G G' : Hp} {env : Env} {σ : St} (e : ER K z G env σ) (s : Same G G') : ER K z G' env σ :=
  ⟨fun i d h => let ⟨v, a, b⟩ := e.val i d h; ⟨v, a, b.same s⟩, e.exc, e.len⟩

/-- the fixed part: what the written heap says of the classes of errors, and the wish about what is raised -/
structure Cf where
  xa : Nat → Addr
  z : Addr × Nat
  W : WX
def Cf.xw (C : Cf) (σ : St) : Nat → Hp → Prop := fun n H => C.W (.ref (C.xa n)) none σ H

/-! ### readings -/
def tX (K : PySem.W.Frag) (C : Cf) (f : Env → Res D) : TE := fun σ H Q => ∃ G env, Same G H ∧ ER K C.z G env σ ∧ Post (Rp K) (C.xw σ) G H Q (f env)
def tXs (K : PySem.W.Frag) (C : Cf) (f : Env → Res (List D)) : TA := fun σ H Q => ∃ G env, Same G H ∧ ER K C.z G env σ ∧ Post (RpsR K) (C.xw σ) G H Q (f env)
def tXb (K : PySem.W.Frag) (C : Cf) (f : Env → Res Bool) : TT := fun σ H Q => ∃ G env, Same G H ∧ ER K C.z G env σ ∧ Post BoR (C.xw σ) G H Q (f env)
/-- a new list of the expression's own -/
def PostF (K : PySem.W.Frag) (xw : Nat → Hp → Prop) (G H : Hp) (Q : V → Hp → Prop) : Res (List D) → Prop
  | .ok ds => ∀ p vs G' H', Ext G H G' H' → H p = none → G' p = none → H' p = some (.lst vs) → Rps K G' vs ds → Q (.ref p) H'
  | .ex n => ∀ H', Same H H' → xw n H'
  | .bad => False
def tXf (K : PySem.W.Frag) (C : Cf) (f : Env → Res (List D)) : TE := fun σ H Q => ∃ G env, Same G H ∧ ER K C.z G env σ ∧ PostF K (C.xw σ) G H Q (f env)
abbrev QE (X : Cx) (C : Cf) (e : Expr) (f : Env → Res D) : Prop := PE X e (tX X.K C f)
abbrev QA (X : Cx) (C : Cf) (es : List Expr) (f : Env → Res (List D)) : Prop := PA X es (tXs X.K C f)
abbrev QT (X : Cx) (C : Cf) (e : Expr) (f : Env → Res Bool) : Prop := PT X e (tXb X.K C f)
abbrev QF (X : Cx) (C : Cf) (e : Expr) (f : Env → Res (List D)) : Prop := PE X e (tXf X.K C f)
theorem pe_imp {X : Cx} {e : Expr} {t t' : TE} (h : PE X e t) (i : ∀ σ H Q, t' σ H Q → t σ H Q) : PE X e t' := ⟨fun pins s σ H Q I w => h.run pins s σ H Q I (i σ H Q w)⟩
theorem pt_imp {X : Cx} {e : Expr} {t t' : TT} (h : PT X e t) (i : ∀ σ H Q, t' σ H Q → t σ H Q) : PT X e t' := ⟨fun pins s σ H Q I w => h.run pins s σ H Q I (i σ H Q w)⟩
theorem pa_imp {X : Cx} {e : List Expr} {t t' : TA} (h : PA X e t) (i : ∀ σ H Q, t' σ H Q → t σ H Q) : PA X e t' := ⟨fun pos pins s σ H Q I w => h.run pos pins s σ H Q I (i σ H Q w)⟩
theorem ps_imp {X : Cx} {st : Stmt} {t t' : TS} (h : PS X st t) (i : ∀ D σ H, t' D σ H → t D σ H) : PS X st t' := ⟨fun pins s σ H D I w => h.run pins s σ H D I (i D σ H w)⟩
theorem pss_imp {X : Cx} {st : List Stmt} {t t' : TS} (h : PSs X st t) (i : ∀ D σ H, t' D σ H → t D σ H) : PSs X st t' := ⟨fun pins s σ H D I w => h.run pins s σ H D I (i D σ H w)⟩

/-- a fresh list is a list -/
theorem PostF.of {K : PySem.W.Frag} {xw : Nat → Hp → Prop} {G H : Hp} {Q : V → Hp → Prop} {r : Res (List D)} (h : Post (Rp K) xw G H Q (r.map .list)) : PostF K xw G H Q r := by
  cases r with
  | ok ds =>
    intro p vs G' H' e hp gp hl rp
    have h' : Post (Rp K) xw G H Q (.ok (.list ds)) := h
    have s1 : Same G' (upd G' p (.lst vs)) := Ext.new.same_upd' gp
    refine h' (.ref p) (upd G' p (.lst vs)) H' ⟨e.hh, e.gg.trans s1, fun b u q => ?_, fun a o q => ?_⟩ (.lst (.inl upd_same) (rp.same s1))
    · by_cases hb : b = p
      · rw [hb, upd_same] at q
        cases q
        rw [hb]
        exact hl
      · rw [upd_ne hb] at q
        exact e.gh b u q
    · by_cases hb : a = p
      · rw [hb]
        exact .inr hp
      · rw [upd_ne hb] at q
        exact e.fr a o q
  | ex n => exact h
  | bad => exact h
section
variable {X : Cx} {C : Cf} {e : Expr} {f : Env → Res (List D)}
theorem QF.toE (h : QF X C e f) : QE X C e (fun env => (f env).map .list) := pe_imp h fun σ H Q ⟨G, env, s, er, p⟩ => ⟨G, env, s, er, PostF.of p⟩
end

/-! ### expressions -/
section
variable {X : Cx} {C : Cf}
def eVar (i : Nat) : Env → Res D := fun env => match env[i]? with
  | some (.val d) => .ok d
  | _ => .bad
theorem qv (i : Nat) {x : Str} {pos : Pos} (hN : X.N[i]? = some x := by rfl) (hv : Vis X.env.scope x := by first | exact Or.inl rfl | exact Or.inr (Or.inl rfl) | exact Or.inr (Or.inr rfl)) (hd : (x == ("__debug__" : Str)) = false := by decide)
    (hcd : (x == ("__classdict__" : Str)) = false := by decide) : QE X C (.Name x pos) (eVar i) := by
  refine pe_imp (pe_var hN hv hd hcd) fun σ H Q ⟨G, env, s, er, p⟩ => ?_
  unfold eVar at p
  split at p
  · rename_i d e
    obtain ⟨v, h1, h2⟩ := er.val i d e
    exact ⟨v, h1, p v G H (.refl s) h2⟩
  · exact p.elim
def eC (d : D) : Env → Res D := fun _ => .ok d
theorem qc {e : Expr} {v : V} {d : D} (h : PE X e (tC v)) (r : ∀ G, Rp X.K G v d) : QE X C e (eC d) :=
  pe_imp h fun σ H Q ⟨G, env, s, er, p⟩ => p v G H (.refl s) (r G)
theorem q_int {i j pos} : QE X C (.Constant (.int i) j pos) (eC (.int i)) := qc pe_int fun _ => .int i
theorem q_bl {b j pos} : QE X C (.Constant (.bool b) j pos) (eC (.bool b)) := qc pe_bl fun _ => .bl b
theorem q_non {j pos} : QE X C (.Constant .none j pos) (eC .none) := qc pe_non fun _ => .non
theorem q_str {x j pos} : QE X C (.Constant (.str x) j pos) (eC (.str x)) := qc pe_str fun _ => .str x
/-- a module's constant -/
theorem q_glob {x : Str} {v : V} {d : D} {u : Value} {pos : Pos} (hg : Gl X x) (hm : X.mg x = some u) (r : RelV v u) (rp : ∀ G, Rp X.K G v d) (hd : (x == ("__debug__" : Str)) = false := by decide) : QE X C (.Name x pos) (eC d) := qc (pe_glob hg hm r hd) rp

/-- an operation upon two values -/
def OpF (K : PySem.W.Frag) (g : D → D → Res D) (r : R2) : Prop := ∀ (x y : V) (dx dy : D) (G H : Hp) (Q : VK), Same G H → Rp K G x dx → Rp K G y dy → Post (Rp K) (fun _ _ => False) G H Q (g dx dy) → r x y H Q
def e2 (g : D → D → Res D) (fa fb : Env → Res D) : Env → Res D := fun env => (fa env).bind fun x => (fb env).bind fun y => g x y
/-- an operation never raises -/
def NoEx {α : Type} (r : Res α) : Prop := ∀ n, r ≠ .ex n
theorem Post.noex {α ν : Type} {R : Hp → ν → α → Prop} {xw xw' : Nat → Hp → Prop} {G H : Hp} {Q : ν → Hp → Prop} {r : Res α} (n : NoEx r) (h : Post R xw G H Q r) : Post R xw' G H Q r := by
  cases r with
  | ok a => exact h
  | ex k => exact absurd rfl (n k)
  | bad => exact h
theorem op2 {g : D → D → Res D} {r : R2} (ho : OpF X.K g r) (hn : ∀ x y, NoEx (g x y)) {fa fb : Env → Res D} {σ : St} {H : Hp} {Q : VK} (h : tX X.K C (e2 g fa fb) σ H Q) : tOp r (tX X.K C fa) (tX X.K C fb) σ H Q := by
  obtain ⟨G, env, s, er, p⟩ := h
  refine ⟨G, env, s, er, Post.bind p fun dx x G1 H1 e1 r1 p1 => ⟨G1, env, e1.gh, er.same e1.gg, Post.bind p1 fun dy y G2 H2 e2 r2 p2 => ?_⟩⟩
  exact ho x y dx dy G2 H2 Q e2.gh (r1.same e2.gg) r2 (Post.noex (hn _ _) p2)
theorem q_bin {op : Operator} {g : D → D → Res D} {r : R2} {a b : Expr} {fa fb : Env → Res D} {pos : Pos} (hr : OpR X (binaryOp op) r) (ho : OpF X.K g r) (hn : ∀ x y, NoEx (g x y)) (ha : QE X C a fa) (hb : QE X C b fb) : QE X C (.BinOp a op b pos) (e2 g fa fb) :=
  pe_imp (pe_op hr ha hb) fun _ _ _ h => op2 ho hn h
theorem q_cmp {op : CmpOp} {g : D → D → Res D} {r : R2} {a b : Expr} {fa fb : Env → Res D} {pos : Pos} (hr : OpR X (compareOp op) r) (ho : OpF X.K g r) (hn : ∀ x y, NoEx (g x y)) (hm : behindInMarks op b = false) (ha : QE X C a fa) (hb : QE X C b fb) : QE X C (.Compare a [op] [b] pos) (e2 g fa fb) :=
  pe_imp (pe_cmpR hr ha hb hm) fun _ _ _ h => op2 ho hn h
/-! ints -/
def i2 (c : Int → Int → Bool) (f : Int → Int → D) : D → D → Res D := fun x y => match x, y with
  | .int i, .int j => if c i j = true then .ok (f i j) else .bad
  | _, _ => .bad
theorem i2_noex {c f} : ∀ x y, NoEx (i2 c f x y) := by
  intro x y n
  unfold i2
  split
  · split <;> intro h <;> cases h
  · intro h
    cases h
theorem i2_op {K : PySem.W.Frag} {c : Int → Int → Bool} {f : Int → Int → D} {CC : Int → Int → Prop} {g : Int → Int → V} (hc : ∀ i j, c i j = true → CC i j) (hr : ∀ i j (G : Hp), Rp K G (g i j) (f i j)) : OpF K (i2 c f) (rI CC g) := by
  intro x y dx dy G H Q s rx ry p
  unfold i2 at p
  split at p
  · rename_i i j
    cases rx
    cases ry
    split at p
    · rename_i h
      exact ⟨i, j, rfl, rfl, hc i j h, p _ G H (.refl s) (hr i j G)⟩
    · exact p.elim
  · exact p.elim
theorem i2_op0 {K : PySem.W.Frag} {f : Int → Int → D} {g : Int → Int → V} (hr : ∀ i j (G : Hp), Rp K G (g i j) (f i j)) : OpF K (i2 (fun _ _ => true) f) (rI0 g) := by
  intro x y dx dy G H Q s rx ry p
  unfold i2 at p
  split at p
  · rename_i i j
    cases rx
    cases ry
    rw [if_pos rfl] at p
    exact ⟨i, j, rfl, rfl, p _ G H (.refl s) (hr i j G)⟩
  · exact p.elim
def gAdd : D → D → Res D := i2 (fun _ _ => true) fun i j => .int (i + j)
def gSub : D → D → Res D := i2 (fun _ _ => true) fun i j => .int (i - j)
def gMul : D → D → Res D := i2 (fun i j => decide (Builtin.Int.intBits i + Builtin.Int.intBits j ≤ 134217728)) fun i j => .int (i * j)
def gDiv : D → D → Res D := i2 (fun _ j => decide (0 < j ∧ j.natAbs.log2 < 9000)) fun i j => .int (i / j)
def gMod : D → D → Res D := i2 (fun _ j => decide (0 < j)) fun i j => .int (i % j)
def gPow : D → D → Res D := i2 (fun i j => decide (0 ≤ j ∧ j.toNat ≤ 1000000 ∧ i.natAbs < 2 ^ 64)) fun i j => .int (i ^ j.toNat)
def gShl : D → D → Res D := i2 (fun i j => decide (0 ≤ j ∧ Builtin.Int.intBits i + j.toNat ≤ 134217728)) fun i j => .int (i * 2 ^ j.toNat)
def gShr : D → D → Res D := i2 (fun _ j => decide (0 ≤ j)) fun i j => .int (i / 2 ^ j.toNat)
def gAnd : D → D → Res D := i2 (fun _ _ => true) fun i j => .int (Builtin.bitAnd i j)
def gOr : D → D → Res D := i2 (fun _ _ => true) fun i j => .int (Builtin.bitOr i j)
def gXor : D → D → Res D := i2 (fun _ _ => true) fun i j => .int (Builtin.bitXor i j)
def gLt : D → D → Res D := i2 (fun _ _ => true) fun i j => .bool (decide (i < j))
def gLe : D → D → Res D := i2 (fun _ _ => true) fun i j => .bool (decide (i ≤ j))
def gGt : D → D → Res D := i2 (fun _ _ => true) fun i j => .bool (decide (j < i))
def gGe : D → D → Res D := i2 (fun _ _ => true) fun i j => .bool (decide (j ≤ i))
variable {a b : Expr} {fa fb : Env → Res D} {pos : Pos}
theorem q_add (ha : QE X C a fa) (hb : QE X C b fb) : QE X C (.BinOp a .Add b pos) (e2 gAdd fa fb) := q_bin op_add (i2_op0 fun i j _ => .int _) i2_noex ha hb
theorem q_sub (ha : QE X C a fa) (hb : QE X C b fb) : QE X C (.BinOp a .Sub b pos) (e2 gSub fa fb) := q_bin op_sub (i2_op0 fun i j _ => .int _) i2_noex ha hb
theorem q_mul (ha : QE X C a fa) (hb : QE X C b fb) : QE X C (.BinOp a .Mult b pos) (e2 gMul fa fb) := q_bin op_mulX (i2_op (fun i j h => (by
  have h2 : Builtin.Int.intBits i + Builtin.Int.intBits j ≤ 134217728 := of_decide_eq_true h
  show (Builtin.Int.intBits i : Int) + (Builtin.Int.intBits j : Int) ≤ 134217728
  omega)) fun i j _ => .int _) i2_noex ha hb
theorem q_div (ha : QE X C a fa) (hb : QE X C b fb) : QE X C (.BinOp a .FloorDiv b pos) (e2 gDiv fa fb) := q_bin op_fdivW (i2_op (fun i j h => show 0 < j ∧ j.natAbs.log2 < 9000 from of_decide_eq_true h) fun i j _ => .int _) i2_noex ha hb
theorem q_mod (ha : QE X C a fa) (hb : QE X C b fb) : QE X C (.BinOp a .Mod b pos) (e2 gMod fa fb) := q_bin op_mod (i2_op (fun _ _ h => of_decide_eq_true h) fun i j _ => .int _) i2_noex ha hb
theorem q_pow (ha : QE X C a fa) (hb : QE X C b fb) : QE X C (.BinOp a .Pow b pos) (e2 gPow fa fb) := q_bin op_pow (i2_op (fun i j h => show 0 ≤ j ∧ j ≤ 1000000 ∧ i.natAbs < 2 ^ 64 from (by have q := of_decide_eq_true h; exact ⟨q.1, by have := q.2.1; omega, q.2.2⟩)) fun i j _ => .int _) i2_noex ha hb
theorem q_shl (ha : QE X C a fa) (hb : QE X C b fb) : QE X C (.BinOp a .LShift b pos) (e2 gShl fa fb) := q_bin op_shlW (i2_op (fun _ _ h => (by
  have h2 := of_decide_eq_true h
  exact ⟨h2.1, by have e : (2 : Int) ^ 27 = 134217728 := by decide
                  rw [e]; have := h2.1; have := h2.2; omega⟩)) fun i j _ => .int _) i2_noex ha hb
theorem q_shr (ha : QE X C a fa) (hb : QE X C b fb) : QE X C (.BinOp a .RShift b pos) (e2 gShr fa fb) := q_bin op_shr (i2_op (fun _ _ h => of_decide_eq_true h) fun i j _ => .int _) i2_noex ha hb
theorem q_and (ha : QE X C a fa) (hb : QE X C b fb) : QE X C (.BinOp a .BitAnd b pos) (e2 gAnd fa fb) := q_bin op_and (i2_op0 fun i j _ => .int _) i2_noex ha hb
theorem q_or (ha : QE X C a fa) (hb : QE X C b fb) : QE X C (.BinOp a .BitOr b pos) (e2 gOr fa fb) := q_bin op_or (i2_op0 fun i j _ => .int _) i2_noex ha hb
theorem q_xor (ha : QE X C a fa) (hb : QE X C b fb) : QE X C (.BinOp a .BitXor b pos) (e2 gXor fa fb) := q_bin op_xor (i2_op0 fun i j _ => .int _) i2_noex ha hb
theorem q_lt (ha : QE X C a fa) (hb : QE X C b fb) : QE X C (.Compare a [.Lt] [b] pos) (e2 gLt fa fb) := q_cmp op_lt (i2_op0 fun i j _ => .bl _) i2_noex (nomark _) ha hb
theorem q_le (ha : QE X C a fa) (hb : QE X C b fb) : QE X C (.Compare a [.LtE] [b] pos) (e2 gLe fa fb) := q_cmp op_le (i2_op0 fun i j _ => .bl _) i2_noex (nomark _) ha hb
theorem q_gt (ha : QE X C a fa) (hb : QE X C b fb) : QE X C (.Compare a [.Gt] [b] pos) (e2 gGt fa fb) := q_cmp op_gt (i2_op0 fun i j _ => .bl _) i2_noex (nomark _) ha hb
theorem q_ge (ha : QE X C a fa) (hb : QE X C b fb) : QE X C (.Compare a [.GtE] [b] pos) (e2 gGe fa fb) := q_cmp op_ge (i2_op0 fun i j _ => .bl _) i2_noex (nomark _) ha hb
/-! == at any depth -/
def gEq : D → D → Res D := fun x y => if SeqAt.shaped x = true ∧ SeqAt.shaped y = true then .ok (.bool (PyData.eqv x y)) else .bad
def gNe : D → D → Res D := fun x y => if SeqAt.shaped x = true ∧ SeqAt.shaped y = true then .ok (.bool (!PyData.eqv x y)) else .bad
theorem gEq_noex : ∀ x y, NoEx (gEq x y) := by
  intro x y n
  unfold gEq
  split <;> intro h <;> cases h
theorem gNe_noex : ∀ x y, NoEx (gNe x y) := by
  intro x y n
  unfold gNe
  split <;> intro h <;> cases h
theorem gEq_op {K : PySem.W.Frag} : OpF K gEq (rEqD K) := by
  intro x y dx dy G H Q s rx ry p
  unfold gEq at p
  split at p
  · rename_i h
    exact ⟨dx, dy, (rx.same s).dp (shaped_lay h.1), (ry.same s).dp (shaped_lay h.2), h.1, h.2, p _ G H (.refl s) (.bl _)⟩
  · exact p.elim
theorem gNe_op {K : PySem.W.Frag} : OpF K gNe (rNeD K) := by
  intro x y dx dy G H Q s rx ry p
  unfold gNe at p
  split at p
  · rename_i h
    exact ⟨dx, dy, (rx.same s).dp (shaped_lay h.1), (ry.same s).dp (shaped_lay h.2), h.1, h.2, p _ G H (.refl s) (.bl _)⟩
  · exact p.elim
theorem roomU {k : Nat} {A : Around} (hr : Room k A) : A.units + 64 < cLine := by
  have := hr.un
  omega
theorem q_eq (hu : X.A.units + 64 < cLine) (ha : QE X C a fa) (hb : QE X C b fb) : QE X C (.Compare a [.Eq] [b] pos) (e2 gEq fa fb) := q_cmp (op_eqD hu) gEq_op gEq_noex (nomark _) ha hb
theorem q_ne (hu : X.A.units + 64 < cLine) (ha : QE X C a fa) (hb : QE X C b fb) : QE X C (.Compare a [.NotEq] [b] pos) (e2 gNe fa fb) := q_cmp (op_neD hu) gNe_op gNe_noex (nomark _) ha hb
def eChain (g g' : D → D → Res D) (fa fb fc : Env → Res D) : Env → Res D := fun env => (fa env).bind fun x => (fb env).bind fun y => (g x y).bind fun z => match z with
  | .bool true => (fc env).bind fun w => g' y w
  | .bool false => .ok (.bool false)
  | _ => .bad
theorem chain2 {g g' : D → D → Res D} {r r' : R2} (ho : OpF X.K g r) (hn : ∀ x y, NoEx (g x y)) (ho' : OpF X.K g' r') (hn' : ∀ x y, NoEx (g' x y)) {fa fb fc : Env → Res D} {σ : St} {H : Hp} {Q : VK} (h : tX X.K C (eChain g g' fa fb fc) σ H Q) : tChain r r' (tX X.K C fa) (tX X.K C fb) (tX X.K C fc) σ H Q := by
  obtain ⟨G, env, s, er, p⟩ := h
  refine ⟨G, env, s, er, Post.bind p fun dx x G1 H1 e1 r1 p1 => ⟨G1, env, e1.gh, er.same e1.gg, Post.bind p1 fun dy y G2 H2 e2 r2 p2 => ?_⟩⟩
  refine ho x y dx dy G2 H2 _ e2.gh (r1.same e2.gg) r2 (Post.noex (hn _ _) (Post.bind p2 fun dz z G3 H3 e3 r3 p3 => ?_))
  split at p3
  · cases r3
    refine ⟨true, rfl, ?_⟩
    rw [if_pos rfl]
    refine ⟨G3, env, e3.gh, (er.same (e1.gg.trans e2.gg)).same e3.gg, Post.bind p3 fun dw w G4 H4 e4 r4 p4 => ?_⟩
    exact ho' y w dy dw G4 H4 Q e4.gh ((r2.same e3.gg).same e4.gg) r4 (Post.noex (hn' _ _) p4)
  · cases r3
    refine ⟨false, rfl, ?_⟩
    rw [if_neg Bool.false_ne_true]
    exact p3 _ G3 H3 (.refl e3.gh) (.bl _)
  · exact p3.elim
theorem q_lele {c : Expr} {fc : Env → Res D} (ha : QE X C a fa) (hb : QE X C b fb) (hc : QE X C c fc) (hm : lastMarks [.LtE, .LtE] [b, c] = false := by with_unfolding_all rfl) : QE X C (.Compare a [.LtE, .LtE] [b, c] pos) (eChain gLe gLe fa fb fc) :=
  pe_imp (pe_chain op_le op_le ha hb hc hm) fun _ _ _ h => chain2 (i2_op0 fun i j _ => .bl _) i2_noex (i2_op0 fun i j _ => .bl _) i2_noex h
theorem q_lelt {c : Expr} {fc : Env → Res D} (ha : QE X C a fa) (hb : QE X C b fb) (hc : QE X C c fc) (hm : lastMarks [.LtE, .Lt] [b, c] = false := by with_unfolding_all rfl) : QE X C (.Compare a [.LtE, .Lt] [b, c] pos) (eChain gLe gLt fa fb fc) :=
  pe_imp (pe_chain op_le op_lt ha hb hc hm) fun _ _ _ h => chain2 (i2_op0 fun i j _ => .bl _) i2_noex (i2_op0 fun i j _ => .bl _) i2_noex h
/-! unary -/
def e1 (g : D → Res D) (fa : Env → Res D) : Env → Res D := fun env => (fa env).bind g
def gNeg : D → Res D := fun x => match x with
  | .int i => .ok (.int (-i))
  | _ => .bad
def gInv : D → Res D := fun x => match x with
  | .int i => .ok (.int (Builtin.bitNot i))
  | _ => .bad
theorem q_neg (ha : QE X C a fa) : QE X C (.UnaryOp .USub a pos) (e1 gNeg fa) :=
  pe_imp (pe_un un_neg ha) fun σ H Q ⟨G, env, s, er, p⟩ => ⟨G, env, s, er, Post.bind p fun d x G1 H1 e1 r1 p1 => by
    unfold gNeg at p1
    split at p1
    · cases r1
      exact ⟨_, rfl, p1 _ G1 H1 (.refl e1.gh) (.int _)⟩
    · exact p1.elim⟩
theorem q_inv (ha : QE X C a fa) : QE X C (.UnaryOp .Invert a pos) (e1 gInv fa) :=
  pe_imp (pe_un un_inv ha) fun σ H Q ⟨G, env, s, er, p⟩ => ⟨G, env, s, er, Post.bind p fun d x G1 H1 e1 r1 p1 => by
    unfold gInv at p1
    split at p1
    · cases r1
      exact ⟨_, rfl, p1 _ G1 H1 (.refl e1.gh) (.int _)⟩
    · exact p1.elim⟩
def gBits : D → Res D := fun x => match x with
  | .int i => .ok (.int (Builtin.Int.intBits i : Nat))
  | _ => .bad
theorem q_bits {o : Expr} {apos pos : Pos} (ho : QE X C o fa) (hbase : attributeBase o "bit_length" X.env (eval o X.env) = eval o X.env := by rfl) (hline : (apos.endLine == pos.line) = true := by rfl) : QE X C (.Call (.Attribute o "bit_length" apos) [] [] pos) (e1 gBits fa) :=
  pe_imp (pe_bits ho hbase hline) fun σ H Q ⟨G, env, s, er, p⟩ => ⟨G, env, s, er, Post.bind p fun d x G1 H1 e1 r1 p1 => by
    unfold gBits at p1
    split at p1
    · cases r1
      exact ⟨_, rfl, p1 _ G1 H1 (.refl e1.gh) (.int _)⟩
    · exact p1.elim⟩
/-! ### tests, and, or, not -/
def toB : D → Res Bool := fun d => match d with
  | .bool b => .ok b
  | _ => .bad
def eB (f : Env → Res D) : Env → Res Bool := fun env => (f env).bind toB
theorem toB_post {σ : St} {G H : Hp} {d : D} {x : V} {Q : Bool → Hp → Prop} (s : Same G H) (r : Rp X.K G x d) (p : Post BoR (C.xw σ) G H Q (toB d)) : ∃ k, x = .bl k ∧ Q k H := by
  unfold toB at p
  split at p
  · cases r
    exact ⟨_, rfl, p _ G H (.refl s) rfl⟩
  · exact p.elim
theorem test_of {f : Env → Res D} {σ : St} {H : Hp} {Q : Bool → Hp → Prop} (h : tXb X.K C (eB f) σ H Q) : tTest (tX X.K C f) σ H Q := by
  obtain ⟨G, env, s, er, p⟩ := h
  exact ⟨G, env, s, er, Post.bind p fun d x G1 H1 e1 r1 p1 => toB_post e1.gh r1 p1⟩
theorem qt_val {e : Expr} {f : Env → Res D} (h : QE X C e f) (he : ∀ whole, isTrue e X.env whole = (do let v ← whole; standAt e.pos; holding [v] (truthy v)) := by intro _; rfl) : QT X C e (eB f) := pt_imp (pt_val h he) fun _ _ _ h => test_of h
theorem qt_cmp {op : CmpOp} {g : D → D → Res D} {r : R2} (hr : OpR X (compareOp op) r) (ho : OpF X.K g r) (hn : ∀ x y, NoEx (g x y)) (hm : behindInMarks op b = false) (ha : QE X C a fa) (hb : QE X C b fb) : QT X C (.Compare a [op] [b] pos) (eB (e2 g fa fb)) :=
  pt_imp (pt_cmpR hr ha hb hm) fun σ H Q h => by
    have h2 := test_of h
    unfold tTest at h2 ⊢
    exact op2 ho hn h2
theorem qt_lt (ha : QE X C a fa) (hb : QE X C b fb) : QT X C (.Compare a [.Lt] [b] pos) (eB (e2 gLt fa fb)) := qt_cmp op_lt (i2_op0 fun i j _ => .bl _) i2_noex (nomark _) ha hb
theorem qt_le (ha : QE X C a fa) (hb : QE X C b fb) : QT X C (.Compare a [.LtE] [b] pos) (eB (e2 gLe fa fb)) := qt_cmp op_le (i2_op0 fun i j _ => .bl _) i2_noex (nomark _) ha hb
theorem qt_gt (ha : QE X C a fa) (hb : QE X C b fb) : QT X C (.Compare a [.Gt] [b] pos) (eB (e2 gGt fa fb)) := qt_cmp op_gt (i2_op0 fun i j _ => .bl _) i2_noex (nomark _) ha hb
theorem qt_ge (ha : QE X C a fa) (hb : QE X C b fb) : QT X C (.Compare a [.GtE] [b] pos) (eB (e2 gGe fa fb)) := qt_cmp op_ge (i2_op0 fun i j _ => .bl _) i2_noex (nomark _) ha hb
theorem qt_eq (hu : X.A.units + 64 < cLine) (ha : QE X C a fa) (hb : QE X C b fb) : QT X C (.Compare a [.Eq] [b] pos) (eB (e2 gEq fa fb)) := qt_cmp (op_eqD hu) gEq_op gEq_noex (nomark _) ha hb
theorem qt_ne (hu : X.A.units + 64 < cLine) (ha : QE X C a fa) (hb : QE X C b fb) : QT X C (.Compare a [.NotEq] [b] pos) (eB (e2 gNe fa fb)) := qt_cmp (op_neD hu) gNe_op gNe_noex (nomark _) ha hb
theorem qt_lele {c : Expr} {fc : Env → Res D} (ha : QE X C a fa) (hb : QE X C b fb) (hc : QE X C c fc) (hm : lastMarks [.LtE, .LtE] [b, c] = false := by with_unfolding_all rfl) : QT X C (.Compare a [.LtE, .LtE] [b, c] pos) (eB (eChain gLe gLe fa fb fc)) :=
  pt_imp (pt_chain op_le op_le ha hb hc hm) fun σ H Q h => by
    have h2 := test_of h
    unfold tTest at h2 ⊢
    exact chain2 (i2_op0 fun i j _ => .bl _) i2_noex (i2_op0 fun i j _ => .bl _) i2_noex h2
theorem qt_lelt {c : Expr} {fc : Env → Res D} (ha : QE X C a fa) (hb : QE X C b fb) (hc : QE X C c fc) (hm : lastMarks [.LtE, .Lt] [b, c] = false := by with_unfolding_all rfl) : QT X C (.Compare a [.LtE, .Lt] [b, c] pos) (eB (eChain gLe gLt fa fb fc)) :=
  pt_imp (pt_chain op_le op_lt ha hb hc hm) fun σ H Q h => by
    have h2 := test_of h
    unfold tTest at h2 ⊢
    exact chain2 (i2_op0 fun i j _ => .bl _) i2_noex (i2_op0 fun i j _ => .bl _) i2_noex h2
def bAnd (f g : Env → Res Bool) : Env → Res Bool := fun env => (f env).bind fun b => if b = true then g env else .ok false
def bOr (f g : Env → Res Bool) : Env → Res Bool := fun env => (f env).bind fun b => if b = true then .ok true else g env
def bNot (f : Env → Res Bool) : Env → Res Bool := fun env => (f env).bind fun b => .ok (!b)
abbrev QW (X : Cx) (C : Cf) (e : Expr) (f : Env → Res Bool) : Prop := PW X e (tXb X.K C f)
theorem pw_imp {e : Expr} {t t' : TT} (h : PW X e t) (i : ∀ σ H Q, t' σ H Q → t σ H Q) : PW X e t' := ⟨fun wh pins s σ H Q I w => h.run wh pins s σ H Q I (i σ H Q w)⟩
variable {rest : List Expr} {f g : Env → Res Bool}
theorem qw_and1 (ha : QT X C a f) : QW X C (.BoolOp .And [a] pos) f := pw_and1 ha
theorem qw_or1 (ha : QT X C a f) : QW X C (.BoolOp .Or [a] pos) f := pw_or1 ha
theorem qw_and (ha : QT X C a f) (hb : QW X C (.BoolOp .And (b :: rest) pos) g) : QW X C (.BoolOp .And (a :: b :: rest) pos) (bAnd f g) :=
  pw_imp (pw_and ha hb) fun σ H Q ⟨G, env, s, er, p⟩ => ⟨G, env, s, er, Post.bind p fun c x G1 H1 e1 r1 p1 => by
    cases r1
    split
    · rename_i h
      rw [if_pos h] at p1
      exact ⟨G1, env, e1.gh, er.same e1.gg, p1⟩
    · rename_i h
      rw [if_neg h] at p1
      exact p1 _ G1 H1 (.refl e1.gh) rfl⟩
theorem qw_or (ha : QT X C a f) (hb : QW X C (.BoolOp .Or (b :: rest) pos) g) : QW X C (.BoolOp .Or (a :: b :: rest) pos) (bOr f g) :=
  pw_imp (pw_or ha hb) fun σ H Q ⟨G, env, s, er, p⟩ => ⟨G, env, s, er, Post.bind p fun c x G1 H1 e1 r1 p1 => by
    cases r1
    split
    · rename_i h
      rw [if_pos h] at p1
      exact p1 _ G1 H1 (.refl e1.gh) rfl
    · rename_i h
      rw [if_neg h] at p1
      exact ⟨G1, env, e1.gh, er.same e1.gg, p1⟩⟩
theorem QW.t {e : Expr} (h : QW X C e f) : QT X C e f := h.pt
theorem qt_not (ha : QT X C a f) : QT X C (.UnaryOp .Not a pos) (bNot f) :=
  pt_imp (pt_not ha) fun σ H Q ⟨G, env, s, er, p⟩ => ⟨G, env, s, er, Post.bind p fun c x G1 H1 e1 r1 p1 => by
    cases r1
    exact p1 _ G1 H1 (.refl e1.gh) rfl⟩
/-- .. as values (bools) -/
def eAnd (f g : Env → Res D) : Env → Res D := fun env => (f env).bind fun d => match d with
  | .bool true => g env
  | .bool false => .ok (.bool false)
  | _ => .bad
def eOr (f g : Env → Res D) : Env → Res D := fun env => (f env).bind fun d => match d with
  | .bool true => .ok (.bool true)
  | .bool false => g env
  | _ => .bad
def eNot (f : Env → Res D) : Env → Res D := fun env => (f env).bind fun d => match d with
  | .bool b => .ok (.bool (!b))
  | _ => .bad
theorem q_one {op : BoolOp} (h : QE X C a fa) : QE X C (.BoolOp op [a] pos) fa := pe_one h
theorem q_and' (ha : QE X C a fa) (hb : QE X C (.BoolOp .And (b :: rest) pos) fb) : QE X C (.BoolOp .And (a :: b :: rest) pos) (eAnd fa fb) :=
  pe_imp (pe_and ha hb) fun σ H Q ⟨G, env, s, er, p⟩ => ⟨G, env, s, er, Post.bind p fun c x G1 H1 e1 r1 p1 => by
    split at p1
    · cases r1
      refine ⟨true, rfl, ?_⟩
      rw [if_pos rfl]
      exact ⟨G1, env, e1.gh, er.same e1.gg, p1⟩
    · cases r1
      refine ⟨false, rfl, ?_⟩
      rw [if_neg Bool.false_ne_true]
      exact p1 _ G1 H1 (.refl e1.gh) (.bl _)
    · exact p1.elim⟩
theorem q_or' (ha : QE X C a fa) (hb : QE X C (.BoolOp .Or (b :: rest) pos) fb) : QE X C (.BoolOp .Or (a :: b :: rest) pos) (eOr fa fb) :=
  pe_imp (pe_or ha hb) fun σ H Q ⟨G, env, s, er, p⟩ => ⟨G, env, s, er, Post.bind p fun c x G1 H1 e1 r1 p1 => by
    split at p1
    · cases r1
      refine ⟨true, rfl, ?_⟩
      rw [if_pos rfl]
      exact p1 _ G1 H1 (.refl e1.gh) (.bl _)
    · cases r1
      refine ⟨false, rfl, ?_⟩
      rw [if_neg Bool.false_ne_true]
      exact ⟨G1, env, e1.gh, er.same e1.gg, p1⟩
    · exact p1.elim⟩
theorem q_not' (ha : QE X C a fa) : QE X C (.UnaryOp .Not a pos) (eNot fa) :=
  pe_imp (pe_not ha) fun σ H Q ⟨G, env, s, er, p⟩ => ⟨G, env, s, er, Post.bind p fun c x G1 H1 e1 r1 p1 => by
    split at p1
    · cases r1
      exact ⟨_, rfl, p1 _ G1 H1 (.refl e1.gh) (.bl _)⟩
    · exact p1.elim⟩
def eIf (c : Env → Res Bool) (f g : Env → Res D) : Env → Res D := fun env => (c env).bind fun b => if b = true then f env else g env
theorem q_ifExp {c : Expr} {t : Env → Res Bool} (hc : QT X C c t) (ha : QE X C a fa) (hb : QE X C b fb) : QE X C (.IfExp c a b pos) (eIf t fa fb) :=
  pe_imp (pe_ifExp hc ha hb) fun σ H Q ⟨G, env, s, er, p⟩ => ⟨G, env, s, er, Post.bind p fun c x G1 H1 e1 r1 p1 => by
    cases r1
    split
    · rename_i h
      rw [if_pos h] at p1
      exact ⟨G1, env, e1.gh, er.same e1.gg, p1⟩
    · rename_i h
      rw [if_neg h] at p1
      exact ⟨G1, env, e1.gh, er.same e1.gg, p1⟩⟩
/-! ### argument lists -/
def asNil : Env → Res (List D) := fun _ => .ok []
def asCons (f : Env → Res D) (g : Env → Res (List D)) : Env → Res (List D) := fun env => (f env).bind fun d => (g env).bind fun ds => .ok (d :: ds)
theorem qa_nil : QA X C [] asNil := pa_imp pa_nil fun σ H Q ⟨G, env, s, er, p⟩ => p [] G H (.refl s) .nil
theorem qa_cons {e : Expr} {es : List Expr} {f : Env → Res D} {g : Env → Res (List D)} (he : QE X C e f) (hs : QA X C es g) (hst : starEach (e :: es) X.env = (false, eval e X.env) :: starEach es X.env := by rfl) : QA X C (e :: es) (asCons f g) :=
  pa_imp (pa_cons he hs hst) fun σ H Q ⟨G, env, s, er, p⟩ => ⟨G, env, s, er, Post.bind p fun d x G1 H1 e1 r1 p1 => ⟨G1, env, e1.gh, er.same e1.gg, Post.bind p1 fun ds xs G2 H2 e2 r2 p2 => p2 (x :: xs) G2 H2 (.refl e2.gh) (.cons (r1.same e2.gg) r2)⟩⟩
end
end L2.FL

set_option Elab.async false
set_option linter.all false
set_option maxRecDepth 100000
set_option maxHeartbeats 4000000
namespace L2.FL
open PySem PySem.Spec PyProof.Rows
theorem same_upd {H : Hp} {p : Addr} {o : HO} (h : H p = none) : Same H (upd H p o) := fun b x e => by
  rw [upd_ne (ne_of_none e h)]
  exact e
section
variable {K : PySem.W.Frag} {α ν : Type} {R : Hp → ν → α → Prop} {xw : Nat → Hp → Prop} {G H G' H' : Hp} {Q : ν → Hp → Prop} {Q2 : V → Hp → Prop}
theorem PostF.ext (e : Ext G H G' H') {r : Res (List D)} (h : PostF K xw G H Q2 r) : PostF K xw G' H' Q2 r := by
  cases r with
  | ok a => exact fun p vs G2 H2 x hp gp hl rp => h p vs G2 H2 (e.trans x) (e.hh.free hp) gp hl rp
  | ex n => exact fun H2 s => h H2 (e.hh.trans s)
  | bad => exact h
theorem PostF.bind {r : Res α} {k : α → Res (List D)} (h : PostF K xw G H Q2 (r.bind k)) (j : ∀ a v G1 H1, Ext G H G1 H1 → R G1 v a → PostF K xw G1 H1 Q2 (k a) → Q v H1) : Post R xw G H Q r := by
  cases r with
  | ok a => exact fun v G1 H1 e rp => j a v G1 H1 e rp (PostF.ext e h)
  | ex n => exact h
  | bad => exact h
/-- a new list is laid -/
theorem PostF.new {ds : List D} {vs : List V} (s : Same G H) (h : PostF K xw G H Q2 (.ok ds)) (r : Rps K G vs ds) {p : Addr} (hp : H p = none) : Q2 (.ref p) (upd H p (.lst vs)) :=
  h p vs G _ (Ext.newH s hp) hp (s.free hp) upd_same r
theorem Post.tup {ds : List D} {vs : List V} {Q : VK} (s : Same G H) (h : Post (Rp K) xw G H Q (.ok (.tuple ds))) (r : Rps K G vs ds) {p : Addr} (hp : H p = none) : Q (.ref p) (upd H p (.tup vs)) :=
  h _ _ _ (Ext.new s hp) (.tup (.inl (.inl upd_same)) (r.same (same_upd (s.free hp))))
end
theorem Rps.sqd {K : PySem.W.Frag} {G H : Hp} {a : Addr} {xs : List V} (s : Same G H) (h : Rd G a (.lst xs)) : SqL K H a xs := .inl (Rd.same s h)

/-- a length within the line -/
def fit (ds : List D) : Res (List D) := if ds.length ≤ 16777216 then .ok ds else .bad
theorem fit_ok {ds es : List D} : fit ds = .ok es → ds = es ∧ ds.length ≤ sizeLine := by
  unfold fit
  split
  · rename_i h
    intro e
    cases e
    exact ⟨rfl, by rw [sizeLine_eq]; exact h⟩
  · intro e
    cases e
theorem fit_postF {K : PySem.W.Frag} {xw : Nat → Hp → Prop} {G H : Hp} {Q : VK} {ds : List D} (h : PostF K xw G H Q (fit ds)) : PostF K xw G H Q (.ok ds) ∧ ds.length ≤ sizeLine := by
  unfold fit at h
  split at h
  · rename_i hl
    exact ⟨h, by rw [sizeLine_eq]; exact hl⟩
  · exact h.elim
section
variable {X : Cx} {C : Cf} {a b e : Expr} {es : List Expr} {fa fb f : Env → Res D} {fs : Env → Res (List D)} {pos : Pos}
/-! ### displays -/
def eFit (fs : Env → Res (List D)) : Env → Res (List D) := fun env => (fs env).bind fit
theorem qf_list (h : QA X C es fs) : QF X C (.List es pos) (eFit fs) :=
  pe_imp (pe_lst h) fun σ H Q ⟨G, env, s, er, p⟩ => ⟨G, env, s, er, PostF.bind p fun ds vs G1 H1 e1 r1 p1 => by
    obtain ⟨p2, hl⟩ := fit_postF p1
    exact ⟨by rw [r1.length]; exact hl, fun q hq => PostF.new e1.gh p2 r1 hq⟩⟩
def eTup (fs : Env → Res (List D)) : Env → Res D := fun env => (fs env).bind fun ds => (fit ds).bind fun ds => .ok (.tuple ds)
theorem q_tup {x1} (h : QA X C es fs) : QE X C (.Tuple es x1 pos) (eTup fs) :=
  pe_imp (pe_tup h) fun σ H Q ⟨G, env, s, er, p⟩ => ⟨G, env, s, er, Post.bind p fun ds vs G1 H1 e1 r1 p1 => by
    cases hf : fit ds with
    | ok ds' =>
      obtain ⟨rfl, hl⟩ := fit_ok hf
      rw [hf] at p1
      exact ⟨by rw [r1.length]; exact hl, fun q hq => Post.tup e1.gh p1 r1 hq⟩
    | ex n =>
      unfold fit at hf
      split at hf <;> cases hf
    | bad =>
      rw [hf] at p1
      exact p1.elim⟩
/-! ### calls of built-ins -/
theorem q_callB {id : String} {r : List V → Hp → VK → Prop} {x : Str} {p : Pos} {g : List D → Res D} (hc : CallR X (.builtin id) r)
    (ho : ∀ (vs : List V) (ds : List D) (G H : Hp) (Q : VK), Same G H → Rps X.K G vs ds → Post (Rp X.K) (fun _ _ => False) G H Q (g ds) → r vs H Q) (hn' : ∀ ds, NoEx (g ds))
    (hg : Gl X x) (hm : X.mg x = none) (hv : bootBuiltins x = some (.builtin id)) (ha : QA X C (e :: es) fs) (hn : x ≠ "__name__" := by decide) (hdb : (x == ("__debug__" : Str)) = false := by decide)
    (he : starEach (e :: es) X.env = (false, eval e X.env) :: starEach es X.env := by rfl) (hpl : (backTo pos (starEach es X.env)).any (·.1) = false := by rfl) : QE X C (.Call (.Name x p) (e :: es) [] pos) (fun env => (fs env).bind g) :=
  pe_imp (pe_callB hc hg hm hv ha hn hdb he hpl) fun σ H Q ⟨G, env, s, er, p⟩ => ⟨G, env, s, er, Post.bind p fun ds vs G1 H1 e1 r1 p1 => ho vs ds G1 H1 Q e1.gh r1 (Post.noex (hn' _) p1)⟩
theorem q_callTy {T : String} {r : List V → Hp → VK → Prop} {x : Str} {p : Pos} {g : List D → Res D} (hc : CallR X (.type T) r)
    (ho : ∀ (vs : List V) (ds : List D) (G H : Hp) (Q : VK), Same G H → Rps X.K G vs ds → Post (Rp X.K) (fun _ _ => False) G H Q (g ds) → r vs H Q) (hn' : ∀ ds, NoEx (g ds))
    (hg : Gl X x) (hm : X.mg x = none) (hv : bootBuiltins x = some (.type T)) (ha : QA X C (e :: es) fs) (hn : x ≠ "__name__" := by decide) (hdb : (x == ("__debug__" : Str)) = false := by decide)
    (he : starEach (e :: es) X.env = (false, eval e X.env) :: starEach es X.env := by rfl) (hpl : (backTo pos (starEach es X.env)).any (·.1) = false := by rfl) : QE X C (.Call (.Name x p) (e :: es) [] pos) (fun env => (fs env).bind g) :=
  pe_imp (pe_callTy hc hg hm hv ha hn hdb he hpl) fun σ H Q ⟨G, env, s, er, p⟩ => ⟨G, env, s, er, Post.bind p fun ds vs G1 H1 e1 r1 p1 => ho vs ds G1 H1 Q e1.gh r1 (Post.noex (hn' _) p1)⟩
/-- by cases: no way raises -/
local macro_rules | `(tactic| walk_at "fl_noex") => `(tactic| (intro ds n; split <;> first | (intro h; cases h) | (split <;> (intro h; cases h))))
def gLen : List D → Res D := fun ds => match ds with
  | [.list xs] => .ok (.int xs.length)
  | [.tuple xs] => .ok (.int xs.length)
  | [.dict xs] => .ok (.int xs.length)
  | [.str z] => if z.length ≤ 16777216 then .ok (.int z.length) else .bad
  | _ => .bad
theorem gLen_noex : ∀ ds, NoEx (gLen ds) := by
  unfold gLen
  walk_at "fl_noex"
theorem q_len {p : Pos} (hg : Gl X "len") (hm : X.mg "len" = none) (ha : QA X C (e :: es) fs) (he : starEach (e :: es) X.env = (false, eval e X.env) :: starEach es X.env := by rfl) (hpl : (backTo pos (starEach es X.env)).any (·.1) = false := by rfl) :
    QE X C (.Call (.Name "len" p) (e :: es) [] pos) (fun env => (fs env).bind gLen) :=
  q_callB call_len (fun vs ds G H Q s r p => by
    unfold gLen at p
    split at p
    · cases r with
      | cons r1 r2 =>
        cases r2
        cases r1 with
        | lst h hs =>
          refine ⟨_, _, rfl, .inl ⟨_, .inl (Rd.same s h), rfl⟩, ?_⟩
          rw [hs.length]
          exact p _ G H (.refl s) (.int _)
    · cases r with
      | cons r1 r2 =>
        cases r2
        cases r1 with
        | tup h hs =>
          refine ⟨_, _, rfl, .inr ⟨_, SqT.same s h, rfl⟩, ?_⟩
          rw [hs.length]
          exact p _ G H (.refl s) (.int _)
    · cases r with
      | cons r1 r2 =>
        cases r2
        cases r1 with
        | scr h =>
          refine ⟨_, _, rfl, .inl ⟨_, Same.seq s h, rfl⟩, ?_⟩
          rw [List.length_map]
          rw [List.length_map] at p
          exact p _ G H (.refl s) (.int _)
    · split at p
      · rename_i hl
        cases r with
        | cons r1 r2 =>
          cases r2
          cases r1
          exact ⟨_, _, rfl, ⟨by rw [sizeLine_eq]; exact hl, rfl⟩, p _ G H (.refl s) (.int _)⟩
      · exact p.elim
    · exact p.elim) gLen_noex hg hm PySem.boot_len ha (by decide) (by decide) he hpl
def gAbs : List D → Res D := fun ds => match ds with
  | [.int i] => .ok (.int (if i < 0 then -i else i))
  | _ => .bad
theorem gAbs_noex : ∀ ds, NoEx (gAbs ds) := by
  unfold gAbs
  walk_at "fl_noex"
theorem q_abs {p : Pos} (hg : Gl X "abs") (hm : X.mg "abs" = none) (ha : QA X C (e :: es) fs) (he : starEach (e :: es) X.env = (false, eval e X.env) :: starEach es X.env := by rfl) (hpl : (backTo pos (starEach es X.env)).any (·.1) = false := by rfl) :
    QE X C (.Call (.Name "abs" p) (e :: es) [] pos) (fun env => (fs env).bind gAbs) :=
  q_callB call_abs (fun vs ds G H Q s r p => by
    unfold gAbs at p
    split at p
    · cases r with
      | cons r1 r2 =>
        cases r2
        cases r1
        exact ⟨_, rfl, p _ G H (.refl s) (.int _)⟩
    · exact p.elim) gAbs_noex hg hm boot_abs ha (by decide) (by decide) he hpl
def gMin : List D → Res D := fun ds => match ds with
  | [.int i, .int j] => .ok (.int (if j < i then j else i))
  | _ => .bad
def gMax : List D → Res D := fun ds => match ds with
  | [.int i, .int j] => .ok (.int (if j > i then j else i))
  | _ => .bad
theorem gMin_noex : ∀ ds, NoEx (gMin ds) := by
  unfold gMin
  walk_at "fl_noex"
theorem gMax_noex : ∀ ds, NoEx (gMax ds) := by
  unfold gMax
  walk_at "fl_noex"
theorem q_min {p : Pos} (hc : X.calm = true) (hg : Gl X "min") (hm : X.mg "min" = none) (ha : QA X C (e :: es) fs) (he : starEach (e :: es) X.env = (false, eval e X.env) :: starEach es X.env := by rfl) (hpl : (backTo pos (starEach es X.env)).any (·.1) = false := by rfl) :
    QE X C (.Call (.Name "min" p) (e :: es) [] pos) (fun env => (fs env).bind gMin) :=
  q_callB (call_min2 hc) (fun vs ds G H Q s r p => by
    unfold gMin at p
    split at p
    · cases r with
      | cons r1 r2 =>
        cases r2 with
        | cons r2 r3 =>
          cases r3
          cases r1
          cases r2
          exact ⟨_, _, rfl, p _ G H (.refl s) (.int _)⟩
    · exact p.elim) gMin_noex hg hm boot_min ha (by decide) (by decide) he hpl
theorem q_max {p : Pos} (hc : X.calm = true) (hg : Gl X "max") (hm : X.mg "max" = none) (ha : QA X C (e :: es) fs) (he : starEach (e :: es) X.env = (false, eval e X.env) :: starEach es X.env := by rfl) (hpl : (backTo pos (starEach es X.env)).any (·.1) = false := by rfl) :
    QE X C (.Call (.Name "max" p) (e :: es) [] pos) (fun env => (fs env).bind gMax) :=
  q_callB (call_max2 hc) (fun vs ds G H Q s r p => by
    unfold gMax at p
    split at p
    · cases r with
      | cons r1 r2 =>
        cases r2 with
        | cons r2 r3 =>
          cases r3
          cases r1
          cases r2
          exact ⟨_, _, rfl, p _ G H (.refl s) (.int _)⟩
    · exact p.elim) gMax_noex hg hm boot_max ha (by decide) (by decide) he hpl
/-- the ints of a list of data -/
def intsD : List D → Option (List Int)
  | [] => some []
  | .int i :: ds => (intsD ds).map (i :: ·)
  | _ :: _ => none
theorem intsD_map : ∀ (ns : List Int), intsD (ns.map PyData.int) = some ns
  | [] => rfl
  | n :: ns => by
    show (intsD (ns.map PyData.int)).map (n :: ·) = _
    rw [intsD_map ns]
    rfl
theorem intsD_eq : ∀ {ds : List D} {ns : List Int}, intsD ds = some ns → ds = ns.map PyData.int
  | [], _, e => by cases e; rfl
  | .int i :: ds, ns, e => by
    have e' : (intsD ds).map (i :: ·) = some ns := e
    cases h : intsD ds with
    | none => rw [h] at e'; cases e'
    | some ms =>
      rw [h] at e'
      cases e'
      rw [intsD_eq h]
      rfl
  | .none :: _, _, e => nomatch e
  | .bool _ :: _, _, e => nomatch e
  | .str _ :: _, _, e => nomatch e
  | .list _ :: _, _, e => nomatch e
  | .tuple _ :: _, _, e => nomatch e
  | .dict _ :: _, _, e => nomatch e
def boolsD : List D → Option (List Bool)
  | [] => some []
  | .bool i :: ds => (boolsD ds).map (i :: ·)
  | _ :: _ => none
theorem boolsD_map : ∀ (ns : List Bool), boolsD (ns.map PyData.bool) = some ns
  | [] => rfl
  | n :: ns => by
    show (boolsD (ns.map PyData.bool)).map (n :: ·) = _
    rw [boolsD_map ns]
    rfl
theorem boolsD_eq : ∀ {ds : List D} {ns : List Bool}, boolsD ds = some ns → ds = ns.map PyData.bool
  | [], _, e => by cases e; rfl
  | .bool i :: ds, ns, e => by
    have e' : (boolsD ds).map (i :: ·) = some ns := e
    cases h : boolsD ds with
    | none => rw [h] at e'; cases e'
    | some ms =>
      rw [h] at e'
      cases e'
      rw [boolsD_eq h]
      rfl
  | .none :: _, _, e => nomatch e
  | .int _ :: _, _, e => nomatch e
  | .str _ :: _, _, e => nomatch e
  | .list _ :: _, _, e => nomatch e
  | .tuple _ :: _, _, e => nomatch e
  | .dict _ :: _, _, e => nomatch e
def gSum : List D → Res D := fun ds => match ds with
  | [.list xs] => (match intsD xs with
    | some ns => .ok (.int ns.sum)
    | none => .bad)
  | _ => .bad
theorem gSum_noex : ∀ ds, NoEx (gSum ds) := by
  unfold gSum
  walk_at "fl_noex"
theorem q_sum {p : Pos} (hc : X.calm = true) (hg : Gl X "sum") (hm : X.mg "sum" = none) (ha : QA X C (e :: es) fs) (he : starEach (e :: es) X.env = (false, eval e X.env) :: starEach es X.env := by rfl) (hpl : (backTo pos (starEach es X.env)).any (·.1) = false := by rfl) :
    QE X C (.Call (.Name "sum" p) (e :: es) [] pos) (fun env => (fs env).bind gSum) :=
  q_callB (cr_sum hc) (fun vs ds G H Q s r p => by
    unfold gSum at p
    split at p
    · split at p
      · rename_i ns hns
        cases r with
        | cons r1 r2 =>
          cases r2
          cases r1 with
          | lst h hs =>
            have e1 := intsD_eq hns
            subst e1
            have e2 := hs.ints
            subst e2
            exact ⟨_, ns, rfl, .inl (Rd.same s h), p _ G H (.refl s) (.int _)⟩
      · exact p.elim
    · exact p.elim) gSum_noex hg hm (by decide +kernel) ha (by decide) (by decide) he hpl
def gAll : List D → Res D := fun ds => match ds with
  | [.list xs] => (match boolsD xs with
    | some ns => .ok (.bool (ns.all id))
    | none => .bad)
  | _ => .bad
theorem gAll_noex : ∀ ds, NoEx (gAll ds) := by
  unfold gAll
  walk_at "fl_noex"
theorem q_all {p : Pos} (hc : X.calm = true) (hg : Gl X "all") (hm : X.mg "all" = none) (ha : QA X C (e :: es) fs) (he : starEach (e :: es) X.env = (false, eval e X.env) :: starEach es X.env := by rfl) (hpl : (backTo pos (starEach es X.env)).any (·.1) = false := by rfl) :
    QE X C (.Call (.Name "all" p) (e :: es) [] pos) (fun env => (fs env).bind gAll) :=
  q_callB (cr_all hc) (fun vs ds G H Q s r p => by
    unfold gAll at p
    split at p
    · split at p
      · rename_i ns hns
        cases r with
        | cons r1 r2 =>
          cases r2
          cases r1 with
          | lst h hs =>
            have e1 := boolsD_eq hns
            subst e1
            have e2 := hs.bools
            subst e2
            exact ⟨_, ns, rfl, .inl (Rd.same s h), p _ G H (.refl s) (.bl _)⟩
      · exact p.elim
    · exact p.elim) gAll_noex hg hm (by decide +kernel) ha (by decide) (by decide) he hpl
/-- int(i) of an int -/
def gInt : List D → Res D := fun ds => match ds with
  | [.int i] => .ok (.int i)
  | _ => .bad
theorem gInt_noex : ∀ ds, NoEx (gInt ds) := by
  unfold gInt
  walk_at "fl_noex"
theorem call_int_i : CallR X (.type "int") (fun xs H Q => ∃ i, xs = [.int i] ∧ Q (.int i) H) := by
  intro pins s σ H xs us Q I r h
  obtain ⟨i, rfl, q⟩ := h
  obtain ⟨u, rfl, ⟨t, rfl⟩⟩ := vals1 r
  exact call_int_int ⟨.int i, H, I, ⟨_, rfl⟩, q⟩
theorem q_int_of {p : Pos} (hg : Gl X "int") (hm : X.mg "int" = none) (ha : QA X C (e :: es) fs) (he : starEach (e :: es) X.env = (false, eval e X.env) :: starEach es X.env := by rfl) (hpl : (backTo pos (starEach es X.env)).any (·.1) = false := by rfl) :
    QE X C (.Call (.Name "int" p) (e :: es) [] pos) (fun env => (fs env).bind gInt) :=
  q_callTy call_int_i (fun vs ds G H Q s r p => by
    unfold gInt at p
    split at p
    · cases r with
      | cons r1 r2 =>
        cases r2
        cases r1
        exact ⟨_, rfl, p _ G H (.refl s) (.int _)⟩
    · exact p.elim) gInt_noex hg hm boot_int ha (by decide) (by decide) he hpl
/-- list(x) -/
def gList : List D → Res (List D) := fun ds => match ds with
  | [.list xs] => .ok xs
  | [.tuple xs] => .ok xs
  | [.dict xs] => .ok (xs.map (·.1))
  | _ => .bad
theorem scr_fst (ns : List Int) : (ns.map fun n => (PyData.int n, PyData.none)).map (·.1) = ns.map PyData.int := by
  rw [List.map_map]
  rfl
theorem qf_listOf {p : Pos} (hg : Gl X "list") (hm : X.mg "list" = none) (ha : QA X C (e :: es) fs) (he : starEach (e :: es) X.env = (false, eval e X.env) :: starEach es X.env := by rfl) (hpl : (backTo pos (starEach es X.env)).any (·.1) = false := by rfl) :
    QF X C (.Call (.Name "list" p) (e :: es) [] pos) (fun env => (fs env).bind gList) :=
  pe_imp (pe_callTy call_list_of hg hm boot_list ha (by decide) (by decide) he hpl) fun σ H Q ⟨G, env, s, er, p⟩ => ⟨G, env, s, er, PostF.bind p fun ds vs G1 H1 e1 r1 p1 => by
    unfold gList at p1
    split at p1
    · cases r1 with
      | cons r1 r2 =>
        cases r2
        cases r1 with
        | lst h hs => exact ⟨_, _, rfl, .inl (.inl (Rd.same e1.gh h)), fun q hq => PostF.new e1.gh p1 hs hq⟩
    · cases r1 with
      | cons r1 r2 =>
        cases r2
        cases r1 with
        | tup h hs => exact ⟨_, _, rfl, .inr (SqT.same e1.gh h), fun q hq => PostF.new e1.gh p1 hs hq⟩
    · cases r1 with
      | cons r1 r2 =>
        cases r2
        cases r1 with
        | scr h =>
          rw [scr_fst] at p1
          exact ⟨_, _, rfl, .inl (Same.seq e1.gh h), fun q hq => PostF.new e1.gh p1 (Rps.of_ints _) hq⟩
    · exact p1.elim⟩
/-- tuple(x) -/
def gTuple : List D → Res D := fun ds => match ds with
  | [.list xs] => .ok (.tuple xs)
  | [.tuple xs] => .ok (.tuple xs)
  | _ => .bad
theorem q_tupleOf {p : Pos} (hg : Gl X "tuple") (hm : X.mg "tuple" = none) (ha : QA X C (e :: es) fs) (he : starEach (e :: es) X.env = (false, eval e X.env) :: starEach es X.env := by rfl) (hpl : (backTo pos (starEach es X.env)).any (·.1) = false := by rfl) :
    QE X C (.Call (.Name "tuple" p) (e :: es) [] pos) (fun env => (fs env).bind gTuple) :=
  pe_imp (pe_callTy call_tuple_of hg hm boot_tuple ha (by decide) (by decide) he hpl) fun σ H Q ⟨G, env, s, er, p⟩ => ⟨G, env, s, er, Post.bind p fun ds vs G1 H1 e1 r1 p1 => by
    unfold gTuple at p1
    split at p1
    · cases r1 with
      | cons r1 r2 =>
        cases r2
        cases r1 with
        | lst h hs => exact ⟨_, _, rfl, .inl ⟨.inl (Rd.same e1.gh h), fun q hq => Post.tup e1.gh p1 hs hq⟩⟩
    · cases r1 with
      | cons r1 r2 =>
        cases r2
        cases r1 with
        | tup h hs => exact ⟨_, _, rfl, .inr ⟨SqT.same e1.gh h, p1 _ _ _ (.refl e1.gh) (.tup h hs)⟩⟩
    · exact p1.elim⟩
/-! ### isinstance -/
def tyNm : D → String := fun d => match d with
  | .none => "NoneType"
  | .bool _ => "bool"
  | .int _ => "int"
  | .str _ => "str"
  | .list _ => "list"
  | .tuple _ => "tuple"
  | .dict _ => "list"
theorem kitT {d : D} {v : V} {u : Value} {pins : List (Addr × Obj)} {σ : St} {H : Hp} {s : Shared} (I : Inv X pins σ H s) (rv : RelV v u) (r : Rp X.K H v d) :
    ∃ (T : String) (P : Heap → Prop), PySem.W.KitX X.K u (.type T) P ∧ P s.heap ∧ u ≠ .builtin "__main__.__loader__#opaque" ∧ T = tyNm d := by
  cases r with
  | non =>
    cases rv
    exact ⟨_, _, PySem.W.kitx_none, True.intro, (fun z => nomatch z), rfl⟩
  | bl b =>
    cases rv
    exact ⟨_, _, PySem.W.kitx_bool, True.intro, (fun z => nomatch z), rfl⟩
  | int i =>
    obtain ⟨t, rfl⟩ := rv
    exact ⟨_, _, PySem.W.kitx_int, True.intro, (fun z => nomatch z), rfl⟩
  | str x =>
    obtain ⟨t, rfl⟩ := rv
    exact ⟨_, _, PySem.W.kitx_str, True.intro, (fun z => nomatch z), rfl⟩
  | lst h hs =>
    cases rv
    obtain ⟨_, its, n, _, h1⟩ := h.ok I.hok
    exact ⟨_, _, PySem.W.kitx_list, ⟨_, h1, rfl⟩, (fun z => nomatch z), rfl⟩
  | tup h hs =>
    cases rv
    obtain ⟨its, _, ⟨o, h1, h2, _⟩, _⟩ := I.tuple h
    exact ⟨_, _, PySem.W.kitx_tuple, ⟨o, h1, h2⟩, (fun z => nomatch z), rfl⟩
  | scr h =>
    cases rv
    obtain ⟨its, _, ⟨o, n, h1, h2, _⟩, _⟩ := I.list h
    exact ⟨_, _, PySem.W.kitx_list, ⟨o, h1, h2⟩, (fun z => nomatch z), rfl⟩
def isInt : D → Bool := fun d => match d with
  | .int _ => true
  | .bool _ => true
  | _ => false
def isBool : D → Bool := fun d => match d with
  | .bool _ => true
  | _ => false
def isList : D → Bool := fun d => match d with
  | .list _ => true
  | .dict _ => true
  | _ => false
def isTuple : D → Bool := fun d => match d with
  | .tuple _ => true
  | _ => false
def isStr : D → Bool := fun d => match d with
  | .str _ => true
  | _ => false
def KitOf (T : String) (f : D → Bool) : Prop := ∀ d : D, kitB (tyNm d) T = some (f d)
theorem kit_int : KitOf "int" isInt := fun d => by cases d <;> (simp only [tyNm, isInt]; decide +kernel)
theorem kit_bool : KitOf "bool" isBool := fun d => by cases d <;> (simp only [tyNm, isBool]; decide +kernel)
theorem kit_list : KitOf "list" isList := fun d => by cases d <;> (simp only [tyNm, isList]; decide +kernel)
theorem kit_tuple : KitOf "tuple" isTuple := fun d => by cases d <;> (simp only [tyNm, isTuple]; decide +kernel)
theorem kit_str : KitOf "str" isStr := fun d => by cases d <;> (simp only [tyNm, isStr]; decide +kernel)
def rIsF (K : PySem.W.Frag) (T : String) (f : D → Bool) : List V → Hp → VK → Prop := fun xs H Q => ∃ x d, xs = [x, .ty T] ∧ Rp K H x d ∧ Q (.bl (f d)) H
theorem call_isF {T : String} {f : D → Bool} (k : KitOf T f) : CallR X (.builtin "isinstance") (rIsF X.K T f) := by
  intro pins s σ H xs us Q I r h
  obtain ⟨x, d, rfl, rp, q⟩ := h
  obtain ⟨u1, u2, rfl, r1, r2⟩ := vals2 r
  cases (show u2 = Value.type T from r2)
  obtain ⟨T', P, Z, p, hx, eT⟩ := kitT I r1 rp
  have e := k d
  rw [← eT] at e
  exact PySem.W.kia_one Z I.kIn p (kit_ty e) hx fun tk => ⟨.bl (f d), H, I.tok tk, rfl, q⟩
def eIsi (f : D → Bool) (fa : Env → Res D) : Env → Res D := fun env => (fa env).bind fun d => .ok (.bool (f d))
theorem q_isi {T : String} {g : D → Bool} {x : Str} {p p2 : Pos} (k : KitOf T g) (hg : Gl X "isinstance") (hm : X.mg "isinstance" = none) (hgT : Gl X x) (hmT : X.mg x = none) (hvT : bootBuiltins x = some (.type T)) (ha : QE X C e fa)
    (hnT : x ≠ "__name__" := by decide) (hdT : (x == ("__debug__" : Str)) = false := by decide)
    (he : starEach (e :: [.Name x p2]) X.env = (false, eval e X.env) :: starEach [.Name x p2] X.env := by rfl) (he2 : starEach [.Name x p2] X.env = (false, eval (.Name x p2) X.env) :: starEach [] X.env := by rfl) (hpl : (backTo pos (starEach [.Name x p2] X.env)).any (·.1) = false := by rfl) :
    QE X C (.Call (.Name "isinstance" p) [e, .Name x p2] [] pos) (eIsi g fa) :=
  pe_imp (pe_callB (call_isF k) hg hm boot_isinstance (pa_cons ha (pa_cons (pe_bltn hgT hmT hvT (v := .ty T) rfl hnT hdT) pa_nil he2) he) (by decide) (by decide) he hpl) fun σ H Q ⟨G, env, s, er, p⟩ => ⟨G, env, s, er, Post.bind p fun d v G1 H1 e1 r1 p1 => ⟨v, d, rfl, r1.same e1.gh, p1 _ _ _ (.refl e1.gh) (.bl _)⟩⟩
/-! ### subscripts, slices -/
def gIx : D → D → Res D := fun x y => match x, y with
  | .list xs, .int i => (match atI xs i with
    | some d => .ok d
    | none => .bad)
  | .tuple xs, .int i => (match atI xs i with
    | some d => .ok d
    | none => .bad)
  | .dict xs, .int i => (match atI xs i with
    | some d => .ok d.1
    | none => .bad)
  | .str z, .int i => if z.length ≤ 16777216 then (match atI z.cps.toList i with
    | some c => .ok (.str ⟨#[c]⟩)
    | none => .bad) else .bad
  | _, _ => .bad
theorem gIx_noex : ∀ x y, NoEx (gIx x y) := by
  intro x y n
  unfold gIx
  split
  · split <;> intro h <;> cases h
  · split <;> intro h <;> cases h
  · split <;> intro h <;> cases h
  · split
    · split <;> intro h <;> cases h
    · intro h
      cases h
  · intro h
    cases h
theorem Rps.atI {K : PySem.W.Frag} {H : Hp} {vs : List V} {ds : List D} {i : Int} {d : D} (r : Rps K H vs ds) (h : L2.atI ds i = some d) : ∃ v, L2.atI vs i = some v ∧ Rp K H v d := by
  unfold L2.atI at h ⊢
  rw [r.length]
  cases e : ixN ds.length i with
  | none => rw [e] at h; cases h
  | some j =>
    rw [e] at h
    exact r.get h
theorem atI_map {α β : Type} {f : α → β} {xs : List α} {i : Int} : L2.atI (xs.map f) i = (L2.atI xs i).map f := by
  unfold L2.atI
  rw [List.length_map]
  cases ixN xs.length i with
  | none => rfl
  | some j =>
    show (xs.map f)[j]? = (xs[j]?).map f
    rw [List.getElem?_map]
theorem atI_scr {ns : List Int} {i : Int} {d : D × D} (h : L2.atI (ns.map fun n => (PyData.int n, PyData.none)) i = some d) : ∃ n, L2.atI (ns.map V.int) i = some (.int n) ∧ d.1 = .int n := by
  rw [atI_map] at h ⊢
  cases e : L2.atI ns i with
  | none => rw [e] at h; cases h
  | some n =>
    rw [e] at h
    cases h
    exact ⟨n, rfl, rfl⟩
theorem gIx_op {K : PySem.W.Frag} : OpF K gIx (rIx K) := by
  intro x y dx dy G H Q s rx ry p
  unfold gIx at p
  split at p
  · cases rx with
    | lst h hs =>
      cases ry
      split at p
      · rename_i d hd
        obtain ⟨v, hv, rv⟩ := hs.atI hd
        exact .inl ⟨_, _, _, v, rfl, rfl, .inl (Rd.same s h), hv, p v G H (.refl s) rv⟩
      · exact p.elim
  · cases rx with
    | tup h hs =>
      cases ry
      split at p
      · rename_i d hd
        obtain ⟨v, hv, rv⟩ := hs.atI hd
        exact .inr (.inl ⟨_, _, _, v, rfl, rfl, SqT.same s h, hv, p v G H (.refl s) rv⟩)
      · exact p.elim
  · cases rx with
    | scr h =>
      cases ry
      split at p
      · rename_i d hd
        obtain ⟨n, hv, e⟩ := atI_scr hd
        rw [e] at p
        exact .inl ⟨_, _, _, _, rfl, rfl, Same.seq s h, hv, p _ G H (.refl s) (.int n)⟩
      · exact p.elim
  · cases rx
    cases ry
    split at p
    · rename_i hz
      split at p
      · rename_i c hc
        exact .inr (.inr ⟨_, _, c, rfl, rfl, by rw [sizeLine_eq]; exact hz, hc, p _ G H (.refl s) (.str _)⟩)
      · exact p.elim
    · exact p.elim
  · exact p.elim
theorem q_ix (ha : QE X C a fa) (hb : QE X C b fb) (hs : PlainIx b) : QE X C (.Subscript a b pos) (e2 gIx fa fb) := pe_imp (pe_ix ix_seq ha hb hs) fun _ _ _ h => op2 gIx_op gIx_noex h
def cutD (ds : List D) (lo hi : Option Int) : List D := (ds.drop (HT.sIx ds.length 0 lo)).take (HT.sIx ds.length ds.length hi - HT.sIx ds.length 0 lo)
theorem Rps.cut {K : PySem.W.Frag} {H : Hp} {vs : List V} {ds : List D} (lo hi : Option Int) (r : Rps K H vs ds) : Rps K H (cutV vs lo hi) (cutD ds lo hi) := by
  unfold cutV cutD
  rw [r.length]
  exact (r.drop _).take _
/-- a slice's part -/
def eNo : Env → Res (Option Int) := fun _ => .ok none
def eSo (f : Env → Res D) : Env → Res (Option Int) := fun env => (f env).bind fun d => match d with
  | .int i => .ok (some i)
  | _ => .bad
abbrev OpR' : Hp → Option Int → Option Int → Prop := fun _ a b => a = b
def tXo (K : PySem.W.Frag) (C : Cf) (f : Env → Res (Option Int)) : TO := fun σ H Q => ∃ G env, Same G H ∧ ER K C.z G env σ ∧ Post OpR' (C.xw σ) G H Q (f env)
abbrev QO (X : Cx) (C : Cf) (e : Option Expr) (f : Env → Res (Option Int)) : Prop := PO X e (tXo X.K C f)
theorem po_imp {e : Option Expr} {t t' : TO} (h : PO X e t) (i : ∀ σ H Q, t' σ H Q → t σ H Q) : PO X e t' := ⟨fun pins s σ H Q I w => h.run pins s σ H Q I (i σ H Q w)⟩
theorem qo_no : QO X C none eNo := po_imp po_none fun σ H Q ⟨G, env, s, er, p⟩ => p _ G H (.refl s) rfl
theorem qo_so (h : QE X C e f) : QO X C (some e) (eSo f) := po_imp (po_some h) fun σ H Q ⟨G, env, s, er, p⟩ => ⟨G, env, s, er, Post.bind p fun d v G1 H1 e1 r1 p1 => by
  split at p1
  · cases r1
    exact ⟨_, rfl, p1 _ _ _ (.refl e1.gh) rfl⟩
  · exact p1.elim⟩
def eSlice (fa : Env → Res D) (fl fh : Env → Res (Option Int)) : Env → Res (List D) := fun env => (fa env).bind fun d => (fl env).bind fun lo => (fh env).bind fun hi => match d with
  | .list ds => .ok (cutD ds lo hi)
  | .dict ds => .ok (cutD (ds.map (·.1)) lo hi)
  | _ => .bad
theorem qf_slice {lo hi : Option Expr} {p2 : Pos} {fl fh : Env → Res (Option Int)} (ha : QE X C a fa) (hl : QO X C lo fl) (hh : QO X C hi fh) : QF X C (.Subscript a (.Slice lo hi none p2) pos) (eSlice fa fl fh) :=
  pe_imp (pe_slice sl_list ha hl hh) fun σ H Q ⟨G, env, s, er, p⟩ => ⟨G, env, s, er, PostF.bind p fun d x G1 H1 e1 r1 p1 => ⟨G1, env, e1.gh, er.same e1.gg, PostF.bind p1 fun lo l G2 H2 e2 r2 p2 => ⟨G2, env, e2.gh, (er.same e1.gg).same e2.gg, PostF.bind p2 fun hi u G3 H3 e3 r3 p3 => by
    cases r2
    cases r3
    split at p3
    · cases r1 with
      | lst h hs => exact ⟨_, _, rfl, .inl (Rd.same ((e2.gg.trans e3.gg).trans e3.gh) h), fun q hq => PostF.new e3.gh p3 ((hs.same (e2.gg.trans e3.gg)).cut _ _) hq⟩
    · cases r1 with
      | scr h =>
        rw [scr_fst] at p3
        exact ⟨_, _, rfl, Same.seq ((e2.gg.trans e3.gg).trans e3.gh) h, fun q hq => PostF.new e3.gh p3 ((Rps.of_ints _).cut _ _) hq⟩
    · exact p3.elim⟩⟩⟩
def eRev (fa : Env → Res D) : Env → Res (List D) := fun env => (fa env).bind fun d => match d with
  | .list ds => .ok ds.reverse
  | _ => .bad
theorem qf_rev {k : Nat} {p1 p2 p3 : Pos} (ha : QE X C a fa) : QF X C (.Subscript a (.Slice none none (some (.UnaryOp .USub (.Constant (.int 1) k p1) p2)) p3) pos) (eRev fa) :=
  pe_imp (pe_revL ha) fun σ H Q ⟨G, env, s, er, p⟩ => ⟨G, env, s, er, PostF.bind p fun d x G1 H1 e1 r1 p1 => by
    split at p1
    · cases r1 with
      | lst h hs => exact ⟨_, _, rfl, .inl (Rd.same e1.gh h), fun q hq => PostF.new e1.gh p1 hs.reverse hq⟩
    · exact p1.elim⟩
/-! ### list + list, list * int -/
theorem Inv.lstR {pins : List (Addr × Obj)} {σ : St} {H : Hp} {s : Shared} {l : Addr} {xs : List V} (I : Inv X pins σ H s) (h : Rd H l (.lst xs)) : xs.length ≤ sizeLine ∧ ∃ (its : List Value) (n : Nat), Vals xs its ∧ xs.length = its.length ∧ s.heap.get? l = some { cls := .type "list", data := .seq its.toArray n } := by
  obtain ⟨z, its, n, r, e⟩ := h.ok I.hok
  exact ⟨z, its, n, r, r.length, e⟩
def rCatR : R2 := fun x y H Q => ∃ l b xs zs, x = .ref l ∧ y = .ref b ∧ Rd H l (.lst xs) ∧ Rd H b (.lst zs) ∧ xs.length + zs.length ≤ sizeLine ∧ ∀ p, H p = none → Q (.ref p) (upd H p (.lst (xs ++ zs)))
theorem op_catR : OpR X (binaryOp .Add) rCatR := by
  intro pins s σ H x y v u Q I rx ry h
  obtain ⟨l, b, xs, zs, rfl, rfl, hH, hB, hz, q⟩ := h
  cases rx
  cases ry
  obtain ⟨z, its, n, r, hl, e⟩ := Inv.lstR I hH
  obtain ⟨z2, its2, n2, r2, hl2, e2⟩ := Inv.lstR I hB
  refine PySem.P.add_list e e2 ?_ (by rw [List.size_toArray, List.size_toArray]; omega)
  have ea : its.toArray ++ its2.toArray = (its ++ its2).toArray := by simp
  rw [ea]
  exact ⟨.ref _, _, I.lnew (t' := s.toks) (r.append r2) (by rw [List.length_append]; omega), rfl, q _ I.fresh⟩
/-- a + b, lists: a new list -/
def gCat : D → D → Res (List D) := fun x y => match x, y with
  | .list xs, .list ys => fit (xs ++ ys)
  | _, _ => .bad
def e2F (g : D → D → Res (List D)) (fa fb : Env → Res D) : Env → Res (List D) := fun env => (fa env).bind fun x => (fb env).bind fun y => g x y
theorem qf_cat (ha : QE X C a fa) (hb : QE X C b fb) : QF X C (.BinOp a .Add b pos) (e2F gCat fa fb) :=
  pe_imp (pe_op op_catR ha hb) fun σ H Q ⟨G, env, s, er, p⟩ => ⟨G, env, s, er, PostF.bind p fun dx x G1 H1 e1 r1 p1 => ⟨G1, env, e1.gh, er.same e1.gg, PostF.bind p1 fun dy y G2 H2 e2 r2 p2 => by
    unfold gCat at p2
    split at p2
    · obtain ⟨p3, hl⟩ := fit_postF p2
      cases r1 with
      | lst h hs =>
        cases r2 with
        | lst h2 hs2 =>
          rw [List.length_append] at hl
          have hs' := hs.same e2.gg
          exact ⟨_, _, _, _, rfl, rfl, Rd.same (e2.gg.trans e2.gh) h, Rd.same e2.gh h2, by rw [hs.length, hs2.length]; exact hl, fun q hq => PostF.new e2.gh p3 (hs'.append hs2) hq⟩
    · exact p2.elim⟩⟩
/-- strings -/
def gAddS : D → D → Res D := fun x y => match x, y with
  | .str i, .str j => if i.length + j.length ≤ 16777216 then .ok (.str (i ++ j)) else .bad
  | _, _ => .bad
theorem gAddS_noex : ∀ x y, NoEx (gAddS x y) := by
  intro x y n
  unfold gAddS
  split
  · split <;> intro h <;> cases h
  · intro h
    cases h
theorem q_addS (ha : QE X C a fa) (hb : QE X C b fb) : QE X C (.BinOp a .Add b pos) (e2 gAddS fa fb) := q_bin op_add_str (by
  intro x y dx dy G H Q s rx ry p
  unfold gAddS at p
  split at p
  · cases rx
    cases ry
    split at p
    · rename_i h
      exact ⟨_, _, rfl, rfl, by rw [sizeLine_eq]; exact h, p _ G H (.refl s) (.str _)⟩
    · exact p.elim
  · exact p.elim) gAddS_noex ha hb
/-- is None, is not None -/
def gIsN : D → D → Res D := fun x y => match y with
  | .none => .ok (.bool (match x with | .none => true | _ => false))
  | _ => .bad
def gNotN : D → D → Res D := fun x y => match y with
  | .none => .ok (.bool (match x with | .none => false | _ => true))
  | _ => .bad
theorem gIsN_noex : ∀ x y, NoEx (gIsN x y) := by
  intro x y n
  unfold gIsN
  split <;> intro h <;> cases h
theorem gNotN_noex : ∀ x y, NoEx (gNotN x y) := by
  intro x y n
  unfold gNotN
  split <;> intro h <;> cases h
theorem isN_op {K : PySem.W.Frag} : OpF K gIsN (fun x y H Q => y = .non ∧ Q (.bl (decide (x = .non))) H) := by
  intro x y dx dy G H Q s rx ry p
  unfold gIsN at p
  split at p
  · cases ry
    refine ⟨rfl, ?_⟩
    cases rx <;> exact p _ G H (.refl s) (.bl _)
  · exact p.elim
theorem notN_op {K : PySem.W.Frag} : OpF K gNotN (fun x y H Q => y = .non ∧ Q (.bl (!decide (x = .non))) H) := by
  intro x y dx dy G H Q s rx ry p
  unfold gNotN at p
  split at p
  · cases ry
    refine ⟨rfl, ?_⟩
    cases rx <;> exact p _ G H (.refl s) (.bl _)
  · exact p.elim
theorem q_isN (ha : QE X C a fa) (hb : QE X C b fb) : QE X C (.Compare a [.Is] [b] pos) (e2 gIsN fa fb) := q_cmp op_isN isN_op gIsN_noex (nomark _) ha hb
theorem q_notN (ha : QE X C a fa) (hb : QE X C b fb) : QE X C (.Compare a [.IsNot] [b] pos) (e2 gNotN fa fb) := q_cmp op_notN notN_op gNotN_noex (nomark _) ha hb
theorem qt_isN (ha : QE X C a fa) (hb : QE X C b fb) : QT X C (.Compare a [.Is] [b] pos) (eB (e2 gIsN fa fb)) := qt_cmp op_isN isN_op gIsN_noex (nomark _) ha hb
theorem qt_notN (ha : QE X C a fa) (hb : QE X C b fb) : QT X C (.Compare a [.IsNot] [b] pos) (eB (e2 gNotN fa fb)) := qt_cmp op_notN notN_op gNotN_noex (nomark _) ha hb
/-- [e] * n: the list is the display's own -/
def gRep : D → D → Res (List D) := fun x y => match x, y with
  | .list xs, .int k => if (-k).toNat ≤ 1000000000 ∧ k.toNat ≤ 1000000000 ∧ xs.length * k.toNat ≤ 16777216 then .ok (List.replicate k.toNat xs).flatten else .bad
  | _, _ => .bad
def e2FF (fa : Env → Res (List D)) (fb : Env → Res D) : Env → Res (List D) := fun env => (fa env).bind fun x => (fb env).bind fun y => gRep (.list x) y
theorem qf_rep {ff : Env → Res (List D)} (ha : QF X C a ff) (hb : QE X C b fb) : QF X C (.BinOp a .Mult b pos) (e2FF ff fb) :=
  pe_imp (pe_op op_rep ha hb) fun σ H Q ⟨G, env, s, er, p⟩ => ⟨G, env, s, er, by
    unfold e2FF at p
    cases hf : ff env with
    | bad =>
      rw [hf] at p
      exact p
    | ex n =>
      rw [hf] at p
      exact p
    | ok ds =>
      rw [hf] at p
      have p' : PostF X.K (C.xw σ) G H Q ((fb env).bind fun y => gRep (.list ds) y) := p
      intro l vs G1 H1 e1 hp gp hl r1
      refine ⟨G1, env, e1.gh, er.same e1.gg, PostF.bind (PostF.ext e1 p') fun dy y G2 H2 e2 r2 p2 => ?_⟩
      unfold gRep at p2
      split at p2
      · rename_i k ex
        cases ex
        cases r2
        split at p2
        · rename_i h
          have e63 : (2 : Int) ^ 63 = 9223372036854775808 := by decide
          exact ⟨l, k, vs, rfl, rfl, e2.hh _ _ hl, by rw [e63]; have := h.1; omega, by rw [e63]; have := h.2.1; omega, by rw [r1.length, sizeLine_eq]; exact h.2.2, fun q hq => PostF.new e2.gh p2 ((r1.same e2.gg).rep _) hq⟩
        · exact p2.elim
      · exact p2.elim⟩
end
end L2.FL

set_option Elab.async false
set_option linter.all false
set_option maxRecDepth 100000
set_option maxHeartbeats 4000000
namespace L2.FL
open PySem PySem.Spec PyProof.Rows
/-! ### slots -/
def setV (σ : St) : List Nat → List V → St
  | i :: is, v :: vs => setV (σ.set i (some v)) is vs
  | _, _ => σ
def setE (e : Env) : List Nat → List D → Env
  | i :: is, d :: ds => setE (e.set i (.val d)) is ds
  | _, _ => e
theorem setV_length : ∀ (is : List Nat) (vs : List V) (σ : St), (setV σ is vs).length = σ.length
  | [], _, _ => rfl
  | _ :: _, [], _ => rfl
  | i :: is, v :: vs, σ => by
    show (setV (σ.set i (some v)) is vs).length = _
    rw [setV_length is vs, List.length_set]
theorem ER.set {K : PySem.W.Frag} {z : Addr × Nat} {G : Hp} {env : Env} {σ : St} {v : V} {d : D} (e : ER K z G env σ) (r : Rp K G v d) (i : Nat) : ER K z G (env.set i (.val d)) (σ.set i (some v)) := by
  refine ⟨fun j d' h => ?_, fun j n h => ?_, by rw [List.length_set, List.length_set]; exact e.len⟩
  · by_cases hj : i = j
    · subst hj
      have hi : i < env.length := by
        have := (List.getElem?_eq_some_iff.mp h).1
        rwa [List.length_set] at this
      rw [List.getElem?_set_self hi] at h
      cases h
      exact ⟨v, List.getElem?_set_self (by rw [← e.len]; exact hi), r⟩
    · rw [List.getElem?_set_ne hj] at h
      rw [List.getElem?_set_ne hj]
      exact e.val j d' h
  · by_cases hj : i = j
    · subst hj
      have hi : i < env.length := by
        have := (List.getElem?_eq_some_iff.mp h).1
        rwa [List.length_set] at this
      rw [List.getElem?_set_self hi] at h
      cases h
    · rw [List.getElem?_set_ne hj] at h
      rw [List.getElem?_set_ne hj]
      exact e.exc j n h
theorem ER.setAll {K : PySem.W.Frag} {z : Addr × Nat} {G : Hp} : ∀ {is : List Nat} {vs : List V} {ds : List D} {env : Env} {σ : St}, ER K z G env σ → Rps K G vs ds → ER K z G (setE env is ds) (setV σ is vs)
  | [], _, _, _, _, e, _ => e
  | _ :: _, _, _, _, _, e, .nil => e
  | i :: is, _, _, _, _, e, .cons h hs => ER.setAll (is := is) (e.set h i) hs
/-! ### targets -/
inductive Tg where
  | nm (i : Nat)
  | tp (is : List Nat)
  | ul (is : List Nat)
def Tg.is : Tg → List Nat
  | .nm i => [i]
  | .tp is => is
  | .ul is => is
def Tg.parts : Tg → D → Option (List D)
  | .nm _, d => some [d]
  | .tp is, .tuple ds => if ds.length = is.length then some ds else none
  | .ul is, .list ds => if ds.length = is.length then some ds else none
  | _, _ => none
def gNames : List Nat → TGs
  | [] => gNil
  | i :: is => gCons (gName i) (gNames is)
def Tg.g (K : PySem.W.Frag) : Tg → TG
  | .nm i => gName i
  | .tp is => gTup K is.length (gNames is)
  | .ul is => gUnl K is.length (gNames is)
theorem gNames_run : ∀ {is : List Nat} {vs : List V} {σ : St} {H : Hp} {Q : St → Hp → Prop}, vs.length = is.length → Q (setV σ is vs) H → gNames is vs σ H Q
  | [], [], _, _, _, _, q => ⟨rfl, q⟩
  | i :: is, v :: vs, σ, H, Q, h, q => ⟨v, vs, rfl, gNames_run (is := is) (by simpa using h) q⟩
  | [], _ :: _, _, _, _, h, _ => by simp at h
  | _ :: _, [], _, _, _, h, _ => by simp at h
theorem Tg.run {K : PySem.W.Frag} {G H : Hp} {tg : Tg} {v : V} {d : D} {ds : List D} {σ : St} {Q : St → Hp → Prop} (s : Same G H) (r : Rp K G v d) (hp : tg.parts d = some ds) (q : ∀ vs, Rps K G vs ds → Q (setV σ tg.is vs) H) : tg.g K v σ H Q := by
  cases tg with
  | nm i =>
    cases hp
    exact q [v] (.cons r .nil)
  | tp is =>
    cases r <;> first | (cases hp; done) | skip
    rename_i h hs
    unfold Tg.parts at hp
    dsimp only at hp
    split at hp
    · rename_i hl
      cases hp
      exact ⟨_, _, rfl, SqT.same s h, hs.length.trans hl, gNames_run (hs.length.trans hl) (q _ hs)⟩
    · cases hp
  | ul is =>
    cases r <;> first | (cases hp; done) | skip
    rename_i h hs
    unfold Tg.parts at hp
    dsimp only at hp
    split at hp
    · rename_i hl
      cases hp
      exact ⟨_, _, rfl, .inl (Rd.same s h), hs.length.trans hl, gNames_run (hs.length.trans hl) (q _ hs)⟩
    · cases hp
/-- a target in the program's text -/
abbrev QG (X : Cx) (tg : Expr) (t : Tg) : Prop := PG X tg (t.g X.K)
/-! ### what a loop goes over -/
structure Wk (K : PySem.W.Frag) (J : It) (G : Hp) (ds : List D) : Prop where
  go : ∀ i H, Same G H → i < ds.length → J.go i H
  yl : ∀ i H v H' d Gc, Same G Gc → Same Gc H → J.yld i H v H' → ds[i]? = some d → ∃ Gc', Ext Gc H Gc' H' ∧ Rp K Gc' v d
  st : ∀ i H, Same G H → ds.length ≤ i → J.stop i H
abbrev WkR (K : PySem.W.Frag) : Hp → It → List D → Prop := fun G J ds => Wk K J G ds
def tXi (K : PySem.W.Frag) (C : Cf) (f : Env → Res (List D)) : TI := fun σ H R => ∃ G env, Same G H ∧ ER K C.z G env σ ∧ Post (WkR K) (C.xw σ) G H R (f env)
abbrev QI (X : Cx) (C : Cf) (tg iter : Expr) (f : Env → Res (List D)) : Prop := PI X tg iter (tXi X.K C f)
theorem pi_imp {X : Cx} {tg iter : Expr} {t t' : TI} (h : PI X tg iter t) (i : ∀ σ H R, t' σ H R → t σ H R) : PI X tg iter t' := ⟨fun pins s σ H R I w => h.run pins s σ H R I (i σ H R w)⟩
section
variable {K : PySem.W.Frag} {G : Hp} {a b : Addr} {xs : List V} {ds : List D}
theorem wk_list (h : SqL K G a xs) (hs : Rps K G xs ds) : Wk K (Itl K a) G ds where
  go i H s hi := by
    have hx : i < xs.length := by rw [hs.length]; exact hi
    exact ⟨xs, xs[i], Same.seq s h, List.getElem?_eq_getElem hx⟩
  yl i H v H' d Gc s1 s2 y hd := by
    obtain ⟨rfl, hy⟩ := y
    obtain ⟨v', hv, rv⟩ := hs.get hd
    have e := (hy xs (Same.seq (s1.trans s2) h)).symm.trans hv
    cases e
    exact ⟨Gc, .refl s2, rv.same s1⟩
  st i H s hi := ⟨xs, Same.seq s h, by rw [hs.length]; exact hi⟩
theorem wk_tup (h : SqT K G a xs) (hs : Rps K G xs ds) : Wk K (Itt K a) G ds where
  go i H s hi := by
    have hx : i < xs.length := by rw [hs.length]; exact hi
    exact ⟨xs, xs[i], SqT.same s h, List.getElem?_eq_getElem hx⟩
  yl i H v H' d Gc s1 s2 y hd := by
    obtain ⟨rfl, hy⟩ := y
    obtain ⟨v', hv, rv⟩ := hs.get hd
    have e := (hy xs (SqT.same (s1.trans s2) h)).symm.trans hv
    cases e
    exact ⟨Gc, .refl s2, rv.same s1⟩
  st i H s hi := ⟨xs, SqT.same s h, by rw [hs.length]; exact hi⟩
def rngD (lo c : Int) (n : Nat) : List D := (List.range n).map fun i => .int (lo + (i : Nat) * c)
theorem rngD_length (lo c : Int) (n : Nat) : (rngD lo c n).length = n := by
  unfold rngD
  rw [List.length_map, List.length_range]
theorem rngD_get {lo c : Int} {n i : Nat} {d : D} (h : (rngD lo c n)[i]? = some d) : d = .int (lo + (i : Nat) * c) := by
  unfold rngD at h
  rw [List.getElem?_map] at h
  cases e : (List.range n)[i]? with
  | none => rw [e] at h; cases h
  | some j =>
    rw [e] at h
    have hj : j = i := by
      have := (List.getElem?_eq_some_iff.mp e)
      obtain ⟨h1, h2⟩ := this
      rw [List.getElem_range] at h2
      exact h2.symm
    cases h
    rw [hj]
theorem wk_rng {lo : Int} {n : Nat} : Wk K (Itr lo n) G (rngD lo 1 n) where
  go i H s hi := by
    rw [rngD_length] at hi
    exact hi
  yl i H v H' d Gc s1 s2 y hd := by
    obtain ⟨rfl, rfl⟩ := y
    have e := rngD_get hd
    subst e
    rw [Int.mul_one]
    exact ⟨Gc, .refl s2, .int _⟩
  st i H s hi := by
    rw [rngD_length] at hi
    exact hi
theorem wk_rngC {lo c : Int} {n : Nat} : Wk K (Itc lo c n) G (rngD lo c n) where
  go i H s hi := by
    rw [rngD_length] at hi
    exact hi
  yl i H v H' d Gc s1 s2 y hd := by
    obtain ⟨rfl, rfl⟩ := y
    have e := rngD_get hd
    subst e
    exact ⟨Gc, .refl s2, .int _⟩
  st i H s hi := by
    rw [rngD_length] at hi
    exact hi
def zipD (ds es : List D) : List D := (ds.zip es).map fun p => .tuple [p.1, p.2]
theorem zipD_length (ds es : List D) : (zipD ds es).length = min ds.length es.length := by
  unfold zipD
  rw [List.length_map, List.length_zip]
theorem zipD_get {ds es : List D} {i : Nat} {d : D} (h : (zipD ds es)[i]? = some d) : ∃ x y, ds[i]? = some x ∧ es[i]? = some y ∧ d = .tuple [x, y] := by
  unfold zipD at h
  rw [List.getElem?_map] at h
  cases e : (ds.zip es)[i]? with
  | none => rw [e] at h; cases h
  | some p =>
    rw [e] at h
    cases h
    obtain ⟨h1, h2⟩ := List.getElem?_zip_eq_some.mp e
    exact ⟨p.1, p.2, h1, h2, rfl⟩
theorem wk_zip {ys : List V} {es : List D} (h : Rd G a (.lst xs)) (hs : Rps K G xs ds) (h2 : Rd G b (.lst ys)) (hs2 : Rps K G ys es) : Wk K (Itz K a b) G (zipD ds es) where
  go i H s hi := by
    rw [zipD_length] at hi
    have hx : i < xs.length := by rw [hs.length]; omega
    have hy : i < ys.length := by rw [hs2.length]; omega
    exact ⟨xs, ys, xs[i], ys[i], .inl (Rd.same s h), .inl (Rd.same s h2), List.getElem?_eq_getElem hx, List.getElem?_eq_getElem hy⟩
  yl i H v H' d Gc s1 s2 y hd := by
    obtain ⟨T, x, y', rfl, hT, rfl, f1, f2⟩ := y
    obtain ⟨dx, dy, g1, g2, rfl⟩ := zipD_get hd
    obtain ⟨v1, hv1, r1⟩ := hs.get g1
    obtain ⟨v2, hv2, r2⟩ := hs2.get g2
    have e1 := (f1 xs (.inl (Rd.same (s1.trans s2) h))).symm.trans hv1
    have e2 := (f2 ys (.inl (Rd.same (s1.trans s2) h2))).symm.trans hv2
    cases e1
    cases e2
    have sg := s1.trans (same_upd (o := HO.tup [x, y']) (s2.free hT))
    exact ⟨_, Ext.new s2 hT, .tup (.inl (.inl upd_same)) (.cons (r1.same sg) (.cons (r2.same sg) .nil))⟩
  st i H s hi := by
    rw [zipD_length] at hi
    exact ⟨xs, ys, .inl (Rd.same s h), .inl (Rd.same s h2), by rw [hs.length, hs2.length]; omega⟩
def enumD (ds : List D) : List D := ds.mapIdx fun i d => .tuple [.int (i : Nat), d]
theorem wk_enum (h : Rd G a (.lst xs)) (hs : Rps K G xs ds) : Wk K (Ite K a) G (enumD ds) where
  go i H s hi := by
    have hi' : i < ds.length := by
      unfold enumD at hi
      rwa [List.length_mapIdx] at hi
    have hx : i < xs.length := by rw [hs.length]; exact hi'
    exact ⟨xs, xs[i], .inl (Rd.same s h), List.getElem?_eq_getElem hx⟩
  yl i H v H' d Gc s1 s2 y hd := by
    obtain ⟨T, x, rfl, hT, rfl, f1⟩ := y
    unfold enumD at hd
    rw [List.getElem?_mapIdx] at hd
    cases e : ds[i]? with
    | none => rw [e] at hd; cases hd
    | some dx =>
      rw [e] at hd
      cases hd
      obtain ⟨v1, hv1, r1⟩ := hs.get e
      have e1 := (f1 xs (.inl (Rd.same (s1.trans s2) h))).symm.trans hv1
      cases e1
      have sg := s1.trans (same_upd (o := HO.tup [.int (i : Nat), x]) (s2.free hT))
      exact ⟨_, Ext.new s2 hT, .tup (.inl (.inl upd_same)) (.cons (.int _) (.cons (r1.same sg) .nil))⟩
  st i H s hi := by
    unfold enumD at hi
    rw [List.length_mapIdx] at hi
    exact ⟨xs, .inl (Rd.same s h), by rw [hs.length]; exact hi⟩
end
section
variable {X : Cx} {C : Cf} {tg e e' e'' : Expr} {f f' f'' : Env → Res D} {fs : Env → Res (List D)} {p pos tpos : Pos} {elts : List Expr} {kk : Nat}
/-- over a list -/
def iL (f : Env → Res D) : Env → Res (List D) := fun env => (f env).bind fun d => match d with
  | .list ds => .ok ds
  | .dict ds => .ok (ds.map (·.1))
  | _ => .bad
def iT (f : Env → Res D) : Env → Res (List D) := fun env => (f env).bind fun d => match d with
  | .tuple ds => .ok ds
  | _ => .bad
theorem qi_list (h : QE X C e f) : QI X C tg e (iL f) := pi_imp (pi_list h) fun σ H R ⟨G, env, s, er, p⟩ => ⟨G, env, s, er, Post.bind p fun d v G1 H1 e1 r1 p1 => by
  split at p1
  · cases r1 with
    | lst h hs => exact ⟨_, rfl, ⟨_, .inl (Rd.same e1.gh h)⟩, p1 _ _ _ (.refl e1.gh) (wk_list (.inl h) hs)⟩
  · cases r1 with
    | scr h =>
      rw [scr_fst] at p1
      exact ⟨_, rfl, ⟨_, Same.seq e1.gh h⟩, p1 _ _ _ (.refl e1.gh) (wk_list h (Rps.of_ints _))⟩
  · exact p1.elim⟩
theorem qi_tup (h : QE X C e f) : QI X C tg e (iT f) := pi_imp (pi_tup h) fun σ H R ⟨G, env, s, er, p⟩ => ⟨G, env, s, er, Post.bind p fun d v G1 H1 e1 r1 p1 => by
  split at p1
  · cases r1 with
    | tup h hs => exact ⟨_, rfl, ⟨_, SqT.same e1.gh h⟩, p1 _ _ _ (.refl e1.gh) (wk_tup h hs)⟩
  · exact p1.elim⟩
noncomputable def iR1 (fs : Env → Res (List D)) : Env → Res (List D) := fun env => (fs env).bind fun ds => match ds with
  | [.int j] => @ite _ ((-j).toNat ≤ 1000000000 ∧ j.toNat ≤ 1000000000) (Classical.propDecidable _) (.ok (rngD 0 1 j.toNat)) .bad
  | _ => .bad
noncomputable def iR2 (fs : Env → Res (List D)) : Env → Res (List D) := fun env => (fs env).bind fun ds => match ds with
  | [.int i, .int j] => @ite _ ((-i).toNat ≤ 1000000000 ∧ i.toNat ≤ 1000000000 ∧ (-j).toNat ≤ 1000000000 ∧ j.toNat ≤ 1000000000) (Classical.propDecidable _) (.ok (rngD i 1 (j - i).toNat)) .bad
  | _ => .bad
noncomputable def iR3 (fs : Env → Res (List D)) : Env → Res (List D) := fun env => (fs env).bind fun ds => match ds with
  | [.int i, .int j, .int c] => @ite _ (c ≠ 0 ∧ c.natAbs < 1073741824 ∧ Builtin.Range.small i j c = true ∧ 0 ≤ Builtin.Range.rangeSize i j c) (Classical.propDecidable _) (.ok (rngD i c (Builtin.Range.rangeSize i j c).toNat)) .bad
  | _ => .bad
theorem qi_range1 (hg : Gl X "range") (hm : X.mg "range" = none) (ha : QA X C [e] fs) (hs : starEach [e] X.env = [(false, eval e X.env)] := by rfl) : QI X C tg (.Call (.Name "range" p) [e] [] pos) (iR1 fs) :=
  pi_imp (pi_range1 hg hm ha hs) fun σ H R ⟨G, env, s, er, p⟩ => ⟨G, env, s, er, Post.bind p fun ds vs G1 H1 e1 r1 p1 => by
    split at p1
    · split at p1
      · rename_i h
        cases r1 with
        | cons r1 r2 =>
          cases r2
          cases r1
          have e62 : (2 : Int) ^ 62 = 4611686018427387904 := by decide
          exact ⟨_, rfl, by rw [e62]; omega, by rw [e62]; omega, p1 _ _ _ (.refl e1.gh) wk_rng⟩
      · exact p1.elim
    · exact p1.elim⟩
theorem qi_range2 (hg : Gl X "range") (hm : X.mg "range" = none) (ha : QA X C [e, e'] fs) (hs : starEach [e, e'] X.env = [(false, eval e X.env), (false, eval e' X.env)] := by rfl) (hs2 : starEach [e'] X.env = [(false, eval e' X.env)] := by rfl) :
    QI X C tg (.Call (.Name "range" p) [e, e'] [] pos) (iR2 fs) :=
  pi_imp (pi_range2 hg hm ha hs hs2) fun σ H R ⟨G, env, s, er, p⟩ => ⟨G, env, s, er, Post.bind p fun ds vs G1 H1 e1 r1 p1 => by
    split at p1
    · split at p1
      · rename_i h
        cases r1 with
        | cons r1 r2 =>
          cases r2 with
          | cons r2 r3 =>
            cases r3
            cases r1
            cases r2
            have e62 : (2 : Int) ^ 62 = 4611686018427387904 := by decide
            exact ⟨_, _, rfl, by rw [e62]; omega, p1 _ _ _ (.refl e1.gh) wk_rng⟩
      · exact p1.elim
    · exact p1.elim⟩
theorem qi_range3 (hg : Gl X "range") (hm : X.mg "range" = none) (ha : QA X C [e, e', e''] fs) (hs : starEach [e, e', e''] X.env = (false, eval e X.env) :: starEach [e', e''] X.env := by rfl) (hpl : (backTo pos (starEach [e', e''] X.env)).any (·.1) = false := by rfl) :
    QI X C tg (.Call (.Name "range" p) [e, e', e''] [] pos) (iR3 fs) :=
  pi_imp (pi_range3 hg hm ha hs hpl) fun σ H R ⟨G, env, s, er, p⟩ => ⟨G, env, s, er, Post.bind p fun ds vs G1 H1 e1 r1 p1 => by
    split at p1
    · split at p1
      · rename_i h
        cases r1 with
        | cons r1 r2 =>
          cases r2 with
          | cons r2 r3 =>
            cases r3 with
            | cons r3 r4 =>
              cases r4
              cases r1
              cases r2
              cases r3
              exact ⟨_, _, _, _, rfl, ⟨h.1, h.2.1, h.2.2.1, (Int.toNat_of_nonneg h.2.2.2).symm⟩, p1 _ _ _ (.refl e1.gh) wk_rngC⟩
      · exact p1.elim
    · exact p1.elim⟩
def iZ (fs : Env → Res (List D)) : Env → Res (List D) := fun env => (fs env).bind fun ds => match ds with
  | [.list xs, .list ys] => .ok (zipD xs ys)
  | _ => .bad
theorem qi_zip (hg : Gl X "zip") (hm : X.mg "zip" = none) (ha : QA X C [e, e'] fs) (hs : starEach [e, e'] X.env = (false, eval e X.env) :: starEach [e'] X.env := by rfl) (hpl : (backTo pos (starEach [e'] X.env)).any (·.1) = false := by rfl) :
    QI X C (.Tuple elts kk tpos) (.Call (.Name "zip" p) [e, e'] [] pos) (iZ fs) :=
  pi_imp (pi_zip hg hm ha hs hpl) fun σ H R ⟨G, env, s, er, p⟩ => ⟨G, env, s, er, Post.bind p fun ds vs G1 H1 e1 r1 p1 => by
    split at p1
    · cases r1 with
      | cons r1 r2 =>
        cases r2 with
        | cons r2 r3 =>
          cases r3
          cases r1 with
          | lst h hs =>
            cases r2 with
            | lst h2 hs2 => exact ⟨_, _, _, _, rfl, .inl (Rd.same e1.gh h), .inl (Rd.same e1.gh h2), p1 _ _ _ (.refl e1.gh) (wk_zip h hs h2 hs2)⟩
    · exact p1.elim⟩
def iE (fs : Env → Res (List D)) : Env → Res (List D) := fun env => (fs env).bind fun ds => match ds with
  | [.list xs] => .ok (enumD xs)
  | _ => .bad
theorem qi_enum (hg : Gl X "enumerate") (hm : X.mg "enumerate" = none) (ha : QA X C [e] fs) (hs : starEach [e] X.env = [(false, eval e X.env)] := by rfl) : QI X C (.Tuple elts kk tpos) (.Call (.Name "enumerate" p) [e] [] pos) (iE fs) :=
  pi_imp (pi_enum hg hm ha hs) fun σ H R ⟨G, env, s, er, p⟩ => ⟨G, env, s, er, Post.bind p fun ds vs G1 H1 e1 r1 p1 => by
    split at p1
    · cases r1 with
      | cons r1 r2 =>
        cases r2
        cases r1 with
        | lst h hs => exact ⟨_, _, rfl, .inl (Rd.same e1.gh h), p1 _ _ _ (.refl e1.gh) (wk_enum h hs)⟩
    · exact p1.elim⟩
end
/-! ### comprehensions -/
def Res.nox {α : Type} : Res α → Res α
  | .ok a => .ok a
  | _ => .bad
theorem nox_post {α ν : Type} {R : Hp → ν → α → Prop} {xw xw' : Nat → Hp → Prop} {G H : Hp} {Q : ν → Hp → Prop} {r : Res α} (h : Post R xw G H Q r.nox) : Post R xw' G H Q r := by
  cases r with
  | ok a => exact h
  | ex n => exact h.elim
  | bad => exact h
def compR (t : Tg) (c : Env → Res Bool) (f : Env → Res D) (env : Env) : List D → Res (List D)
  | [] => .ok []
  | d :: ds => match t.parts d with
    | none => .bad
    | some ps => (c (setE env t.is ps)).nox.bind fun b => if b = true then (f (setE env t.is ps)).nox.bind fun y => (compR t c f env ds).bind fun ys => .ok (y :: ys) else compR t c f env ds
def eComp (t : Tg) (fi : Env → Res (List D)) (c : Env → Res Bool) (f : Env → Res D) : Env → Res (List D) := fun env => (fi env).bind fun ds => (compR t c f env ds).bind fit
def cYes : Env → Res Bool := fun _ => .ok true
theorem wipe_set {i : Nat} {x : Option V} : ∀ {vs : List Nat} {σ : St}, i ∈ vs → wipe (σ.set i x) vs = wipe σ vs
  | v :: vs, σ, h => by
    unfold wipe
    by_cases hv : i ∈ vs
    · rw [wipe_set hv]
    · have e : i = v := by
        rcases List.mem_cons.mp h with e | e
        · exact e
        · exact absurd e hv
      subst e
      have aux : ∀ (ws : List Nat), i ∉ ws → ∀ σ : St, wipe (σ.set i x) ws = (wipe σ ws).set i x := by
        intro ws
        induction ws with
        | nil => intro _ σ; rfl
        | cons w ws ih =>
          intro hn σ
          have h1 : i ≠ w := fun e => hn (e ▸ List.mem_cons_self)
          have h2 : i ∉ ws := fun e => hn (List.mem_cons_of_mem _ e)
          unfold wipe
          rw [ih h2 σ, List.set_comm _ _ h1]
      rw [aux vs hv σ, List.set_set]
theorem wipe_setV {vs : List Nat} : ∀ {is : List Nat} {ws : List V} {σ : St}, (∀ i ∈ is, i ∈ vs) → wipe (setV σ is ws) vs = wipe σ vs
  | [], _, _, _ => rfl
  | _ :: _, [], _, _ => rfl
  | i :: is, w :: ws, σ, h => by
    show wipe (setV (σ.set i (some w)) is ws) vs = _
    rw [wipe_setV (is := is) fun j hj => h j (List.mem_cons_of_mem _ hj), wipe_set (h i List.mem_cons_self)]
theorem wipe_wipe : ∀ {us vs : List Nat} {σ : St}, (∀ i ∈ us, i ∈ vs) → wipe (wipe σ us) vs = wipe σ vs
  | [], _, _, _ => rfl
  | u :: us, vs, σ, h => by
    show wipe ((wipe σ us).set u none) vs = _
    rw [wipe_set (h u List.mem_cons_self), wipe_wipe fun i hi => h i (List.mem_cons_of_mem _ hi)]
theorem wipe_get : ∀ {vs : List Nat} {σ : St} {i : Nat}, i ∉ vs → (wipe σ vs)[i]? = σ[i]?
  | [], _, _, _ => rfl
  | v :: vs, σ, i, h => by
    show ((wipe σ vs).set v none)[i]? = _
    rw [List.getElem?_set_ne (fun (e : v = i) => h (by rw [← e]; exact List.mem_cons_self)), wipe_get fun e => h (List.mem_cons_of_mem _ e)]
theorem setV_get : ∀ {is : List Nat} {ws : List V} {σ : St} {i : Nat}, i ∉ is → (setV σ is ws)[i]? = σ[i]?
  | [], _, _, _, _ => rfl
  | _ :: _, [], _, _, _ => rfl
  | j :: is, w :: ws, σ, i, h => by
    show (setV (σ.set j (some w)) is ws)[i]? = _
    rw [setV_get (is := is) fun e => h (List.mem_cons_of_mem _ e), List.getElem?_set_ne (fun (e : j = i) => h (by rw [← e]; exact List.mem_cons_self))]
theorem setE_get : ∀ {is : List Nat} {ws : List D} {σ : Env} {i : Nat}, i ∉ is → (setE σ is ws)[i]? = σ[i]?
  | [], _, _, _, _ => rfl
  | _ :: _, [], _, _, _ => rfl
  | j :: is, w :: ws, σ, i, h => by
    show (setE (σ.set j (.val w)) is ws)[i]? = _
    rw [setE_get (is := is) fun e => h (List.mem_cons_of_mem _ e), List.getElem?_set_ne (fun (e : j = i) => h (by rw [← e]; exact List.mem_cons_self))]
/-- two slots' lists that agree outside -/
theorem setV_in : ∀ {is : List Nat} {ws : List V} {σ τ : St} {i : Nat}, σ.length = τ.length → ws.length = is.length → i ∈ is → (setV σ is ws)[i]? = (setV τ is ws)[i]?
  | j :: is, w :: ws, σ, τ, i, hl, hw, h => by
    show (setV (σ.set j (some w)) is ws)[i]? = (setV (τ.set j (some w)) is ws)[i]?
    by_cases hi : i ∈ is
    · exact setV_in (is := is) (by rw [List.length_set, List.length_set]; exact hl) (by simpa using hw) hi
    · have e : i = j := by
        rcases List.mem_cons.mp h with e | e
        · exact e
        · exact absurd e hi
      subst e
      rw [setV_get hi, setV_get hi]
      by_cases hb : i < σ.length
      · rw [List.getElem?_set_self hb, List.getElem?_set_self (by rw [← hl]; exact hb)]
      · rw [List.getElem?_eq_none (by rw [List.length_set]; omega), List.getElem?_eq_none (by rw [List.length_set]; omega)]
  | _ :: _, [], _, _, _, _, hw, _ => by simp at hw
  | [], _, _, _, _, _, _, h => absurd h (by simp)
theorem setV_wipe {is vs : List Nat} {ws : List V} {σ : St} (h1 : ∀ i ∈ vs, i ∈ is) (hw : ws.length = is.length) : setV (wipe σ vs) is ws = setV σ is ws := by
  apply List.ext_getElem?
  intro i
  by_cases hi : i ∈ is
  · exact setV_in (wipe_length σ vs) hw hi
  · rw [setV_get hi, setV_get hi, wipe_get fun e => hi (h1 i e)]
theorem parts_len {t : Tg} {d : D} {ds : List D} (h : t.parts d = some ds) : ds.length = t.is.length := by
  cases t with
  | nm i => cases h; rfl
  | tp is =>
    cases d <;> first | (cases h; done) | skip
    unfold Tg.parts at h
    dsimp only at h
    split at h
    · rename_i hl
      cases h
      exact hl
    · cases h
  | ul is =>
    cases d <;> first | (cases h; done) | skip
    unfold Tg.parts at h
    dsimp only at h
    split at h
    · rename_i hl
      cases h
      exact hl
    · cases h
section
variable {X : Cx} {C : Cf} {elt tg iter : Expr} {ifs : List Expr} {scope : Scope} {own : List (Str × Nat)} {pos : Pos} {t : Tg} {fi : Env → Res (List D)} {c : Env → Res Bool} {f : Env → Res D}
def Cf.quiet (C : Cf) : Cf := { C with W := fun _ _ _ _ => False }
theorem lc_post {σ : St} {H : Hp} {Q : VK} (hv : ∀ i ∈ own.map (·.2), i ∈ t.is) (hv2 : ∀ i ∈ t.is, i ∈ own.map (·.2)) 
    (h : tXf X.K C (eComp t fi c f) σ H Q) : tLc (tXi X.K C fi) (t.g X.K) (tXb X.K C.quiet c) (tX X.K C.quiet f) (own.map (·.2)) σ H Q := by
  obtain ⟨G, env, s, er, p⟩ := h
  refine ⟨G, env, s, er, PostF.bind p fun ds J G1 H1 e1 wk p1 => ?_⟩
  intro Dn hD
  -- the words behind i turns
  let word (i : Nat) (H' : Hp) : Prop := ∃ Gc acc da, Same G1 Gc ∧ Same Gc H' ∧ Same H1 H' ∧ (∀ a o, Gc a = some o → (∃ o', G1 a = some o') ∨ H1 a = none) ∧ Gc Dn = none ∧ H' Dn = some (.lst acc) ∧ Rps X.K Gc acc da ∧
    PostF X.K (C.xw σ) G1 H1 Q ((compR t c f env (ds.drop i)).bind fun ys => fit (da ++ ys))
  have w0 : word 0 (upd H1 Dn (.lst [])) := by
    refine ⟨G1, [], [], .refl _, e1.gh.trans (same_upd hD), same_upd hD, fun a o e => .inl ⟨o, e⟩, e1.gh.free hD, upd_same, .nil, ?_⟩
    exact p1
  refine ⟨fun i m H' => m = ds.length - i ∧ i ≤ ds.length ∧ word i H', ⟨_, rfl, Nat.zero_le _, w0⟩, ?_⟩
  rintro i m H' ⟨rfl, hi, Gc, acc, da, s1, s2, s3, fr, gD, hDl, rda, pp⟩
  by_cases hlt : i < ds.length
  · refine .inr ⟨wk.go i H' (s1.trans s2) hlt, word (i + 1), fun H'' w => ⟨ds.length - (i + 1), by omega, rfl, hlt, w⟩, fun x H2 hy => ?_⟩
    obtain ⟨d, hd⟩ : ∃ d, ds[i]? = some d := ⟨_, List.getElem?_eq_getElem hlt⟩
    have hdrop : ds.drop i = d :: ds.drop (i + 1) := by
      rw [List.drop_eq_getElem_cons hlt]
      congr 1
      rw [List.getElem?_eq_getElem hlt] at hd
      exact Option.some.inj hd
    obtain ⟨Gd, eg, rd⟩ := wk.yl i H' x H2 d Gc s1 s2 hy hd
    rw [hdrop] at pp
    unfold compR at pp
    cases hp : t.parts d with
    | none =>
      rw [hp] at pp
      exact pp.elim
    | some ps =>
      rw [hp] at pp
      dsimp only at pp
      refine Tg.run eg.gh rd hp fun ws rw_ => ?_
      have hwl : ws.length = t.is.length := rw_.length.trans (parts_len hp)
      rw [setV_wipe hv hwl]
      refine ⟨wipe_setV hv2, ?_⟩
      have er' : ER X.K C.z Gd (setE env t.is ps) (setV σ t.is ws) := ER.setAll (er.same ((e1.gg.trans s1).trans eg.gg)) rw_
      refine ⟨Gd, _, eg.gh, er', ?_⟩
      cases hc : c (setE env t.is ps) with
      | bad =>
        rw [hc] at pp
        exact pp.elim
      | ex n =>
        rw [hc] at pp
        exact pp.elim
      | ok b =>
        rw [hc] at pp
        have pp : PostF X.K (C.xw σ) G1 H1 Q ((if b = true then (f (setE env t.is ps)).nox.bind fun y => (compR t c f env (ds.drop (i + 1))).bind fun ys => .ok (y :: ys) else compR t c f env (ds.drop (i + 1))).bind fun ys => fit (da ++ ys)) := pp
        intro b' G3 H3 e3 eb
        have eb' : b = b' := eb.symm
        subst eb'
        cases b with
        | false =>
          rw [if_neg Bool.false_ne_true] at pp ⊢
          have fr3 : ∀ a o, G3 a = some o → (∃ o', G1 a = some o') ∨ H1 a = none := fun a o e => by
            rcases (eg.trans e3).fr a o e with ⟨o', q⟩ | q
            · exact fr a o' q
            · exact .inr (s3.free q)
          have gD3 : G3 Dn = none := by
            cases q : G3 Dn with
            | none => rfl
            | some o =>
              rcases (eg.trans e3).fr Dn o q with ⟨o', q'⟩ | q'
              · rw [gD] at q'; cases q'
              · rw [hDl] at q'; cases q'
          exact ⟨G3, acc, da, s1.trans (eg.trans e3).gg, e3.gh, s3.trans (eg.trans e3).hh, fr3, gD3, (eg.trans e3).hh _ _ hDl, rda.same (eg.trans e3).gg, pp⟩
        | true =>
          rw [if_pos rfl] at pp ⊢
          refine ⟨G3, _, e3.gh, er'.same e3.gg, ?_⟩
          cases hf : f (setE env t.is ps) with
          | bad =>
            rw [hf] at pp
            exact pp.elim
          | ex n =>
            rw [hf] at pp
            exact pp.elim
          | ok y =>
            rw [hf] at pp
            have pp : PostF X.K (C.xw σ) G1 H1 Q (((compR t c f env (ds.drop (i + 1))).bind fun ys => .ok (y :: ys)).bind fun ys => fit (da ++ ys)) := pp
            intro yv G4 H4 e4 ry
            have ee := (eg.trans e3).trans e4
            have hD4 : H4 Dn = some (.lst acc) := ee.hh _ _ hDl
            have gD4 : G4 Dn = none := by
              cases q : G4 Dn with
              | none => rfl
              | some o =>
                rcases ee.fr Dn o q with ⟨o', q'⟩ | q'
                · rw [gD] at q'; cases q'
                · rw [hDl] at q'; cases q'
            have fr4 : ∀ a o, G4 a = some o → (∃ o', G1 a = some o') ∨ H1 a = none := fun a o e => by
              rcases ee.fr a o e with ⟨o', q⟩ | q
              · exact fr a o' q
              · exact .inr (s3.free q)
            have pp2 : PostF X.K (C.xw σ) G1 H1 Q ((compR t c f env (ds.drop (i + 1))).bind fun ys => fit ((da ++ [y]) ++ ys)) := by
              cases hr : compR t c f env (ds.drop (i + 1)) with
              | bad => rw [hr] at pp; exact pp.elim
              | ex n => rw [hr] at pp; exact pp
              | ok ys =>
                rw [hr] at pp
                have pp : PostF X.K (C.xw σ) G1 H1 Q (fit (da ++ (y :: ys))) := pp
                show PostF X.K (C.xw σ) G1 H1 Q (fit ((da ++ [y]) ++ ys))
                rw [List.append_assoc]
                exact pp
            have hz : acc.length < sizeLine := by
              rw [rda.length]
              cases hr : compR t c f env (ds.drop (i + 1)) with
              | bad => rw [hr] at pp2; exact pp2.elim
              | ex n => exact absurd hr (compR_noex _ n)
              | ok ys =>
                rw [hr] at pp2
                have pp2 : PostF X.K (C.xw σ) G1 H1 Q (fit ((da ++ [y]) ++ ys)) := pp2
                have := (fit_postF pp2).2
                simp only [List.length_append, List.length_cons, List.length_nil] at this
                omega
            refine ⟨acc, hD4, hz, G4, acc ++ [yv], da ++ [y], s1.trans ee.gg, fun b u q => ?_, fun b u q => ?_, fr4, gD4, upd_same, (rda.same ee.gg).append (.cons ry .nil), pp2⟩
            · have hb : b ≠ Dn := fun z => by rw [z, gD4] at q; cases q
              rw [upd_ne hb]
              exact ee.gh b u q
            · have hb : b ≠ Dn := fun z => by rw [z, hD] at q; cases q
              rw [upd_ne hb]
              exact ee.hh b u (s3 b u q)
  · have ei : i = ds.length := by omega
    subst ei
    refine .inl ⟨wk.st _ H' (s1.trans s2) (Nat.le_refl _), ?_⟩
    rw [List.drop_length] at pp
    have pp : PostF X.K (C.xw σ) G1 H1 Q (fit (da ++ [])) := pp
    rw [List.append_nil] at pp
    exact (fit_postF pp).1 Dn acc Gc H' ⟨s3, s1, s2, fr⟩ hD gD hDl rda
where
  compR_noex : ∀ (ds : List D) {env : Env} (n : Nat), compR t c f env ds ≠ .ex n
    | [], _, n, h => by cases h
    | d :: ds, env, n, h => by
      unfold compR at h
      split at h
      · cases h
      · rename_i ps hp
        cases hc : c (setE env t.is ps) with
        | bad => rw [hc] at h; cases h
        | ex m => rw [hc] at h; cases h
        | ok b =>
          rw [hc] at h
          have h : (if b = true then (f (setE env t.is ps)).nox.bind fun y => (compR t c f env ds).bind fun ys => Res.ok (y :: ys) else compR t c f env ds) = .ex n := h
          split at h
          · cases hf : f (setE env t.is ps) with
            | bad => rw [hf] at h; cases h
            | ex m => rw [hf] at h; cases h
            | ok y =>
              rw [hf] at h
              have h : ((compR t c f env ds).bind fun ys => Res.ok (y :: ys)) = .ex n := h
              cases hr : compR t c f env ds with
              | bad => rw [hr] at h; cases h
              | ok ys => rw [hr] at h; cases h
              | ex m =>
                rw [hr] at h
                cases h
                exact compR_noex ds _ hr
          · exact compR_noex ds _ h
end
end L2.FL

set_option Elab.async false
set_option linter.all false
set_option maxRecDepth 100000
set_option maxHeartbeats 4000000
namespace L2.FL
open PySem PySem.Spec PyProof.Rows
/-! ### comprehensions in the text -/
section
variable {X : Cx} {C : Cf} {elt tg iter e : Expr} {ifs : List Expr} {scope : Scope} {own : List (Str × Nat)} {pos : Pos} {t : Tg} {fi : Env → Res (List D)} {c : Env → Res Bool} {f : Env → Res D}
abbrev QTs (X : Cx) (C : Cf) (es : List Expr) (f : Env → Res Bool) : Prop := PTs X es (tXb X.K C f)
theorem qts_nil : QTs X C [] cYes := ⟨fun pins s σ H Q I ⟨G, env, sg, er, p⟩ => pts_nil.run pins s σ H Q I (p true G H (.refl sg) rfl)⟩
theorem qts_one (h : QT X C e c) : QTs X C [e] c := pts_one h
theorem qf_comp (hc : X.calm = true) (hN : X.N.Nodup) (hi : QI X C tg iter fi) (ok : BlkOk X.N X.env.scope scope own)
    (hg : ∀ (s : Shared) (H : Hp) (Cc : Addr) (cl : List (Str × Addr)) (fp : List Addr), QG (X.blk s H scope (compEnvC scope cl Cc X.env) fp) tg t) (ht : ∀ (s : Shared) (H : Hp) (Cc : Addr) (cl : List (Str × Addr)) (fp : List Addr), QTs (X.blk s H scope (compEnvC scope cl Cc X.env) fp) C.quiet ifs c)
    (he : ∀ (s : Shared) (H : Hp) (Cc : Addr) (cl : List (Str × Addr)) (fp : List Addr), QE (X.blk s H scope (compEnvC scope cl Cc X.env) fp) C.quiet elt f) (hv : ∀ i ∈ own.map (·.2), i ∈ t.is) (hv2 : ∀ i ∈ t.is, i ∈ own.map (·.2)) (hs : ∀ x, foldedSetIterable iter X.env x = pure x := by intro _; rfl) :
    QF X C (.ListComp elt [⟨tg, iter, ifs, 0⟩] scope pos) (eComp t fi c f) := pe_imp (pe_lc hc hN hi ok hg ht he hs) fun _ _ _ h => lc_post hv hv2 h
end
/-! ### state of a def's body -/
structure SR (K : PySem.W.Frag) (z : Addr × Nat) (G0 H0 G H : Hp) (env : Env) (σ : St) : Prop where
  er : ER K z G env σ
  gh : Same G H
  g0 : Same G0 G
  h0 : Same H0 H
  fr : ∀ a o, G a = some o → (∃ o', G0 a = some o') ∨ H0 a = none
  own : ∀ (i : Nat) (ds : List D), env[i]? = some (Sl.own ds) → ∃ (a : Addr) (vs : List V), σ[i]? = some (some (V.ref a)) ∧ H a = some (.lst vs) ∧ G a = none ∧ H0 a = none ∧ Rps K G vs ds
  sep : ∀ (i j : Nat) (ds es : List D) (a : Addr), i ≠ j → env[i]? = some (Sl.own ds) → env[j]? = some (Sl.own es) → σ[i]? = some (some (V.ref a)) → σ[j]? ≠ some (some (V.ref a))
section
variable {K : PySem.W.Frag} {z : Addr × Nat} {G0 H0 G H G' H' : Hp} {env : Env} {σ : St}
theorem SR.ext0 (r : SR K z G0 H0 G H env σ) : Ext G0 H0 G H := ⟨r.h0, r.g0, r.gh, r.fr⟩
theorem SR.post (r : SR K z G0 H0 G H env σ) (e : Ext G H G' H') : SR K z G0 H0 G' H' env σ where
  er := r.er.same e.gg
  gh := e.gh
  g0 := r.g0.trans e.gg
  h0 := r.h0.trans e.hh
  fr := (r.ext0.trans e).fr
  own i ds h := by
    obtain ⟨a, vs, h1, h2, h3, h4, h5⟩ := r.own i ds h
    refine ⟨a, vs, h1, e.hh _ _ h2, ?_, h4, h5.same e.gg⟩
    cases q : G' a with
    | none => rfl
    | some o =>
      rcases e.fr a o q with ⟨o', q'⟩ | q'
      · rw [h3] at q'; cases q'
      · rw [h2] at q'; cases q'
  sep := r.sep
theorem SR.grow (r : SR K z G0 H0 G H env σ) (s : Same H H') : SR K z G0 H0 G H' env σ := r.post ⟨s, .refl _, r.gh.trans s, fun a o e => .inl ⟨o, e⟩⟩
theorem set_get {α : Type} {l : List α} {i j : Nat} {x y : α} (h : (l.set i x)[j]? = some y) : (i = j ∧ x = y ∧ i < l.length) ∨ (i ≠ j ∧ l[j]? = some y) := by
  by_cases hj : i = j
  · subst hj
    have hi : i < l.length := by
      have := (List.getElem?_eq_some_iff.mp h).1
      rwa [List.length_set] at this
    rw [List.getElem?_set_self hi] at h
    exact .inl ⟨rfl, Option.some.inj h, hi⟩
  · rw [List.getElem?_set_ne hj] at h
    exact .inr ⟨hj, h⟩
theorem SR.set (r : SR K z G0 H0 G H env σ) {v : V} {d : D} (rp : Rp K G v d) (i : Nat) : SR K z G0 H0 G H (env.set i (.val d)) (σ.set i (some v)) where
  er := r.er.set rp i
  gh := r.gh
  g0 := r.g0
  h0 := r.h0
  fr := r.fr
  own j ds h := by
    rcases set_get h with ⟨_, e, _⟩ | ⟨hj, h⟩
    · cases e
    · rw [List.getElem?_set_ne hj]
      exact r.own j ds h
  sep j k ds es a hjk h1 h2 h3 := by
    rcases set_get h1 with ⟨_, e, _⟩ | ⟨hj, h1⟩
    · cases e
    · rcases set_get h2 with ⟨_, e, _⟩ | ⟨hk, h2⟩
      · cases e
      · rw [List.getElem?_set_ne hj] at h3
        rw [List.getElem?_set_ne hk]
        exact r.sep j k ds es a hjk h1 h2 h3
theorem SR.setAll : ∀ {is : List Nat} {vs : List V} {ds : List D} {env : Env} {σ : St}, SR K z G0 H0 G H env σ → Rps K G vs ds → SR K z G0 H0 G H (setE env is ds) (setV σ is vs)
  | [], _, _, _, _, r, _ => r
  | _ :: _, _, _, _, _, r, .nil => r
  | i :: is, _, _, _, _, r, .cons h hs => SR.setAll (is := is) (r.set h i) hs
/-- a fresh list comes to a name -/
theorem SR.setO (r : SR K z G0 H0 G H env σ) (e : Ext G H G' H') {p : Addr} {vs : List V} {ds : List D} (hp : H p = none) (gp : G' p = none) (hl : H' p = some (.lst vs)) (rp : Rps K G' vs ds) (i : Nat) :
    SR K z G0 H0 G' H' (env.set i (.own ds)) (σ.set i (some (.ref p))) := by
  have r' := r.post e
  have ne : ∀ j es, env[j]? = some (Sl.own es) → σ[j]? ≠ some (some (V.ref p)) := fun j es h q => by
    obtain ⟨a, ws, h1, h2, _⟩ := r.own j es h
    rw [h1] at q
    cases q
    rw [hp] at h2
    cases h2
  refine ⟨⟨fun j d h => ?_, fun j n h => ?_, by rw [List.length_set, List.length_set]; exact r.er.len⟩, r'.gh, r'.g0, r'.h0, r'.fr, fun j es h => ?_, fun j k es fs a hjk h1 h2 h3 => ?_⟩
  · rcases set_get h with ⟨_, q, _⟩ | ⟨hj, h⟩
    · cases q
    · rw [List.getElem?_set_ne hj]
      exact r'.er.val j d h
  · rcases set_get h with ⟨_, q, _⟩ | ⟨hj, h⟩
    · cases q
    · rw [List.getElem?_set_ne hj]
      exact r'.er.exc j n h
  · rcases set_get h with ⟨rfl, q, hi⟩ | ⟨hj, h⟩
    · cases q
      exact ⟨p, vs, List.getElem?_set_self (by rw [← r.er.len]; exact hi), hl, gp, r.h0.free hp, rp⟩
    · rw [List.getElem?_set_ne hj]
      exact r'.own j es h
  · rcases set_get h1 with ⟨rfl, q, hi⟩ | ⟨hj, h1⟩
    · rw [List.getElem?_set_self (by rw [← r.er.len]; exact hi)] at h3
      cases h3
      rcases set_get h2 with ⟨e2, _, _⟩ | ⟨hk, h2⟩
      · exact absurd e2 hjk
      · rw [List.getElem?_set_ne hk]
        exact ne k fs h2
    · rw [List.getElem?_set_ne hj] at h3
      rcases set_get h2 with ⟨rfl, q, hi⟩ | ⟨hk, h2⟩
      · rw [List.getElem?_set_self (by rw [← r.er.len]; exact hi)]
        intro q
        cases q
        exact ne j es h1 h3
      · rw [List.getElem?_set_ne hk]
        exact r'.sep j k es fs a hjk h1 h2 h3
/-- an own list changes -/
theorem SR.mut (r : SR K z G0 H0 G H env σ) {i : Nat} {ds ds' : List D} {a : Addr} {vs' : List V} (h : env[i]? = some (Sl.own ds)) (hs : σ[i]? = some (some (V.ref a))) (rp : Rps K G vs' ds') :
    SR K z G0 H0 G (upd H a (.lst vs')) (env.set i (.own ds')) σ := by
  obtain ⟨a', vs, h1, h2, h3, h4, h5⟩ := r.own i ds h
  rw [hs] at h1
  cases h1
  have hi : i < env.length := (List.getElem?_eq_some_iff.mp h).1
  refine ⟨⟨fun j d q => ?_, fun j n q => ?_, by rw [List.length_set]; exact r.er.len⟩, fun b o q => ?_, r.g0, fun b o q => ?_, r.fr, fun j es q => ?_, fun j k es fs b hjk q1 q2 q3 => ?_⟩
  · rcases set_get q with ⟨_, q, _⟩ | ⟨hj, q⟩
    · cases q
    · exact r.er.val j d q
  · rcases set_get q with ⟨_, q, _⟩ | ⟨hj, q⟩
    · cases q
    · exact r.er.exc j n q
  · have hb : b ≠ a := fun e => by rw [e, h3] at q; cases q
    rw [upd_ne hb]
    exact r.gh b o q
  · have hb : b ≠ a := fun e => by rw [e, h4] at q; cases q
    rw [upd_ne hb]
    exact r.h0 b o q
  · rcases set_get q with ⟨rfl, q, _⟩ | ⟨hj, q⟩
    · cases q
      exact ⟨a, vs', hs, upd_same, h3, h4, rp⟩
    · obtain ⟨b, ws, g1, g2, g3, g4, g5⟩ := r.own j es q
      have hb : b ≠ a := fun e => by
        rw [e] at g1
        exact r.sep i j ds es a hj h q hs g1
      exact ⟨b, ws, g1, by rw [upd_ne hb]; exact g2, g3, g4, g5⟩
  · have old : ∀ (j : Nat) (es : List D), (env.set i (Sl.own ds'))[j]? = some (Sl.own es) → ∃ es', env[j]? = some (Sl.own es') := fun j es q => by
      rcases set_get q with ⟨rfl, _, _⟩ | ⟨_, q⟩
      · exact ⟨ds, h⟩
      · exact ⟨es, q⟩
    obtain ⟨e1, q1'⟩ := old j es q1
    obtain ⟨e2, q2'⟩ := old k fs q2
    exact r.sep j k e1 e2 b hjk q1' q2' q3
/-- what is own becomes a plain datum -/
def Sl.fz : Sl → Sl
  | .own ds => .val (.list ds)
  | s => s
def fzE (p : Nat → Bool) (env : Env) : Env := env.mapIdx fun i s => if p i = true then s.fz else s
theorem fzE_len (p : Nat → Bool) (env : Env) : (fzE p env).length = env.length := by
  unfold fzE
  rw [List.length_mapIdx]
theorem fzE_get {p : Nat → Bool} {i : Nat} {s : Sl} (h : (fzE p env)[i]? = some s) : ∃ s', env[i]? = some s' ∧ s = if p i = true then s'.fz else s' := by
  unfold fzE at h
  rw [List.getElem?_mapIdx] at h
  cases e : env[i]? with
  | none => rw [e] at h; cases h
  | some s' =>
    rw [e] at h
    exact ⟨s', rfl, (Option.some.inj h).symm⟩
open Classical in
theorem SR.freeze (r : SR K z G0 H0 G H env σ) (p : Nat → Bool) : ∃ G', SR K z G0 H0 G' H (fzE p env) σ ∧ Same G G' := by
  let W : Addr → Prop := fun a => ∃ (i : Nat) (ds : List D), p i = true ∧ env[i]? = some (Sl.own ds) ∧ σ[i]? = some (some (V.ref a))
  let G' : Hp := fun a => if W a then H a else G a
  have out : ∀ a, W a → ∃ vs : List V, H a = some (.lst vs) ∧ G a = none ∧ H0 a = none := fun a ⟨i, ds, _, h1, h2⟩ => by
    obtain ⟨a', vs, g1, g2, g3, g4, g5⟩ := r.own i ds h1
    rw [h2] at g1
    cases g1
    exact ⟨vs, g2, g3, g4⟩
  have s1 : Same G G' := fun b o q => by
    show (if W b then H b else G b) = some o
    by_cases hb : W b
    · obtain ⟨_, _, g, _⟩ := out b hb
      rw [g] at q
      cases q
    · rw [if_neg hb]
      exact q
  have s2 : Same G' H := fun b o q => by
    have q : (if W b then H b else G b) = some o := q
    by_cases hb : W b
    · rw [if_pos hb] at q
      exact q
    · rw [if_neg hb] at q
      exact r.gh b o q
  refine ⟨G', ⟨⟨fun i d h => ?_, fun i n h => ?_, by rw [fzE_len]; exact r.er.len⟩, s2, r.g0.trans s1, r.h0, fun a o q => ?_, fun i ds h => ?_, fun i j ds es a hij h1 h2 h3 => ?_⟩, s1⟩
  · obtain ⟨s', h1, h2⟩ := fzE_get h
    by_cases hp : p i = true
    · rw [if_pos hp] at h2
      cases s' with
      | no => cases h2
      | exc n => cases h2
      | val d' =>
        cases h2
        obtain ⟨v, g1, g2⟩ := r.er.val i d h1
        exact ⟨v, g1, g2.same s1⟩
      | own ds =>
        cases h2
        obtain ⟨a, vs, g1, g2, g3, g4, g5⟩ := r.own i ds h1
        refine ⟨.ref a, g1, .lst (.inl ?_) (g5.same s1)⟩
        show (if W a then H a else G a) = _
        rw [if_pos ⟨i, ds, hp, h1, g1⟩]
        exact g2
    · rw [if_neg hp] at h2
      subst h2
      obtain ⟨v, g1, g2⟩ := r.er.val i d h1
      exact ⟨v, g1, g2.same s1⟩
  · obtain ⟨s', h1, h2⟩ := fzE_get h
    have e : s' = .exc n := by
      by_cases hp : p i = true
      · rw [if_pos hp] at h2
        cases s' <;> cases h2
        rfl
      · rw [if_neg hp] at h2
        exact h2.symm
    subst e
    exact r.er.exc i n h1
  · have q : (if W a then H a else G a) = some o := q
    by_cases hb : W a
    · obtain ⟨_, _, _, g⟩ := out a hb
      exact .inr g
    · rw [if_neg hb] at q
      exact r.fr a o q
  · obtain ⟨s', h1, h2⟩ := fzE_get h
    by_cases hp : p i = true
    · rw [if_pos hp] at h2
      cases s' <;> cases h2
    · rw [if_neg hp] at h2
      subst h2
      obtain ⟨a, vs, g1, g2, g3, g4, g5⟩ := r.own i ds h1
      refine ⟨a, vs, g1, g2, ?_, g4, g5.same s1⟩
      show (if W a then H a else G a) = none
      rw [if_neg]
      · exact g3
      · rintro ⟨j, es, hpj, q1, q2⟩
        have hij : i ≠ j := fun e => hp (by rw [e]; exact hpj)
        exact r.sep i j ds es a hij h1 q1 g1 q2
  · have old : ∀ (j : Nat) (es : List D), (fzE p env)[j]? = some (Sl.own es) → env[j]? = some (Sl.own es) := fun j es q => by
      obtain ⟨s', q1, q2⟩ := fzE_get q
      by_cases hp : p j = true
      · rw [if_pos hp] at q2
        cases s' <;> cases q2
      · rw [if_neg hp] at q2
        rw [q2]
        exact q1
    exact r.sep i j ds es a hij (old i ds h1) (old j es h2) h3
end
/-! ### what a statement does -/
inductive Out where
  | nx (e : Env)
  | bk (e : Env)
  | ct (e : Env)
  | rt (d : D)
  | ex (n : Nat) (e : Env)
  | bad
def Res.out {α : Type} (env : Env) (r : Res α) (k : α → Out) : Out := match r with
  | .ok a => k a
  | .ex n => .ex n env
  | .bad => .bad
abbrev fu : Env → Env := fzE fun _ => true
/-- what is wanted of a def's result -/
def RtP (K : PySem.W.Frag) (fr : Bool) (G H : Hp) (Q : VK) : D → Prop := fun d => match fr with
  | true => ∃ ds, d = .list ds ∧ ∀ p vs G' H', Ext G H G' H' → H p = none → G' p = none → H' p = some (.lst vs) → Rps K G' vs ds → Q (.ref p) H'
  | false => ∀ v G' H', Ext G H G' H' → Rp K G' v d → Q v H'
def PostS (K : PySem.W.Frag) (C : Cf) (fr : Bool) (G0 H0 : Hp) (Dn : Ends) : Out → Prop
  | .nx e => ∀ σ G H, SR K C.z G0 H0 G H e σ → Dn.nx σ H
  | .bk e => ∀ σ G H, SR K C.z G0 H0 G H e σ → Dn.bk σ H
  | .ct e => ∀ σ G H, SR K C.z G0 H0 G H e σ → Dn.ct σ H
  | .rt d => RtP K fr G0 H0 Dn.rt d
  | .ex n e => ∀ σ G H, SR K C.z G0 H0 G H e σ → C.xw σ n H
  | .bad => False
def tS (K : PySem.W.Frag) (C : Cf) (fr : Bool) (g : Env → Out) : TS := fun Dn σ H => ∃ G0 H0 G env, SR K C.z G0 H0 G H env σ ∧ PostS K C fr G0 H0 Dn (g env)
abbrev QS (X : Cx) (C : Cf) (fr : Bool) (st : Stmt) (g : Env → Out) : Prop := PS X st (tS X.K C fr g)
abbrev QSs (X : Cx) (C : Cf) (fr : Bool) (st : List Stmt) (g : Env → Out) : Prop := PSs X st (tS X.K C fr g)
section
variable {K : PySem.W.Frag} {C : Cf} {fr : Bool} {G0 H0 G H : Hp} {env : Env} {σ : St} {Dn : Ends} {α ν : Type} {R : Hp → ν → α → Prop} {Q : ν → Hp → Prop} {QV : VK}
/-- an expression within a statement, at the state as it stands -/
theorem stE {r : Res α} {k : α → Out} (sr : SR K C.z G0 H0 G H env σ) (p : PostS K C fr G0 H0 Dn (r.out env k)) (j : ∀ a v G' H', Ext G H G' H' → R G' v a → PostS K C fr G0 H0 Dn (k a) → Q v H') : Post R (C.xw σ) G H Q r := by
  cases r with
  | ok a => exact fun v G' H' e rp => j a v G' H' e rp p
  | ex n => exact fun H' s => p σ G H' (sr.grow s)
  | bad => exact p
theorem stF {r : Res (List D)} {k : List D → Out} (sr : SR K C.z G0 H0 G H env σ) (p : PostS K C fr G0 H0 Dn (r.out env k))
    (j : ∀ ds q vs G' H', Ext G H G' H' → H q = none → G' q = none → H' q = some (.lst vs) → Rps K G' vs ds → PostS K C fr G0 H0 Dn (k ds) → QV (.ref q) H') : PostF K (C.xw σ) G H QV r := by
  cases r with
  | ok a => exact fun q vs G' H' e hp gp hl rp => j a q vs G' H' e hp gp hl rp p
  | ex n => exact fun H' s => p σ G H' (sr.grow s)
  | bad => exact p
/-- .. with all that is own to be seen: what is raised goes by the state itself -/
theorem stE' {r : Res α} {k : α → Out} {G1 : Hp} {env1 : Env} (sr : SR K C.z G0 H0 G H env σ) (p : PostS K C fr G0 H0 Dn (r.out env k)) (j : ∀ a v G' H', Ext G1 H G' H' → R G' v a → PostS K C fr G0 H0 Dn (k a) → Q v H') : Post R (C.xw σ) G1 H Q r := by
  cases r with
  | ok a => exact fun v G' H' e rp => j a v G' H' e rp p
  | ex n => exact fun H' s => p σ G H' (sr.grow s)
  | bad => exact p
theorem stF' {r : Res (List D)} {k : List D → Out} {G1 : Hp} (sr : SR K C.z G0 H0 G H env σ) (p : PostS K C fr G0 H0 Dn (r.out env k))
    (j : ∀ ds q vs G' H', Ext G1 H G' H' → H q = none → G' q = none → H' q = some (.lst vs) → Rps K G' vs ds → PostS K C fr G0 H0 Dn (k ds) → QV (.ref q) H') : PostF K (C.xw σ) G1 H QV r := by
  cases r with
  | ok a => exact fun q vs G' H' e hp gp hl rp => j a q vs G' H' e hp gp hl rp p
  | ex n => exact fun H' s => p σ G H' (sr.grow s)
  | bad => exact p
/-- another ground -/
theorem SR.rebase {G1 : Hp} (s : Same G0 G1) (f : ∀ a o, G1 a = some o → (∃ o', G0 a = some o') ∨ H0 a = none) (r : SR K C.z G1 H0 G H env σ) : SR K C.z G0 H0 G H env σ :=
  ⟨r.er, r.gh, s.trans r.g0, r.h0, fun a o q => by
    rcases r.fr a o q with ⟨o', q'⟩ | q'
    · exact f a o' q'
    · exact .inr q', r.own, r.sep⟩
theorem SR.onto {G1 : Hp} (r : SR K C.z G0 H0 G H env σ) (s : Same G1 G) (s0 : Same G0 G1) : SR K C.z G1 H0 G H env σ :=
  ⟨r.er, r.gh, s, r.h0, fun a o q => by
    rcases r.fr a o q with ⟨o', q'⟩ | q'
    · exact .inl ⟨o', s0 _ _ q'⟩
    · exact .inr q', r.own, r.sep⟩
theorem PostS.onto {G1 : Hp} (s : Same G0 G1) (f : ∀ a o, G1 a = some o → (∃ o', G0 a = some o') ∨ H0 a = none) {o : Out} (p : PostS K C fr G0 H0 Dn o) : PostS K C fr G1 H0 Dn o := by
  cases o with
  | nx e => exact fun σ G H r => p σ G H (SR.rebase s f r)
  | bk e => exact fun σ G H r => p σ G H (SR.rebase s f r)
  | ct e => exact fun σ G H r => p σ G H (SR.rebase s f r)
  | ex n e => exact fun σ G H r => p σ G H (SR.rebase s f r)
  | bad => exact p
  | rt d =>
    have lift : ∀ {G' H' : Hp}, Ext G1 H0 G' H' → Ext G0 H0 G' H' := fun e => ⟨e.hh, s.trans e.gg, e.gh, fun a o q => by
      rcases e.fr a o q with ⟨o', q'⟩ | q'
      · exact f a o' q'
      · exact .inr q'⟩
    cases fr with
    | true =>
      obtain ⟨ds, e, h⟩ := p
      exact ⟨ds, e, fun q vs G' H' x => h q vs G' H' (lift x)⟩
    | false => exact fun v G' H' x => p v G' H' (lift x)
end
section
variable {X : Cx} {C : Cf} {fr : Bool} {st : Stmt} {rest : List Stmt} {g h : Env → Out} {e : Expr} {pos : Pos} {f : Env → Res D} {ff : Env → Res (List D)}
def sNil : Env → Out := fun e => .nx e
def Out.seq (o : Out) (h : Env → Out) : Out := match o with
  | .nx e => h e
  | o => o
def sSeq (g h : Env → Out) : Env → Out := fun e => (g e).seq h
theorem qss_nil : QSs X C fr [] sNil := pss_imp pss_nil fun Dn σ H ⟨G0, H0, G, env, sr, p⟩ => p σ G H sr
theorem qss_cons (h1 : QS X C fr st g) (h2 : QSs X C fr rest h) : QSs X C fr (st :: rest) (sSeq g h) :=
  pss_imp (pss_cons h1 h2) fun Dn σ H ⟨G0, H0, G, env, sr, p⟩ => ⟨G0, H0, G, env, sr, by
    unfold sSeq at p
    cases hg : g env with
    | nx e =>
      rw [hg] at p
      exact fun σ' G' H' r => ⟨G0, H0, G', e, r, p⟩
    | bk e => rw [hg] at p; exact p
    | ct e => rw [hg] at p; exact p
    | rt d => rw [hg] at p; exact p
    | ex n e => rw [hg] at p; exact p
    | bad => rw [hg] at p; exact p⟩
theorem qss_one (h1 : QS X C fr st g) : QSs X C fr [st] g := pss_one h1
theorem qs_pass : QS X C fr (.Pass pos) sNil := ps_imp ps_pass fun Dn σ H ⟨G0, H0, G, env, sr, p⟩ => p σ G H sr
theorem qs_break : QS X C fr (.Break pos) .bk := ps_imp ps_break fun Dn σ H ⟨G0, H0, G, env, sr, p⟩ => p σ G H sr
theorem qs_continue : QS X C fr (.Continue pos) .ct := ps_imp ps_continue fun Dn σ H ⟨G0, H0, G, env, sr, p⟩ => p σ G H sr
theorem qs_doc {x j pos pos'} : QS X C fr (.Expr (.Constant (.str x) j pos) pos') sNil := ps_imp ps_doc fun Dn σ H ⟨G0, H0, G, env, sr, p⟩ => p σ G H sr
/-- some own lists become plain ahead of a statement -/
def sFz (q : Nat → Bool) (g : Env → Out) : Env → Out := fun env => g (fzE q env)
theorem qs_fz {q : Nat → Bool} (h1 : QS X C fr st g) : QS X C fr st (sFz q g) := ps_imp h1 fun Dn σ H ⟨G0, H0, G, env, sr, p⟩ => by
  obtain ⟨G', sr', _⟩ := sr.freeze q
  exact ⟨G0, H0, G', _, sr', p⟩
/-- names -/
def sSetV (i : Nat) (f : Env → Res D) : Env → Out := fun env => (f env).out env fun d => .nx (env.set i (.val d))
def sSetS (i : Nat) (f : Env → Res D) : Env → Out := fun env => (f (fu env)).out env fun d => if scal d = true then .nx (env.set i (.val d)) else .bad
def sSetO (i : Nat) (f : Env → Res (List D)) : Env → Out := fun env => (f env).out env fun ds => .nx (env.set i (.own ds))
def sSetOS (i : Nat) (f : Env → Res (List D)) : Env → Out := fun env => (f (fu env)).out env fun ds => if ds.all scal = true then .nx (env.set i (.own ds)) else .bad
theorem setV_run {i : Nat} {σ : St} {H : Hp} {Dn : Ends} (h : tS X.K C fr (sSetV i f) Dn σ H) : tAsg (tX X.K C f) (gName i) Dn σ H := by
  obtain ⟨G0, H0, G, env, sr, p⟩ := h
  exact ⟨G, env, sr.gh, sr.er, stE sr p fun d v G' H' e rp q => q _ G' H' ((sr.post e).set rp i)⟩
theorem setS_run {i : Nat} {σ : St} {H : Hp} {Dn : Ends} (h : tS X.K C fr (sSetS i f) Dn σ H) : tAsg (tX X.K C f) (gName i) Dn σ H := by
  obtain ⟨G0, H0, G, env, sr, p⟩ := h
  obtain ⟨G1, sr1, s1⟩ := sr.freeze fun _ => true
  refine ⟨G1, fu env, sr1.gh, sr1.er, stE' (env1 := fu env) sr p fun d v G' H' e rp q => ?_⟩
  split at q
  · rename_i hs
    exact q _ G H' ((sr.grow e.hh).set (rp.scal hs G) i)
  · exact q.elim
theorem setO_run {i : Nat} {σ : St} {H : Hp} {Dn : Ends} (h : tS X.K C fr (sSetO i ff) Dn σ H) : tAsg (tXf X.K C ff) (gName i) Dn σ H := by
  obtain ⟨G0, H0, G, env, sr, p⟩ := h
  exact ⟨G, env, sr.gh, sr.er, stF sr p fun ds a vs G' H' e hp gp hl rp q => q _ G' H' (sr.setO e hp gp hl rp i)⟩
theorem setOS_run {i : Nat} {σ : St} {H : Hp} {Dn : Ends} (h : tS X.K C fr (sSetOS i ff) Dn σ H) : tAsg (tXf X.K C ff) (gName i) Dn σ H := by
  obtain ⟨G0, H0, G, env, sr, p⟩ := h
  obtain ⟨G1, sr1, s1⟩ := sr.freeze fun _ => true
  refine ⟨G1, fu env, sr1.gh, sr1.er, stF' sr p fun ds a vs G' H' e hp gp hl rp q => ?_⟩
  split at q
  · rename_i hs
    exact q _ G H' (sr.setO ⟨e.hh, .refl _, sr.gh.trans e.hh, fun a o q => .inl ⟨o, q⟩⟩ hp ((s1.trans e.gg).free gp) hl (rp.scal hs G) i)
  · exact q.elim
variable {i : Nat} {x : Str} {pos' : Pos}
theorem qs_setV (hN : X.N.Nodup) (hi : X.N[i]? = some x) (he : QE X C e f) (hx : Loc X.env.scope x := by first | exact Or.inl rfl | exact Or.inr rfl) (hs : swapsWith e (some (.Name x pos')) pos.line X.env = pure false := by rfl) (hf : X.fn x = true ∨ X.env.scope.names.lookup x = some .local := by first | exact .inl rfl | exact .inr rfl) :
    QS X C fr (.Assign [.Name x pos'] e pos) (sSetV i f) := ps_imp (ps_set hN hi hx he hs hf) fun _ _ _ h => setV_run h
theorem qs_setS (hN : X.N.Nodup) (hi : X.N[i]? = some x) (he : QE X C e f) (hx : Loc X.env.scope x := by first | exact Or.inl rfl | exact Or.inr rfl) (hs : swapsWith e (some (.Name x pos')) pos.line X.env = pure false := by rfl) (hf : X.fn x = true ∨ X.env.scope.names.lookup x = some .local := by first | exact .inl rfl | exact .inr rfl) :
    QS X C fr (.Assign [.Name x pos'] e pos) (sSetS i f) := ps_imp (ps_set hN hi hx he hs hf) fun _ _ _ h => setS_run h
theorem qs_setO (hN : X.N.Nodup) (hi : X.N[i]? = some x) (he : QF X C e ff) (hx : Loc X.env.scope x := by first | exact Or.inl rfl | exact Or.inr rfl) (hs : swapsWith e (some (.Name x pos')) pos.line X.env = pure false := by rfl) (hf : X.fn x = true ∨ X.env.scope.names.lookup x = some .local := by first | exact .inl rfl | exact .inr rfl) :
    QS X C fr (.Assign [.Name x pos'] e pos) (sSetO i ff) := ps_imp (ps_set hN hi hx he hs hf) fun _ _ _ h => setO_run h
theorem qs_setOS (hN : X.N.Nodup) (hi : X.N[i]? = some x) (he : QF X C e ff) (hx : Loc X.env.scope x := by first | exact Or.inl rfl | exact Or.inr rfl) (hs : swapsWith e (some (.Name x pos')) pos.line X.env = pure false := by rfl) (hf : X.fn x = true ∨ X.env.scope.names.lookup x = some .local := by first | exact .inl rfl | exact .inr rfl) :
    QS X C fr (.Assign [.Name x pos'] e pos) (sSetOS i ff) := ps_imp (ps_set hN hi hx he hs hf) fun _ _ _ h => setOS_run h
/-- name = [..] on one line -/
theorem qs_setLc {tS' : TE → TS} {gg : Env → Out} {elt tg iter : Expr} {ifs : List Expr} {scope : Scope} {own : List (Str × Nat)} {lpos : Pos} {t : Tg} {fi : Env → Res (List D)} {c : Env → Res Bool} {fe : Env → Res D} (hc : X.calm = true) (hN : X.N.Nodup) (hi : X.N[i]? = some x) (hyl : X.env.scope.names.lookup x = some .local)
    (hsw : swapsWith (.ListComp elt [⟨tg, iter, ifs, 0⟩] scope lpos) (some (.Name x pos')) pos.line X.env = pure true) (hI : QI X C tg iter fi) (ok : BlkOk X.N X.env.scope scope own)
    (hg : ∀ (s : Shared) (H : Hp) (Cc : Addr) (cl : List (Str × Addr)) (fp : List Addr), QG (X.blk s H scope (compEnvC scope cl Cc X.env) fp) tg t) (ht : ∀ (s : Shared) (H : Hp) (Cc : Addr) (cl : List (Str × Addr)) (fp : List Addr), QTs (X.blk s H scope (compEnvC scope cl Cc X.env) fp) C.quiet ifs c)
    (he : ∀ (s : Shared) (H : Hp) (Cc : Addr) (cl : List (Str × Addr)) (fp : List Addr), QE (X.blk s H scope (compEnvC scope cl Cc X.env) fp) C.quiet elt fe) (hv : ∀ i ∈ own.map (·.2), i ∈ t.is) (hv2 : ∀ i ∈ t.is, i ∈ own.map (·.2))
    (hgo : ∀ Dn σ H, tS X.K C fr gg Dn σ H → tAsg (tXf X.K C (eComp t fi c fe)) (gName i) Dn σ H) (hs : ∀ x, foldedSetIterable iter X.env x = pure x := by intro _; rfl) :
    QS X C fr (.Assign [.Name x pos'] (.ListComp elt [⟨tg, iter, ifs, 0⟩] scope lpos) pos) gg :=
  ps_imp (ps_setLc hc hN hi hyl hsw hI ok hg ht he hs) fun Dn σ H h => lc_post hv hv2 (hgo Dn σ H h)
theorem setVF_run {i : Nat} {σ : St} {H : Hp} {Dn : Ends} (h : tS X.K C fr (sSetV i fun env => (ff env).map .list) Dn σ H) : tAsg (tXf X.K C ff) (gName i) Dn σ H := by
  obtain ⟨G, env, s, er, p⟩ := setV_run h
  exact ⟨G, env, s, er, PostF.of p⟩
/-- return -/
def sRet (f : Env → Res D) : Env → Out := fun env => (f (fu env)).out env .rt
def sRetF (f : Env → Res (List D)) : Env → Out := fun env => (f (fu env)).out env fun ds => .rt (.list ds)
def sRetOwn (i : Nat) : Env → Out := fun env => match env[i]? with
  | some (.own ds) => .rt (.list ds)
  | _ => .bad
def sRetN : Env → Out := fun _ => .rt .none
theorem qs_ret (he : QE X C e f) : QS X C false (.Return (some e) pos) (sRet f) := ps_imp (ps_ret he) fun Dn σ H ⟨G0, H0, G, env, sr, p⟩ => by
  obtain ⟨G1, sr1, s1⟩ := sr.freeze fun _ => true
  exact ⟨G1, fu env, sr1.gh, sr1.er, stE' (env1 := fu env) sr p fun d v G' H' e rp q => q v G' H' (sr1.ext0.trans e) rp⟩
theorem qs_retN : QS X C false (.Return none pos) sRetN := ps_imp ps_retN fun Dn σ H ⟨G0, H0, G, env, sr, p⟩ => p _ G H sr.ext0 .non
theorem qs_retF (he : QF X C e ff) : QS X C true (.Return (some e) pos) (sRetF ff) := ps_imp (ps_ret he) fun Dn σ H ⟨G0, H0, G, env, sr, p⟩ => by
  obtain ⟨G1, sr1, s1⟩ := sr.freeze fun _ => true
  refine ⟨G1, fu env, sr1.gh, sr1.er, stF' sr p fun ds a vs G' H' e hp gp hl rp q => ?_⟩
  obtain ⟨ds', ed, q⟩ := q
  cases ed
  exact q a vs G' H' (sr1.ext0.trans e) (sr.h0.free hp) gp hl rp
theorem qs_retOwn (i : Nat) {x : Str} {p2 : Pos} (hN : X.N[i]? = some x := by rfl) (hv : Vis X.env.scope x := by first | exact Or.inl rfl | exact Or.inr (Or.inl rfl) | exact Or.inr (Or.inr rfl)) (hd : (x == ("__debug__" : Str)) = false := by decide)
    (hcd : (x == ("__classdict__" : Str)) = false := by decide) : QS X C true (.Return (some (.Name x p2)) pos) (sRetOwn i) := ps_imp (ps_ret (pe_var hN hv hd hcd)) fun Dn σ H ⟨G0, H0, G, env, sr, p⟩ => by
  unfold sRetOwn at p
  split at p
  · rename_i ds h
    obtain ⟨a, vs, h1, h2, h3, h4, h5⟩ := sr.own i ds h
    obtain ⟨ds', ed, q⟩ := p
    cases ed
    exact ⟨.ref a, h1, q a vs G H sr.ext0 h4 h3 h2 h5⟩
  · exact p.elim
/-- if -/
def sIf (c : Env → Res Bool) (g h : Env → Out) : Env → Out := fun env => (c (fu env)).out env fun b => if b = true then g env else h env
theorem qs_if {c : Expr} {a b : List Stmt} {t : Env → Res Bool} (hc : QT X C c t) (ha : QSs X C fr a g) (hb : QSs X C fr b h) : QS X C fr (.If c a b pos) (sIf t g h) :=
  ps_imp (ps_if hc ha hb) fun Dn σ H ⟨G0, H0, G, env, sr, p⟩ => by
    obtain ⟨G1, sr1, s1⟩ := sr.freeze fun _ => true
    refine ⟨G1, fu env, sr1.gh, sr1.er, stE' (env1 := fu env) sr p fun d v G' H' e rp q => ?_⟩
    cases rp
    split
    · rename_i hd
      rw [if_pos hd] at q
      exact ⟨G0, H0, G, env, sr.grow e.hh, q⟩
    · rename_i hd
      rw [if_neg hd] at q
      exact ⟨G0, H0, G, env, sr.grow e.hh, q⟩
/-- an expression whose value is dropped -/
def sDrop (f : Env → Res D) : Env → Out := fun env => (f (fu env)).out env fun _ => .nx env
theorem qs_expr (he : QE X C e f) (hs : swapsWith e none pos.line X.env = pure false := by rfl) : QS X C fr (.Expr e pos) (sDrop f) := ps_imp (ps_expr he hs) fun Dn σ H ⟨G0, H0, G, env, sr, p⟩ => by
  obtain ⟨G1, sr1, s1⟩ := sr.freeze fun _ => true
  exact ⟨G1, fu env, sr1.gh, sr1.er, stE' (env1 := fu env) sr p fun d v G' H' e rp q => q σ G H' (sr.grow e.hh)⟩
/-- unpacking -/
def sUnp (t : Tg) (f : Env → Res D) : Env → Out := fun env => (f env).out env fun d => match t.parts d with
  | some ds => .nx (setE env t.is ds)
  | none => .bad
theorem qs_unp {tg : Expr} {t : Tg} (he : QE X C e f) (hg : QG X tg t) (hs : swapsWithSole [tg] e pos.line X.env = pure false := by rfl) (hw : swappedStores [tg] e X.env = pure none := by rfl) (h1 : (assignEach [tg] X.env).map (·.2) = [assign tg X.env] := by rfl) :
    QS X C fr (.Assign [tg] e pos) (sUnp t f) := ps_imp (ps_asg he hg hs hw h1) fun Dn σ H ⟨G0, H0, G, env, sr, p⟩ => ⟨G, env, sr.gh, sr.er, stE sr p fun d v G' H' e rp q => by
  split at q
  · rename_i ds hp
    exact Tg.run e.gh rp hp fun vs rv => q _ G' H' ((sr.post e).setAll rv)
  · exact q.elim⟩
def sPar (i j : Nat) (fs : Env → Res (List D)) : Env → Out := fun env => (fs env).out env fun ds => match ds with
  | [d1, d2] => .nx ((env.set i (.val d1)).set j (.val d2))
  | _ => .bad
theorem qs_par {i j : Nat} {x y : Str} {a b : Expr} {fs : Env → Res (List D)} {px py pt : Pos} {kt k2 pt2} (hc : X.calm = true) (hN : X.N.Nodup) (hi : X.N[i]? = some x) (hj : X.N[j]? = some y) (hij : i ≠ j) (ha : QA X C [a, b] fs)
    (hw : swappedStores [.Tuple [.Name x px, .Name y py] kt pt] (.Tuple [a, b] k2 pt2) X.env = pure (some [x, y])) (hx : X.env.scope.names.lookup x = some .local := by rfl) (hy : X.env.scope.names.lookup y = some .local := by rfl)
    (hs : swapsWithSole [.Tuple [.Name x px, .Name y py] kt pt] (.Tuple [a, b] k2 pt2) pos.line X.env = pure false := by rfl) :
    QS X C fr (.Assign [.Tuple [.Name x px, .Name y py] kt pt] (.Tuple [a, b] k2 pt2) pos) (sPar i j fs) := ps_imp (ps_par hc hN hi hj hij hx hy ha hw hs) fun Dn σ H ⟨G0, H0, G, env, sr, p⟩ => ⟨G, env, sr.gh, sr.er, stE sr p fun ds vs G' H' e rp q => by
  split at q
  · cases rp with
    | cons r1 r2 =>
      cases r2 with
      | cons r2 r3 =>
        cases r3
        exact ⟨_, _, rfl, q _ G' H' (((sr.post e).set r1 i).set r2 j)⟩
  · exact q.elim⟩
end
end L2.FL

set_option Elab.async false
set_option linter.all false
set_option maxRecDepth 100000
set_option maxHeartbeats 4000000
namespace L2.FL
open PySem PySem.Spec PyProof.Rows
/-! ### list methods that change a list -/
def rExtendR : V → List V → Hp → VK → Prop := fun x vs H Q => ∃ l b xs zs, x = .ref l ∧ vs = [.ref b] ∧ H l = some (.lst xs) ∧ Rd H b (.lst zs) ∧ xs.length + zs.length ≤ sizeLine ∧ Q .non (upd H l (.lst (xs ++ zs)))
section
variable {X : Cx} {C : Cf} {fr : Bool} {e : Expr} {pos apos cpos p2 : Pos} {f fv fk : Env → Res D} {i : Nat} {x : Str}
theorem mt_extendR : MtR X "list.extend" rExtendR := by
  intro pins s σ H x vs v us Q I rx rv h
  obtain ⟨l, b, xs, zs, rfl, rfl, hH, hB, hz, q⟩ := h
  cases rx
  obtain ⟨u, rfl, ru⟩ := rv.one
  cases ru
  obtain ⟨z, its, n, r, hl, e⟩ := I.lstM hH
  obtain ⟨z2, its2, n2, r2, hl2, e2⟩ := Inv.lstR I hB
  have hsz : its.toArray.size + its2.toArray.size ≤ sizeLine := by rw [List.size_toArray, List.size_toArray]; omega
  have hlong : ¬ (!its.toArray.isEmpty && Builtin.List.listTooLong (its.toArray.size + its2.toArray.size)) = true := by
    rw [notLongL hsz, Bool.and_false]
    exact Bool.false_ne_true
  refine call_meets F.slot_list_extend ⟨_, e, rfl⟩ F.entry_list_extend (F.args_list_extend_2 _ _)
    (AutoSeq1.list_extend_list_list_0 l its.toArray n b its2.toArray n2 hlong (by rw [List.size_toArray]; omega) (by omega)) ⟨e, e2, ?_⟩
  refine ⟨.non, _, I.lset (its' := its ++ its2) hH e (by simp) (r.append r2) ?_, rfl, q⟩
  rw [List.length_append]
  omega
def appO (i : Nat) (env : Env) (d : D) : Out := match env[i]? with
  | some (.own ds) => if ds.length < 16777216 then .nx (env.set i (.own (ds ++ [d]))) else .bad
  | _ => .bad
def sAppV (i : Nat) (f : Env → Res D) : Env → Out := fun env => (f env).out env (appO i env)
def sAppS (i : Nat) (f : Env → Res D) : Env → Out := fun env => (f (fu env)).out env fun d => if scal d = true then appO i env d else .bad
def extO (i : Nat) (env : Env) (d : D) : Out := match env[i]?, d with
  | some (.own ds), .list es => if ds.length + es.length ≤ 16777216 then .nx (env.set i (.own (ds ++ es))) else .bad
  | _, _ => .bad
def sExtV (i : Nat) (f : Env → Res D) : Env → Out := fun env => (f env).out env (extO i env)
def sExtS (i : Nat) (f : Env → Res D) : Env → Out := fun env => (f (fu env)).out env fun d => match d with
  | .list es => if es.all scal = true then extO i env d else .bad
  | _ => .bad
theorem appO_own {K : PySem.W.Frag} {G0 H0 : Hp} {Dn : Ends} {env : Env} {d : D} (q : PostS K C fr G0 H0 Dn (appO i env d)) : ∃ ds, env[i]? = some (Sl.own ds) ∧ ds.length < sizeLine ∧ PostS K C fr G0 H0 Dn (.nx (env.set i (.own (ds ++ [d])))) := by
  unfold appO at q
  split at q
  · split at q
    · rename_i ds h hl
      exact ⟨ds, h, by rw [sizeLine_eq]; exact hl, q⟩
    · exact q.elim
  · exact q.elim
theorem extO_own {K : PySem.W.Frag} {G0 H0 : Hp} {Dn : Ends} {env : Env} {d : D} (q : PostS K C fr G0 H0 Dn (extO i env d)) : ∃ ds es, env[i]? = some (Sl.own ds) ∧ d = .list es ∧ ds.length + es.length ≤ sizeLine ∧ PostS K C fr G0 H0 Dn (.nx (env.set i (.own (ds ++ es)))) := by
  unfold extO at q
  split at q
  · split at q
    · rename_i ds es h hl
      exact ⟨ds, es, h, rfl, by rw [sizeLine_eq]; exact hl, q⟩
    · exact q.elim
  · exact q.elim
/-- what the own name holds (so that the receiver can be read), whether or not the argument comes to be -/
theorem own_of_res {K : PySem.W.Frag} {G0 H0 G H : Hp} {Dn : Ends} {env : Env} {σ : St} {α : Type} {r : Res α} {k : α → Out} (sr : SR K C.z G0 H0 G H env σ) (h : ∃ ds, env[i]? = some (Sl.own ds)) : ∃ a vs, σ[i]? = some (some (V.ref a)) ∧ H a = some (.lst vs) := by
  obtain ⟨ds, h⟩ := h
  obtain ⟨a, vs, h1, h2, _⟩ := sr.own i ds h
  exact ⟨a, vs, h1, h2⟩
def isOwn (i : Nat) (env : Env) : Bool := match env[i]? with
  | some (.own _) => true
  | _ => false
theorem isOwn_ex {env : Env} (h : isOwn i env = true) : ∃ ds, env[i]? = some (Sl.own ds) := by
  unfold isOwn at h
  split at h
  · rename_i ds h'
    exact ⟨ds, h'⟩
  · cases h
/-- x.append(e) -/
def sMeth (i : Nat) (g : Env → Out) : Env → Out := fun env => if isOwn i env = true then g env else .bad
theorem qs_appV (hN : X.N[i]? = some x) (he : QE X C e f) (hv : Vis X.env.scope x := by first | exact Or.inl rfl | exact Or.inr (Or.inl rfl) | exact Or.inr (Or.inr rfl)) (hd : (x == ("__debug__" : Str)) = false := by decide) (hcd : (x == ("__classdict__" : Str)) = false := by decide)
    (hst : starEach [e] X.env = (false, eval e X.env) :: starEach [] X.env := by rfl)
    (hbase : attributeBase (.Name x p2) "append" X.env (eval (.Name x p2) X.env) = eval (.Name x p2) X.env := by rfl)
    (hfew : ((backTo cpos (starEach [e] X.env)).all (fun x => !x.1) && (backToKw cpos (keywordEach [] X.env)).all (fun x => x.1.isSome) && decide ([e].length + ([] : List Keyword).length + (if ([] : List Keyword).isEmpty then 0 else 1) < 30)) = true := by rfl)
    (hline : (apos.endLine == cpos.line) = true := by rfl) (hplain : (backTo cpos (starEach [] X.env)).any (·.1) = false := by rfl) (hs : swapsWith (.Call (.Attribute (.Name x p2) "append" apos) [e] [] cpos) none pos.line X.env = pure false := by rfl) :
    QS X C fr (.Expr (.Call (.Attribute (.Name x p2) "append" apos) [e] [] cpos) pos) (sMeth i (sAppV i f)) :=
  ps_imp (ps_expr (pe_bm PySem.F.plainAttrs_list PySem.F.slot_list_append PySem.F.type_list_append mt_append (pe_var hN hv hd hcd) (pa_cons he pa_nil hst) hbase hfew hline hst hplain) hs) fun Dn σ H ⟨G0, H0, G, env, sr, p⟩ => by
    unfold sMeth at p
    split at p
    · rename_i ho
      obtain ⟨ds0, h0⟩ := isOwn_ex ho
      obtain ⟨a, vs, h1, h2, h3, h4, h5⟩ := sr.own i ds0 h0
      refine ⟨.ref a, h1, .inl ⟨rfl, _, .inl (.inl h2)⟩, G, env, sr.gh, sr.er, stE sr p fun d v G' H' e rp q => ?_⟩
      obtain ⟨ds, hds, hl, q⟩ := appO_own q
      rw [h0] at hds
      cases hds
      refine ⟨a, vs, v, rfl, rfl, e.hh _ _ h2, by rw [h5.length]; exact hl, ?_⟩
      exact q σ G' _ ((sr.post e).mut h0 h1 ((h5.same e.gg).append (.cons rp .nil)))
    · exact p.elim
theorem qs_appS (hN : X.N[i]? = some x) (he : QE X C e f) (hv : Vis X.env.scope x := by first | exact Or.inl rfl | exact Or.inr (Or.inl rfl) | exact Or.inr (Or.inr rfl)) (hd : (x == ("__debug__" : Str)) = false := by decide) (hcd : (x == ("__classdict__" : Str)) = false := by decide)
    (hst : starEach [e] X.env = (false, eval e X.env) :: starEach [] X.env := by rfl)
    (hbase : attributeBase (.Name x p2) "append" X.env (eval (.Name x p2) X.env) = eval (.Name x p2) X.env := by rfl)
    (hfew : ((backTo cpos (starEach [e] X.env)).all (fun x => !x.1) && (backToKw cpos (keywordEach [] X.env)).all (fun x => x.1.isSome) && decide ([e].length + ([] : List Keyword).length + (if ([] : List Keyword).isEmpty then 0 else 1) < 30)) = true := by rfl)
    (hline : (apos.endLine == cpos.line) = true := by rfl) (hplain : (backTo cpos (starEach [] X.env)).any (·.1) = false := by rfl) (hs : swapsWith (.Call (.Attribute (.Name x p2) "append" apos) [e] [] cpos) none pos.line X.env = pure false := by rfl) :
    QS X C fr (.Expr (.Call (.Attribute (.Name x p2) "append" apos) [e] [] cpos) pos) (sMeth i (sAppS i f)) :=
  ps_imp (ps_expr (pe_bm PySem.F.plainAttrs_list PySem.F.slot_list_append PySem.F.type_list_append mt_append (pe_var hN hv hd hcd) (pa_cons he pa_nil hst) hbase hfew hline hst hplain) hs) fun Dn σ H ⟨G0, H0, G, env, sr, p⟩ => by
    unfold sMeth at p
    split at p
    · rename_i ho
      obtain ⟨ds0, h0⟩ := isOwn_ex ho
      obtain ⟨a, vs, h1, h2, h3, h4, h5⟩ := sr.own i ds0 h0
      obtain ⟨G1, sr1, s1⟩ := sr.freeze fun _ => true
      refine ⟨.ref a, h1, .inl ⟨rfl, _, .inl (.inl h2)⟩, G1, fu env, sr1.gh, sr1.er, stE' (env1 := fu env) sr p fun d v G' H' e rp q => ?_⟩
      split at q
      · rename_i hsc
        obtain ⟨ds, hds, hl, q⟩ := appO_own q
        rw [h0] at hds
        cases hds
        refine ⟨a, vs, v, rfl, rfl, e.hh _ _ h2, by rw [h5.length]; exact hl, ?_⟩
        exact q σ G _ ((sr.grow e.hh).mut h0 h1 (h5.append (.cons (rp.scal hsc G) .nil)))
      · exact q.elim
    · exact p.elim
/-- x.extend(e) -/
theorem qs_extV (hN : X.N[i]? = some x) (he : QE X C e f) (hv : Vis X.env.scope x := by first | exact Or.inl rfl | exact Or.inr (Or.inl rfl) | exact Or.inr (Or.inr rfl)) (hd : (x == ("__debug__" : Str)) = false := by decide) (hcd : (x == ("__classdict__" : Str)) = false := by decide)
    (hst : starEach [e] X.env = (false, eval e X.env) :: starEach [] X.env := by rfl)
    (hbase : attributeBase (.Name x p2) "extend" X.env (eval (.Name x p2) X.env) = eval (.Name x p2) X.env := by rfl)
    (hfew : ((backTo cpos (starEach [e] X.env)).all (fun x => !x.1) && (backToKw cpos (keywordEach [] X.env)).all (fun x => x.1.isSome) && decide ([e].length + ([] : List Keyword).length + (if ([] : List Keyword).isEmpty then 0 else 1) < 30)) = true := by rfl)
    (hline : (apos.endLine == cpos.line) = true := by rfl) (hplain : (backTo cpos (starEach [] X.env)).any (·.1) = false := by rfl) (hs : swapsWith (.Call (.Attribute (.Name x p2) "extend" apos) [e] [] cpos) none pos.line X.env = pure false := by rfl) :
    QS X C fr (.Expr (.Call (.Attribute (.Name x p2) "extend" apos) [e] [] cpos) pos) (sMeth i (sExtV i f)) :=
  ps_imp (ps_expr (pe_bm PySem.F.plainAttrs_list PySem.F.slot_list_extend PySem.F.type_list_extend mt_extendR (pe_var hN hv hd hcd) (pa_cons he pa_nil hst) hbase hfew hline hst hplain) hs) fun Dn σ H ⟨G0, H0, G, env, sr, p⟩ => by
    unfold sMeth at p
    split at p
    · rename_i ho
      obtain ⟨ds0, h0⟩ := isOwn_ex ho
      obtain ⟨a, vs, h1, h2, h3, h4, h5⟩ := sr.own i ds0 h0
      refine ⟨.ref a, h1, .inl ⟨rfl, _, .inl (.inl h2)⟩, G, env, sr.gh, sr.er, stE sr p fun d v G' H' e rp q => ?_⟩
      obtain ⟨ds, es, hds, rfl, hl, q⟩ := extO_own q
      rw [h0] at hds
      cases hds
      cases rp with
      | lst hb hbs =>
        refine ⟨a, _, vs, _, rfl, rfl, e.hh _ _ h2, Rd.same e.gh hb, by rw [h5.length, hbs.length]; exact hl, ?_⟩
        exact q σ G' _ ((sr.post e).mut h0 h1 ((h5.same e.gg).append hbs))
    · exact p.elim
theorem qs_extS (hN : X.N[i]? = some x) (he : QE X C e f) (hv : Vis X.env.scope x := by first | exact Or.inl rfl | exact Or.inr (Or.inl rfl) | exact Or.inr (Or.inr rfl)) (hd : (x == ("__debug__" : Str)) = false := by decide) (hcd : (x == ("__classdict__" : Str)) = false := by decide)
    (hst : starEach [e] X.env = (false, eval e X.env) :: starEach [] X.env := by rfl)
    (hbase : attributeBase (.Name x p2) "extend" X.env (eval (.Name x p2) X.env) = eval (.Name x p2) X.env := by rfl)
    (hfew : ((backTo cpos (starEach [e] X.env)).all (fun x => !x.1) && (backToKw cpos (keywordEach [] X.env)).all (fun x => x.1.isSome) && decide ([e].length + ([] : List Keyword).length + (if ([] : List Keyword).isEmpty then 0 else 1) < 30)) = true := by rfl)
    (hline : (apos.endLine == cpos.line) = true := by rfl) (hplain : (backTo cpos (starEach [] X.env)).any (·.1) = false := by rfl) (hs : swapsWith (.Call (.Attribute (.Name x p2) "extend" apos) [e] [] cpos) none pos.line X.env = pure false := by rfl) :
    QS X C fr (.Expr (.Call (.Attribute (.Name x p2) "extend" apos) [e] [] cpos) pos) (sMeth i (sExtS i f)) :=
  ps_imp (ps_expr (pe_bm PySem.F.plainAttrs_list PySem.F.slot_list_extend PySem.F.type_list_extend mt_extendR (pe_var hN hv hd hcd) (pa_cons he pa_nil hst) hbase hfew hline hst hplain) hs) fun Dn σ H ⟨G0, H0, G, env, sr, p⟩ => by
    unfold sMeth at p
    split at p
    · rename_i ho
      obtain ⟨ds0, h0⟩ := isOwn_ex ho
      obtain ⟨a, vs, h1, h2, h3, h4, h5⟩ := sr.own i ds0 h0
      obtain ⟨G1, sr1, s1⟩ := sr.freeze fun _ => true
      refine ⟨.ref a, h1, .inl ⟨rfl, _, .inl (.inl h2)⟩, G1, fu env, sr1.gh, sr1.er, stE' (env1 := fu env) sr p fun d v G' H' e rp q => ?_⟩
      split at q
      · split at q
        · rename_i hsc
          obtain ⟨ds, es, hds, ed, hl, q⟩ := extO_own q
          cases ed
          rw [h0] at hds
          cases hds
          cases rp with
          | lst hb hbs =>
            refine ⟨a, _, vs, _, rfl, rfl, e.hh _ _ h2, Rd.same e.gh hb, by rw [h5.length, hbs.length]; exact hl, ?_⟩
            exact q σ G _ ((sr.grow e.hh).mut h0 h1 (h5.append (hbs.scal hsc G)))
        · exact q.elim
      · exact q.elim
    · exact p.elim
/-! ### x[k] = v -/
def stO (i : Nat) (env : Env) (k d : D) : Out := match env[i]?, k with
  | some (.own ds), .int k => (match ixN ds.length k with
    | some j => .nx (env.set i (.own (ds.set j d)))
    | none => .bad)
  | _, _ => .bad
def sStS (i : Nat) (fk fv : Env → Res D) : Env → Out := fun env => (fv (fu env)).out env fun d => if scal d = true then (fk (fu env)).out env fun k => stO i env k d else .bad
theorem qs_stS {idx : Expr} {spos : Pos} (hN : X.N[i]? = some x) (hk : QE X C idx fk) (he : QE X C e fv) (hv : Vis X.env.scope x := by first | exact Or.inl rfl | exact Or.inr (Or.inl rfl) | exact Or.inr (Or.inr rfl)) (hd : (x == ("__debug__" : Str)) = false := by decide) (hcd : (x == ("__classdict__" : Str)) = false := by decide)
    (ha : ∀ v, assign (.Subscript (.Name x p2) idx spos) X.env v = (do
      let ov ← holding [v] (eval (.Name x p2) X.env)
      let iv ← holding [v, ov] (eval idx X.env)
      standAt spos
      holding [v, ov, iv] (setItem ov iv v)
      release [v, ov, iv] []) := by intro _; rfl)
    (hs : swapsWithSole [.Subscript (.Name x p2) idx spos] e pos.line X.env = pure false := by rfl) (hw : swappedStores [.Subscript (.Name x p2) idx spos] e X.env = pure none := by rfl) (h1 : (assignEach [.Subscript (.Name x p2) idx spos] X.env).map (·.2) = [assign (.Subscript (.Name x p2) idx spos) X.env] := by rfl) :
    QS X C fr (.Assign [.Subscript (.Name x p2) idx spos] e pos) (sMeth i (sStS i fk fv)) :=
  ps_imp (ps_asg he (pg_sub (pe_var hN hv hd hcd) hk set_list ha) hs hw h1) fun Dn σ H ⟨G0, H0, G, env, sr, p⟩ => by
    unfold sMeth at p
    split at p
    · rename_i ho
      obtain ⟨ds0, h0⟩ := isOwn_ex ho
      obtain ⟨a, vs, g1, g2, g3, g4, g5⟩ := sr.own i ds0 h0
      obtain ⟨G1, sr1, s1⟩ := sr.freeze fun _ => true
      refine ⟨G1, fu env, sr1.gh, sr1.er, stE' (env1 := fu env) sr p fun d v G' H' e rp q => ?_⟩
      split at q
      · rename_i hsc
        refine ⟨.ref a, g1, G', fu env, e.gh, sr1.er.same e.gg, stE' (env1 := fu env) (sr.grow e.hh) q fun k kv G2 H2 e2 rk q2 => ?_⟩
        unfold stO at q2
        split at q2
        · rename_i ds k' hds
          rw [h0] at hds
          cases hds
          cases rk
          split at q2
          · rename_i j hj
            refine ⟨a, vs, _, j, rfl, rfl, e2.hh _ _ (e.hh _ _ g2), by rw [g5.length]; exact hj, ?_⟩
            exact q2 σ G _ (((sr.grow e.hh).grow e2.hh).mut h0 g1 (Rps.set (rp.scal hsc G) j g5))
          · exact q2.elim
        · exact q2.elim
      · exact q.elim
    · exact p.elim
/-! ### name op= e, x[k] op= e -/
def rInt (CC : Int → Int → Prop) (g : Int → Int → V) : TIp := fun x y H Q => ∃ i j, x = .int i ∧ y = .int j ∧ CC i j ∧ Q (g i j) H
theorem ipInt {op : Operator} {CC : Int → Int → Prop} {g : Int → Int → Int} (h : ∀ (M : Around) (E : Value → Shared → Prop) (s : Shared) (a b : Int) (t u : Tok) (Q : Value → Shared → Prop), CC a b → Q (.int (g a b) s.toks) { s with toks := s.toks + 1 } → wpAny (model X.prog X.w) M (inplaceOp op (.int a t) (.int b u)) Q E s) : PIp X op (rInt CC fun i j => .int (g i j)) := by
  intro pins s σ H x y v u Q I r1 r2 q
  obtain ⟨i, j, e1, e2, hc, q⟩ := q
  subst e1; subst e2
  obtain ⟨t, rfl⟩ := r1
  obtain ⟨t', rfl⟩ := r2
  exact h _ _ _ _ _ _ _ _ hc ⟨.int _, H, I.tok _, ⟨_, rfl⟩, q⟩
def IpF (K : PySem.W.Frag) (g : D → D → Res D) (r : TIp) : Prop := ∀ (x y : V) (dx dy : D) (H : Hp) (Q : VK), scal dx = true → scal dy = true → Rp K H x dx → Rp K H y dy → (∀ d, g dx dy = .ok d → ∀ v, (∀ H', Rp K H' v d) → Q v H) → (∃ d, g dx dy = .ok d) → r x y H Q
theorem i2_ip {K : PySem.W.Frag} {c : Int → Int → Bool} {f : Int → Int → Int} {CC : Int → Int → Prop} (hc : ∀ i j, c i j = true → CC i j) : IpF K (i2 c fun i j => .int (f i j)) (rInt CC fun i j => .int (f i j)) := by
  intro x y dx dy H Q _ _ rx ry q ⟨d, hd⟩
  have hd' := hd
  unfold i2 at hd
  split at hd
  · cases rx
    cases ry
    split at hd
    · rename_i h
      cases hd
      exact ⟨_, _, rfl, rfl, hc _ _ h, q _ hd' _ fun H' => .int _⟩
    · cases hd
  · cases hd
theorem ip_addI : PIp X .Add (rInt (fun _ _ => True) fun i j => .int (i + j)) := ipInt fun _ _ _ _ _ _ _ _ _ q => iadd_int q
theorem ip_subI : PIp X .Sub (rInt (fun _ _ => True) fun i j => .int (i - j)) := ipInt fun _ _ _ _ _ _ _ _ _ q => isub_int q
theorem ip_andI : PIp X .BitAnd (rInt (fun _ _ => True) fun i j => .int (Builtin.bitAnd i j)) := ipInt fun _ _ _ _ _ _ _ _ _ q => iand_int q
theorem ip_shrI : PIp X .RShift (rInt (fun _ j => 0 ≤ j) fun i j => .int (i / 2 ^ j.toNat)) := ipInt fun _ _ _ i j _ _ _ hc q => irshift_int hc (by
  rw [Int.fdiv_eq_ediv_of_nonneg _ (by exact Int.le_of_lt (Int.pow_pos (by decide)))]
  exact q)
def sAug (i : Nat) (g : D → D → Res D) (f : Env → Res D) : Env → Out := fun env => match env[i]? with
  | some (.val d0) => if scal d0 = true then (f (fu env)).out env fun d => if scal d = true then (match g d0 d with
    | .ok d' => if scal d' = true then .nx (env.set i (.val d')) else .bad
    | _ => .bad) else .bad else .bad
  | _ => .bad
theorem qs_aug {op : Operator} {g : D → D → Res D} {r : TIp} {pos' : Pos} (hr : PIp X op r) (ho : IpF X.K g r) (hN : X.N.Nodup) (hi : X.N[i]? = some x) (he : QE X C e f) (hx : Loc X.env.scope x := by first | exact Or.inl rfl | exact Or.inr rfl) (hf : X.fn x = true ∨ X.env.scope.names.lookup x = some .local := by first | exact .inl rfl | exact .inr rfl) :
    QS X C fr (.AugAssign (.Name x pos') op e pos) (sAug i g f) := ps_imp (ps_aug hN hi hx he hr hf) fun Dn σ H ⟨G0, H0, G, env, sr, p⟩ => by
  unfold sAug at p
  split at p
  · rename_i d0 hd0
    split at p
    · rename_i hs0
      obtain ⟨v0, g1, g2⟩ := sr.er.val i d0 hd0
      obtain ⟨G1, sr1, s1⟩ := sr.freeze fun _ => true
      refine ⟨v0, g1, G1, fu env, sr1.gh, sr1.er, stE' (env1 := fu env) sr p fun d v G' H' e rp q => ?_⟩
      split at q
      · rename_i hs1
        split at q
        · rename_i d' hg
          split at q
          · rename_i hs2
            refine ho v0 v d0 d H' _ hs0 hs1 (g2.scal hs0 _) (rp.scal hs1 _) (fun d2 h2 w rw_ => ?_) ⟨_, hg⟩
            rw [hg] at h2
            cases h2
            exact q _ G H' ((sr.grow e.hh).set (rw_ G) i)
          · exact q.elim
        · exact q.elim
      · exact q.elim
    · exact p.elim
  · exact p.elim
theorem qs_augAdd {pos' : Pos} (hN : X.N.Nodup) (hi : X.N[i]? = some x) (he : QE X C e f) (hx : Loc X.env.scope x := by first | exact Or.inl rfl | exact Or.inr rfl) (hf : X.fn x = true ∨ X.env.scope.names.lookup x = some .local := by first | exact .inl rfl | exact .inr rfl) :
    QS X C fr (.AugAssign (.Name x pos') .Add e pos) (sAug i gAdd f) := qs_aug ip_addI (i2_ip fun _ _ _ => trivial) hN hi he hx hf
theorem qs_augSub {pos' : Pos} (hN : X.N.Nodup) (hi : X.N[i]? = some x) (he : QE X C e f) (hx : Loc X.env.scope x := by first | exact Or.inl rfl | exact Or.inr rfl) (hf : X.fn x = true ∨ X.env.scope.names.lookup x = some .local := by first | exact .inl rfl | exact .inr rfl) :
    QS X C fr (.AugAssign (.Name x pos') .Sub e pos) (sAug i gSub f) := qs_aug ip_subI (i2_ip fun _ _ _ => trivial) hN hi he hx hf
theorem qs_augShr {pos' : Pos} (hN : X.N.Nodup) (hi : X.N[i]? = some x) (he : QE X C e f) (hx : Loc X.env.scope x := by first | exact Or.inl rfl | exact Or.inr rfl) (hf : X.fn x = true ∨ X.env.scope.names.lookup x = some .local := by first | exact .inl rfl | exact .inr rfl) :
    QS X C fr (.AugAssign (.Name x pos') .RShift e pos) (sAug i gShr f) := qs_aug ip_shrI (i2_ip fun i j h => show 0 ≤ j from of_decide_eq_true h) hN hi he hx hf
/-- o[k] of a list, 0 ≤ k -/
def rGetL : V → V → Hp → VK → Prop := fun o i H Q => ∃ p xs k v, o = .ref p ∧ i = .int k ∧ H p = some (.lst xs) ∧ 0 ≤ k ∧ xs[k.toNat]? = some v ∧ Q v H
theorem get_listL : PGet X rGetL := by
  intro pins s σ H o i ov iv Q I ro ri h
  obtain ⟨p, xs, k, v, rfl, rfl, hp, h0, hx, q⟩ := h
  cases ro
  obtain ⟨t, rfl⟩ := ri
  obtain ⟨z, its, n, r, hl, e⟩ := I.lstM hp
  obtain ⟨u, hu, ru⟩ := r.get hx
  have hk : k.toNat < xs.length := (List.getElem?_eq_some_iff.mp hx).1
  have hl63 := line63
  exact wpAny_getItem_list (items := its.toArray) ⟨_, e, rfl, n, rfl⟩ h0 (by omega) (by simpa using hu) ⟨v, H, I, ru, q⟩
def sAugIx (i : Nat) (g : D → D → Res D) (fk fv : Env → Res D) : Env → Out := fun env => (fk (fu env)).out env fun k => match env[i]?, k with
  | some (.own ds), .int k => if 0 ≤ k then (match ds[k.toNat]? with
    | some d0 => if scal d0 = true then (fv (fu env)).out env fun d => if scal d = true then (match g d0 d with
      | .ok d' => if scal d' = true then .nx (env.set i (.own (ds.set k.toNat d'))) else .bad
      | _ => .bad) else .bad else .bad
    | none => .bad) else .bad
  | _, _ => .bad
theorem qs_augIx {op : Operator} {g : D → D → Res D} {r : TIp} {idx : Expr} {tpos : Pos} (hr : PIp X op r) (ho : IpF X.K g r) (hN : X.N[i]? = some x) (hk : QE X C idx fk) (he : QE X C e fv) (hv : Vis X.env.scope x := by first | exact Or.inl rfl | exact Or.inr (Or.inl rfl) | exact Or.inr (Or.inr rfl)) (hd : (x == ("__debug__" : Str)) = false := by decide) (hcd : (x == ("__classdict__" : Str)) = false := by decide)
    (ha : ∀ ov iv new, augStore idx ov iv new = (do holding [new, ov, iv] (setItem ov iv new); release [new, ov, iv] []; pure .next) := by intros; rfl) :
    QS X C fr (.AugAssign (.Subscript (.Name x p2) idx tpos) op e pos) (sMeth i (sAugIx i g fk fv)) :=
  ps_imp (ps_augS (pe_var hN hv hd hcd) hk get_listL he hr set_list ha) fun Dn σ H ⟨G0, H0, G, env, sr, p⟩ => by
    unfold sMeth at p
    split at p
    · rename_i ho'
      obtain ⟨ds0, h0⟩ := isOwn_ex ho'
      obtain ⟨a, vs, g1, g2, g3, g4, g5⟩ := sr.own i ds0 h0
      obtain ⟨G1, sr1, s1⟩ := sr.freeze fun _ => true
      refine ⟨.ref a, g1, G1, fu env, sr1.gh, sr1.er, stE' (env1 := fu env) sr p fun kd kv G' H' e1 rk q => ?_⟩
      split at q
      · rename_i ds k hds
        rw [h0] at hds
        cases hds
        cases rk
        split at q
        · rename_i hk0
          split at q
          · rename_i d0 hd0
            split at q
            · rename_i hs0
              obtain ⟨v0, hv0, rv0⟩ := g5.get hd0
              refine ⟨a, vs, k, v0, rfl, rfl, e1.hh _ _ g2, hk0, hv0, G', fu env, e1.gh, sr1.er.same e1.gg, stE' (env1 := fu env) (sr.grow e1.hh) q fun d v G2 H2 e2 rp q => ?_⟩
              split at q
              · rename_i hs1
                split at q
                · rename_i d' hg
                  split at q
                  · rename_i hs2
                    refine ho v0 v d0 d H2 _ hs0 hs1 (rv0.scal hs0 _) (rp.scal hs1 _) (fun d2 h2 w rw_ => ?_) ⟨_, hg⟩
                    rw [hg] at h2
                    cases h2
                    have hj : ixN vs.length k = some k.toNat := by
                      have hlt : k.toNat < vs.length := (List.getElem?_eq_some_iff.mp hv0).1
                      unfold ixN
                      rw [if_pos hk0, if_pos (by omega)]
                    refine ⟨a, vs, k, k.toNat, rfl, rfl, e2.hh _ _ (e1.hh _ _ g2), hj, ?_⟩
                    exact q σ G _ (((sr.grow e1.hh).grow e2.hh).mut h0 g1 (Rps.set (rw_ G) k.toNat g5))
                  · exact q.elim
                · exact q.elim
              · exact q.elim
            · exact q.elim
          · exact q.elim
        · exact q.elim
      · exact q.elim
    · exact p.elim
end
/-! ### loops -/
def loopF (t : Tg) (b : Env → Out) : List D → Env → Out
  | [], e => .nx e
  | d :: ds, e => match t.parts d with
    | none => .bad
    | some ps => match b (setE e t.is ps) with
      | .nx e' => loopF t b ds e'
      | .ct e' => loopF t b ds e'
      | .bk e' => .nx e'
      | .rt d => .rt d
      | .ex n e' => .ex n e'
      | .bad => .bad
def sFor (t : Tg) (fi : Env → Res (List D)) (b : Env → Out) : Env → Out := fun env => (fi env).out env fun ds => loopF t b ds env
/-- over a range: its ends are read with all that is own to be seen -/
def sForR (t : Tg) (fi : Env → Res (List D)) (b : Env → Out) : Env → Out := fun env => (fi (fu env)).out env fun ds => loopF t b ds env
abbrev WkA (K : PySem.W.Frag) : Hp → It → List D → Prop := fun _ J ds => ∀ G, Wk K J G ds
def tXr (K : PySem.W.Frag) (C : Cf) (f : Env → Res (List D)) : TI := fun σ H R => ∃ G env, Same G H ∧ ER K C.z G env σ ∧ Post (WkA K) (C.xw σ) G H R (f env)
abbrev QR (X : Cx) (C : Cf) (tg iter : Expr) (f : Env → Res (List D)) : Prop := PI X tg iter (tXr X.K C f)
section
variable {X : Cx} {C : Cf} {fr : Bool} {tg iter e e' e'' : Expr} {fs fi : Env → Res (List D)} {p pos : Pos} {t : Tg} {body : List Stmt} {g : Env → Out}
theorem qr_range1 (hg : Gl X "range") (hm : X.mg "range" = none) (ha : QA X C [e] fs) (hs : starEach [e] X.env = [(false, eval e X.env)] := by rfl) : QR X C tg (.Call (.Name "range" p) [e] [] pos) (iR1 fs) :=
  pi_imp (pi_range1 hg hm ha hs) fun σ H R ⟨G, env, s, er, p⟩ => ⟨G, env, s, er, Post.bind p fun ds vs G1 H1 e1 r1 p1 => by
    split at p1
    · split at p1
      · rename_i h
        cases r1 with
        | cons r1 r2 =>
          cases r2
          cases r1
          have e62 : (2 : Int) ^ 62 = 4611686018427387904 := by decide
          exact ⟨_, rfl, by rw [e62]; omega, by rw [e62]; omega, p1 _ _ _ (.refl e1.gh) fun _ => wk_rng⟩
      · exact p1.elim
    · exact p1.elim⟩
theorem qr_range2 (hg : Gl X "range") (hm : X.mg "range" = none) (ha : QA X C [e, e'] fs) (hs : starEach [e, e'] X.env = [(false, eval e X.env), (false, eval e' X.env)] := by rfl) (hs2 : starEach [e'] X.env = [(false, eval e' X.env)] := by rfl) :
    QR X C tg (.Call (.Name "range" p) [e, e'] [] pos) (iR2 fs) :=
  pi_imp (pi_range2 hg hm ha hs hs2) fun σ H R ⟨G, env, s, er, p⟩ => ⟨G, env, s, er, Post.bind p fun ds vs G1 H1 e1 r1 p1 => by
    split at p1
    · split at p1
      · rename_i h
        cases r1 with
        | cons r1 r2 =>
          cases r2 with
          | cons r2 r3 =>
            cases r3
            cases r1
            cases r2
            have e62 : (2 : Int) ^ 62 = 4611686018427387904 := by decide
            exact ⟨_, _, rfl, by rw [e62]; omega, p1 _ _ _ (.refl e1.gh) fun _ => wk_rng⟩
      · exact p1.elim
    · exact p1.elim⟩
theorem qr_range3 (hg : Gl X "range") (hm : X.mg "range" = none) (ha : QA X C [e, e', e''] fs) (hs : starEach [e, e', e''] X.env = (false, eval e X.env) :: starEach [e', e''] X.env := by rfl) (hpl : (backTo pos (starEach [e', e''] X.env)).any (·.1) = false := by rfl) :
    QR X C tg (.Call (.Name "range" p) [e, e', e''] [] pos) (iR3 fs) :=
  pi_imp (pi_range3 hg hm ha hs hpl) fun σ H R ⟨G, env, s, er, p⟩ => ⟨G, env, s, er, Post.bind p fun ds vs G1 H1 e1 r1 p1 => by
    split at p1
    · split at p1
      · rename_i h
        cases r1 with
        | cons r1 r2 =>
          cases r2 with
          | cons r2 r3 =>
            cases r3 with
            | cons r3 r4 =>
              cases r4
              cases r1
              cases r2
              cases r3
              exact ⟨_, _, _, _, rfl, ⟨h.1, h.2.1, h.2.2.1, (Int.toNat_of_nonneg h.2.2.2).symm⟩, p1 _ _ _ (.refl e1.gh) fun _ => wk_rngC⟩
      · exact p1.elim
    · exact p1.elim⟩
theorem QR.i (h : QR X C tg iter fi) : QI X C tg iter fi := pi_imp h fun σ H R ⟨G, env, s, er, p⟩ => ⟨G, env, s, er, by
  cases hf : fi env with
  | ok ds =>
    rw [hf] at p
    exact fun J G' H' e wk => p J G' H' e (wk G')
  | ex n => rw [hf] at p; exact p
  | bad => rw [hf] at p; exact p⟩
theorem loop_run {G0 H0 G1 H1 : Hp} {Dn : Ends} {env : Env} {σ : St} {ds : List D} {J : It} (sr1 : SR X.K C.z G0 H0 G1 H1 env σ) (wk : Wk X.K J G1 ds) (q : PostS X.K C fr G0 H0 Dn (loopF t g ds env)) :
    ∃ W : Nat → Nat → St → Hp → Prop, (∃ m, W 0 m σ H1) ∧ ∀ i m σ H, W i m σ H →
      (J.stop i H ∧ Dn.nx σ H) ∨ (J.go i H ∧ ∃ N : St → Hp → Prop, (∀ σ' H', N σ' H' → ∃ m', m' < m ∧ W (i + 1) m' σ' H') ∧ ∀ x H', J.yld i H x H' → t.g X.K x σ H' fun σ2 H2 => tS X.K C fr g { Dn with nx := N, ct := N, bk := Dn.nx } σ2 H2) := by
  let word (i : Nat) (σ' : St) (H' : Hp) : Prop := ∃ Gc ec, SR X.K C.z G1 H0 Gc H' ec σ' ∧ PostS X.K C fr G1 H0 Dn (loopF t g (ds.drop i) ec)
  have w0 : word 0 σ H1 := ⟨G1, env, sr1.onto (.refl _) sr1.g0, PostS.onto sr1.g0 sr1.fr q⟩
  refine ⟨fun i m σ' H' => m = ds.length - i ∧ i ≤ ds.length ∧ word i σ' H', ⟨_, rfl, Nat.zero_le _, w0⟩, ?_⟩
  rintro i m σ' H' ⟨rfl, hi, Gc, ec, src, pp⟩
  by_cases hlt : i < ds.length
  · refine .inr ⟨wk.go i H' (src.g0.trans src.gh) hlt, word (i + 1), fun σ2 H2 w => ⟨ds.length - (i + 1), by omega, rfl, hlt, w⟩, fun x H2 hy => ?_⟩
    have hd : ds[i]? = some ds[i] := List.getElem?_eq_getElem hlt
    rw [List.drop_eq_getElem_cons hlt] at pp
    obtain ⟨Gd, eg, rd⟩ := wk.yl i H' x H2 _ Gc src.g0 src.gh hy hd
    unfold loopF at pp
    cases hp : t.parts ds[i] with
    | none =>
      rw [hp] at pp
      exact pp.elim
    | some ps =>
      rw [hp] at pp
      refine Tg.run eg.gh rd hp fun ws rw_ => ⟨G1, H0, Gd, _, (src.post eg).setAll rw_, ?_⟩
      dsimp only at pp
      cases hb : g (setE ec t.is ps) with
      | nx e2 =>
        rw [hb] at pp
        exact fun σ3 G3 H3 r => ⟨G3, e2, r, pp⟩
      | ct e2 =>
        rw [hb] at pp
        exact fun σ3 G3 H3 r => ⟨G3, e2, r, pp⟩
      | bk e2 =>
        rw [hb] at pp
        exact pp
      | rt d =>
        rw [hb] at pp
        exact pp
      | ex n e2 =>
        rw [hb] at pp
        exact pp
      | bad =>
        rw [hb] at pp
        exact pp
  · have ei : i = ds.length := by omega
    subst ei
    refine .inl ⟨wk.st _ H' (src.g0.trans src.gh) (Nat.le_refl _), ?_⟩
    rw [List.drop_length] at pp
    exact pp σ' Gc H' src
theorem qs_for (hp : PassesOwn (model X.prog X.w) X.A X.env X.xe) (hc : X.calm = true) (hi : QI X C tg iter fi) (hg : QG X tg t) (hb : QSs X C fr body g) (hs : ∀ x, foldedSetIterable iter X.env x = pure x := by intro _; rfl) :
    QS X C fr (.For tg iter body [] pos) (sFor t fi g) := ps_imp (ps_for hp hc hi hg hb hs) fun Dn σ H ⟨G0, H0, G, env, sr, p⟩ =>
  ⟨G, env, sr.gh, sr.er, stE sr p fun ds J G1 H1 e wk q => loop_run (sr.post e) wk q⟩
theorem qs_forR (hp : PassesOwn (model X.prog X.w) X.A X.env X.xe) (hc : X.calm = true) (hi : QR X C tg iter fi) (hg : QG X tg t) (hb : QSs X C fr body g) (hs : ∀ x, foldedSetIterable iter X.env x = pure x := by intro _; rfl) :
    QS X C fr (.For tg iter body [] pos) (sForR t fi g) := ps_imp (ps_for hp hc hi hg hb hs) fun Dn σ H ⟨G0, H0, G, env, sr, p⟩ => by
  obtain ⟨G1, sr1, s1⟩ := sr.freeze fun _ => true
  exact ⟨G1, fu env, sr1.gh, sr1.er, stE' (env1 := fu env) sr p fun ds J G2 H2 e wk q => loop_run (sr.grow e.hh) (wk G) q⟩
/-- while, by turns -/
def whileN (c : Env → Res Bool) (b : Env → Out) : Nat → Env → Out
  | 0, _ => .bad
  | n + 1, e => (c (fu e)).out e fun v => if v = true then (match b e with
    | .nx e' => whileN c b n e'
    | .ct e' => whileN c b n e'
    | .bk e' => .nx e'
    | .rt d => .rt d
    | .ex n e' => .ex n e'
    | .bad => .bad) else .nx e
theorem whileN_succ {c : Env → Res Bool} {b : Env → Out} : ∀ (n : Nat) (e : Env), whileN c b n e ≠ .bad → whileN c b (n + 1) e = whileN c b n e
  | 0, e, h => absurd rfl h
  | n + 1, e, h => by
    have ih := whileN_succ (c := c) (b := b) n
    unfold whileN at h ⊢
    cases hc : c (fu e) with
    | bad => rfl
    | ex k => rfl
    | ok v =>
      rw [hc] at h
      show (if v = true then _ else _) = (if v = true then _ else _)
      have h : (if v = true then _ else _) ≠ Out.bad := h
      cases v with
      | false => rfl
      | true =>
        rw [if_pos rfl] at h
        rw [if_pos rfl, if_pos rfl]
        cases hb : b e with
        | nx e' =>
          rw [hb] at h
          exact ih e' h
        | ct e' =>
          rw [hb] at h
          exact ih e' h
        | bk e' => rfl
        | rt d => rfl
        | ex n e' => rfl
        | bad => rfl
theorem whileN_le {c : Env → Res Bool} {b : Env → Out} {n m : Nat} {e : Env} (h : whileN c b n e ≠ .bad) (hm : n ≤ m) : whileN c b m e = whileN c b n e := by
  obtain ⟨k, rfl⟩ := Nat.le.dest hm
  clear hm
  induction k with
  | zero => rfl
  | succ k ih =>
    rw [← Nat.add_assoc, whileN_succ _ _ (by rw [ih]; exact h), ih]
open Classical in
noncomputable def sWhile (c : Env → Res Bool) (b : Env → Out) : Env → Out := fun e => if h : ∃ n, whileN c b n e ≠ .bad then whileN c b (choose h) e else .bad
theorem sWhile_of {c : Env → Res Bool} {b : Env → Out} {n : Nat} {e : Env} {o : Out} (h : whileN c b n e = o) (ho : o ≠ .bad) : sWhile c b e = o := by
  have hx : ∃ n, whileN c b n e ≠ .bad := ⟨n, by rw [h]; exact ho⟩
  unfold sWhile
  rw [dif_pos hx]
  have h1 := Classical.choose_spec hx
  by_cases hl : n ≤ Classical.choose hx
  · rw [whileN_le (by rw [h]; exact ho) hl, h]
  · rw [← whileN_le h1 (show Classical.choose hx ≤ n by omega), h]
theorem qs_while {c : Expr} {tc : Env → Res Bool} (hp : PassesOwn (model X.prog X.w) X.A X.env X.xe) (hc : QT X C c tc) (hb : QSs X C fr body g) : QS X C fr (.While c body [] pos) (sWhile tc g) :=
  ps_imp (ps_while hp hc hb) fun Dn σ H ⟨G0, H0, G, env, sr, p⟩ => by
    unfold sWhile at p
    split at p
    · rename_i hx
      refine ⟨fun m σ' H' => ∃ Gc ec, SR X.K C.z G0 H0 Gc H' ec σ' ∧ PostS X.K C fr G0 H0 Dn (whileN tc g m ec), ⟨_, G, env, sr, p⟩, ?_⟩
      rintro m σ' H' ⟨Gc, ec, src, pp⟩
      cases m with
      | zero => exact pp.elim
      | succ m =>
        unfold whileN at pp
        obtain ⟨G1, sr1, s1⟩ := src.freeze fun _ => true
        refine ⟨G1, fu ec, sr1.gh, sr1.er, stE' (env1 := fu ec) src pp fun v b G' H2 e rb q => ?_⟩
        cases rb
        split
        · rename_i hv
          rw [if_pos hv] at q
          refine ⟨fun σ2 H2 => ∃ Gc ec, SR X.K C.z G0 H0 Gc H2 ec σ2 ∧ PostS X.K C fr G0 H0 Dn (whileN tc g m ec), fun σ2 H2 w => ⟨m, Nat.lt_succ_self _, w⟩, G0, H0, Gc, ec, src.grow e.hh, ?_⟩
          cases hb : g ec with
          | nx e2 =>
            rw [hb] at q
            exact fun σ3 G3 H3 r => ⟨G3, e2, r, q⟩
          | ct e2 =>
            rw [hb] at q
            exact fun σ3 G3 H3 r => ⟨G3, e2, r, q⟩
          | bk e2 => rw [hb] at q; exact q
          | rt d => rw [hb] at q; exact q
          | ex n e2 => rw [hb] at q; exact q
          | bad => rw [hb] at q; exact q
        · rename_i hv
          rw [if_neg hv] at q
          exact q σ' Gc H2 (src.grow e.hh)
    · exact p.elim
end
/-! ### calls of the program's own defs -/
def spF (K : PySem.W.Frag) (xa : Nat → Addr) (fr : Bool) (F : List D → Res D) : Sp := fun vs H Q E => ∃ G ds, Same G H ∧ Rps K G vs ds ∧ (match F ds with
  | .ok d => RtP K fr G H Q d
  | .ex n => ∀ H', Same H H' → E (.ref (xa n)) none H'
  | .bad => False)
def asL : D → Res (List D) := fun d => match d with
  | .list l => .ok l
  | _ => .bad
section
variable {X : Cx} {C : Cf} {e : Expr} {es : List Expr} {fs : Env → Res (List D)} {p pos : Pos} {k : Nat} {f : Addr} {fd : FuncData} {ps : List Str} {Fn : List D → Res D} {x : Str}
theorem q_call (F : FnOk X.prog X.w X.K X.mg X.base (L2.CX X.prog X.w) k f fd ps (spF X.K C.xa false Fn)) (hr : Room k X.A) (hm : X.mg x = some (.ref f)) (hk : PySem.W.keepIn X.K (.ref f) = true) (hb : Binds X.K fd ps []) (tk : Takes X C.W) (ha : QA X C (e :: es) fs) (hg : Gl X x := by rfl)
    (hdb : (x == ("__debug__" : Str)) = false := by decide) (he : starEach (e :: es) X.env = (false, eval e X.env) :: starEach es X.env := by rfl) (hpl : (backTo pos (starEach es X.env)).any (·.1) = false := by rfl) :
    QE X C (.Call (.Name x p) (e :: es) [] pos) (fun env => (fs env).bind Fn) :=
  pe_imp (pe_callS F hr hg hm hk hb (fun σ => passAt tk σ) ha hdb he hpl) fun σ H Q ⟨G, env, s, er, p⟩ => ⟨G, env, s, er, Post.bind p fun ds vs G1 H1 e1 r1 p1 => ⟨G1, ds, e1.gh, r1, by
    cases hF : Fn ds with
    | ok d => rw [hF] at p1; exact p1
    | ex n => rw [hF] at p1; exact p1
    | bad => rw [hF] at p1; exact p1⟩⟩
theorem qf_call (F : FnOk X.prog X.w X.K X.mg X.base (L2.CX X.prog X.w) k f fd ps (spF X.K C.xa true Fn)) (hr : Room k X.A) (hm : X.mg x = some (.ref f)) (hk : PySem.W.keepIn X.K (.ref f) = true) (hb : Binds X.K fd ps []) (tk : Takes X C.W) (ha : QA X C (e :: es) fs) (hg : Gl X x := by rfl)
    (hdb : (x == ("__debug__" : Str)) = false := by decide) (he : starEach (e :: es) X.env = (false, eval e X.env) :: starEach es X.env := by rfl) (hpl : (backTo pos (starEach es X.env)).any (·.1) = false := by rfl) :
    QF X C (.Call (.Name x p) (e :: es) [] pos) (fun env => (fs env).bind fun ds => (Fn ds).bind asL) :=
  pe_imp (pe_callS F hr hg hm hk hb (fun σ => passAt tk σ) ha hdb he hpl) fun σ H Q ⟨G, env, s, er, p⟩ => ⟨G, env, s, er, PostF.bind p fun ds vs G1 H1 e1 r1 p1 => ⟨G1, ds, e1.gh, r1, by
    cases hF : Fn ds with
    | ok d =>
      rw [hF] at p1
      have p1 : PostF X.K (C.xw σ) G1 H1 Q (asL d) := p1
      cases d with
      | list l => exact ⟨l, rfl, p1⟩
      | _ => exact p1.elim
    | ex n => rw [hF] at p1; exact p1
    | bad => rw [hF] at p1; exact p1⟩⟩
end
/-- what a def's body gives, from its arguments -/
def Out.fin : Out → Res D
  | .nx _ => .ok .none
  | .rt d => .ok d
  | .ex n _ => .ex n
  | _ => .bad
def runF (ar n : Nat) (g : Env → Out) : List D → Res D := fun ds => if ds.length = ar then (g (ds.map .val ++ List.replicate (n - ds.length) .no)).fin else .bad
def onlyL : D → Res D := fun d => match d with
  | .list l => .ok (.list l)
  | _ => .bad
/-- .. one that returns fresh lists alone -/
def runL (ar n : Nat) (g : Env → Out) : List D → Res D := fun ds => (runF ar n g ds).bind onlyL
theorem Rps.vals {K : PySem.W.Frag} {H : Hp} : ∀ {vs : List V} {ds : List D} {i : Nat} {d : D}, Rps K H vs ds → ds[i]? = some d → ∃ v, vs[i]? = some v ∧ Rp K H v d := fun r h => r.get h
section
variable {P : Program} {w : World} {K : PySem.W.Frag} {mg : Str → Option Value} {base : Heap} {x qual : Str} {st : Stmt} {f : Addr} {fd : FuncData} {N ps : List Str} {k : Nat} {g : Env → Out} {xa : Nat → Addr} {fr : Bool}
theorem start_sr {G H : Hp} {vs : List V} {ds : List D} {z : Addr × Nat} (s : Same G H) (r : Rps K G vs ds) : SR K z G H G H (ds.map Sl.val ++ List.replicate (N.length - ds.length) Sl.no) (start N vs) := by
  have hl := r.length
  have key : ∀ (i : Nat) (s : Sl), (ds.map Sl.val ++ List.replicate (N.length - ds.length) Sl.no)[i]? = some s → (∃ d, ds[i]? = some d ∧ s = .val d) ∨ s = .no := fun i s h => by
    by_cases hi : i < ds.length
    · rw [List.getElem?_append_left (by rw [List.length_map]; exact hi), List.getElem?_map, List.getElem?_eq_getElem hi] at h
      exact .inl ⟨_, List.getElem?_eq_getElem hi, (Option.some.inj h).symm⟩
    · rw [List.getElem?_append_right (by rw [List.length_map]; omega), List.getElem?_replicate] at h
      split at h
      · exact .inr (Option.some.inj h).symm
      · cases h
  refine ⟨⟨fun i d h => ?_, fun i n h => ?_, ?_⟩, s, .refl _, .refl _, fun a o e => .inl ⟨o, e⟩, fun i ds' h => ?_, fun i j ds' es a _ h _ _ => ?_⟩
  · rcases key i _ h with ⟨d', h1, e⟩ | e
    · cases e
      obtain ⟨v, h2, rv⟩ := r.get h1
      refine ⟨v, ?_, rv⟩
      unfold start
      rw [List.getElem?_append_left (by rw [List.length_map]; exact (List.getElem?_eq_some_iff.mp h2).1), List.getElem?_map, h2] <;> rfl
    · cases e
  · rcases key i _ h with ⟨d', h1, e⟩ | e <;> cases e
  · unfold start
    rw [List.length_append, List.length_append, List.length_map, List.length_map, List.length_replicate, List.length_replicate, hl]
  · rcases key i _ h with ⟨d', h1, e⟩ | e <;> cases e
  · rcases key i _ h with ⟨d', h1, e⟩ | e <;> cases e
abbrev cfOf (xa : Nat → Addr) (E : XK) : Cf := ⟨xa, (0, 0), fun cls d _ H => E cls d H⟩
theorem okF {ar n : Nat} (F : Fun K x qual st f fd) (S : FnScope N ps (defScope st)) (har : ps.length = ar) (hnn : N.length = n)
    (hbody : ∀ (cdv : Value) (A : Around) (outer : List PySem.Env) (s : Shared) (H : Hp) (E : XK), Room k (A.deeper (envOfC qual (defScope st) s.heap.objs.size f cdv)) →
      QSs (cxOf (L2.CX P w) P w K mg base N qual (defScope st) f cdv A outer s H E) (cfOf xa E) false (defBody st) g) :
    FnOk P w K mg base (L2.CX P w) (k + 1) f fd ps (spF K xa false (runF ar n g)) := by
  subst har hnn
  refine F.okX S (fun vs H Q E h => ?_) (fun cdv A outer s H vs Q E hr h => ⟨_, hbody cdv A outer s H E hr, ?_⟩)
  · obtain ⟨G, ds, _, r, h⟩ := h
    unfold runF at h
    by_cases hl : ds.length = ps.length
    · exact r.length.trans hl
    · rw [if_neg hl] at h
      exact h.elim
  · obtain ⟨G, ds, s0, r, h⟩ := h
    refine ⟨G, H, G, _, start_sr s0 r, ?_⟩
    unfold runF at h
    by_cases hl : ds.length = ps.length
    · rw [if_pos hl] at h
      cases hg : g (ds.map Sl.val ++ List.replicate (N.length - ds.length) Sl.no) with
      | nx e =>
        rw [hg] at h
        exact fun σ' G' H' sr => h .non G' H' sr.ext0 .non
      | rt d => rw [hg] at h; exact h
      | ex n e =>
        rw [hg] at h
        exact fun σ' G' H' sr => h H' sr.h0
      | bk e => rw [hg] at h; exact h.elim
      | ct e => rw [hg] at h; exact h.elim
      | bad => rw [hg] at h; exact h.elim
    · rw [if_neg hl] at h
      exact h.elim
theorem okL {ar n : Nat} (F : Fun K x qual st f fd) (S : FnScope N ps (defScope st)) (har : ps.length = ar) (hnn : N.length = n)
    (hbody : ∀ (cdv : Value) (A : Around) (outer : List PySem.Env) (s : Shared) (H : Hp) (E : XK), Room k (A.deeper (envOfC qual (defScope st) s.heap.objs.size f cdv)) →
      QSs (cxOf (L2.CX P w) P w K mg base N qual (defScope st) f cdv A outer s H E) (cfOf xa E) true (defBody st) g) :
    FnOk P w K mg base (L2.CX P w) (k + 1) f fd ps (spF K xa true (runL ar n g)) := by
  subst har hnn
  refine F.okX S (fun vs H Q E h => ?_) (fun cdv A outer s H vs Q E hr h => ⟨_, hbody cdv A outer s H E hr, ?_⟩)
  · obtain ⟨G, ds, _, r, h⟩ := h
    unfold runL runF at h
    by_cases hl : ds.length = ps.length
    · exact r.length.trans hl
    · rw [if_neg hl] at h
      exact h.elim
  · obtain ⟨G, ds, s0, r, h⟩ := h
    refine ⟨G, H, G, _, start_sr s0 r, ?_⟩
    unfold runL runF at h
    by_cases hl : ds.length = ps.length
    · rw [if_pos hl] at h
      cases hg : g (ds.map Sl.val ++ List.replicate (N.length - ds.length) Sl.no) with
      | nx e =>
        rw [hg] at h
        exact h.elim
      | rt d =>
        rw [hg] at h
        cases d with
        | list l => exact h
        | _ => exact h.elim
      | ex n e =>
        rw [hg] at h
        exact fun σ' G' H' sr => h H' sr.h0
      | bk e => rw [hg] at h; exact h.elim
      | ct e => rw [hg] at h; exact h.elim
      | bad => rw [hg] at h; exact h.elim
    · rw [if_neg hl] at h
      exact h.elim
/-- a def that returns fresh lists, as any other -/
theorem FnOk.plain {xa : Nat → Addr} {ar n : Nat} {g : Env → Out} (F : FnOk P w K mg base (L2.CX P w) k f fd ps (spF K xa true (runL ar n g))) : FnOk P w K mg base (L2.CX P w) k f fd ps (spF K xa false (runL ar n g)) :=
  F.imp fun vs H Q E ⟨G, ds, s, r, h⟩ => ⟨G, ds, s, r, by
    cases hF : runL ar n g ds with
    | ex m => rw [hF] at h; exact h
    | bad => rw [hF] at h; exact h
    | ok d =>
      rw [hF] at h
      obtain ⟨l, rfl⟩ : ∃ l, d = .list l := by
        unfold runL at hF
        cases hr : runF ar n g ds with
        | ok d' =>
          rw [hr] at hF
          cases d' with
          | list l =>
            cases hF
            exact ⟨l, rfl⟩
          | _ => cases hF
        | ex m => rw [hr] at hF; cases hF
        | bad => rw [hr] at hF; cases hF
      have h : Post (Rp K) (fun _ _ => False) G H Q ((Res.ok l).map .list) := h
      exact ⟨l, rfl, PostF.of h⟩⟩
end
end L2.FL

set_option Elab.async false
set_option linter.all false
set_option maxRecDepth 100000
set_option maxHeartbeats 4000000
namespace L2.FL
open PySem PySem.Spec PyProof.Rows
/-- what the written part says of an own error class at a -/
structure XF (K : PySem.W.Frag) (a : Addr) : Prop where
  x : PySem.W.excIn K a [.type "ValueError", .type "Exception", .type "BaseException", .type "object"] "ValueError.__new__" = true
  k : PySem.W.keepIn K (.ref a) = true
  b : PySem.W.subIn K (.ref a) (.type "BaseException") = some true
  t : PySem.W.typeIn K (.ref a) = some (.type "type")
structure XT (K : PySem.W.Frag) (xa : Nat → Addr) (cnt : Nat) (sub : Nat → Nat → Bool) : Prop where
  f : ∀ n, n < cnt → XF K (xa n)
  kit : ∀ n m, n < cnt → m < cnt → PySem.W.kitOne K (.ref (xa n)) (.ref (xa m)) = some (sub n m)
  exm : ∀ n m, n < cnt → m < cnt → PySem.W.exmOne K (.ref (xa n)) (.ref (xa m)) = some (sub n m)
  exc : ∀ n, n < cnt → ExcC K (xa n)
def noExc (e : Env) : Bool := e.all fun s => match s with
  | .exc _ => false
  | _ => true
theorem noExc_get {e : Env} (h : noExc e = true) {i n : Nat} : e[i]? ≠ some (Sl.exc n) := fun q => by
  have := List.all_eq_true.mp h (Sl.exc n) (List.mem_of_getElem? q)
  exact absurd this Bool.false_ne_true
def sRaise (n : Nat) : Env → Out := fun env => .ex n env
/-- the suite's end: the name is gone -/
def Out.tryEnd (i : Nat) : Out → Out
  | .nx e => if noExc (e.set i .no) = true then .nx (e.set i .no) else .bad
  | .bk e => if noExc (e.set i .no) = true then .bk (e.set i .no) else .bad
  | .ct e => if noExc (e.set i .no) = true then .ct (e.set i .no) else .bad
  | .rt d => .rt d
  | _ => .bad
def sTry (cnt : Nat) (sub : Nat → Bool) (i : Nat) (b h : Env → Out) : Env → Out := fun env => match b env with
  | .ex n e => if n < cnt ∧ noExc e = true then (if sub n = true then (h (e.set i (.exc n))).tryEnd i else .ex n e) else .bad
  | o => o
section
variable {K : PySem.W.Frag} {z z' : Addr × Nat} {G0 H0 G H : Hp} {env : Env} {σ : St}
theorem SR.setExc (r : SR K z G0 H0 G H env σ) (h : noExc env = true) (a : Addr) (n i : Nat) : SR K (a, n) G0 H0 G H (env.set i (.exc n)) (σ.set i (some (.ref a))) where
  er := ⟨fun j d q => by
    rcases set_get q with ⟨_, q, _⟩ | ⟨hj, q⟩
    · cases q
    · rw [List.getElem?_set_ne hj]
      exact r.er.val j d q, fun j m q => by
    rcases set_get q with ⟨rfl, q, hi⟩ | ⟨hj, q⟩
    · cases q
      exact ⟨List.getElem?_set_self (by rw [← r.er.len]; exact hi), rfl⟩
    · exact absurd q (noExc_get h), by rw [List.length_set, List.length_set]; exact r.er.len⟩
  gh := r.gh
  g0 := r.g0
  h0 := r.h0
  fr := r.fr
  own j ds q := by
    rcases set_get q with ⟨_, q, _⟩ | ⟨hj, q⟩
    · cases q
    · rw [List.getElem?_set_ne hj]
      exact r.own j ds q
  sep j k ds es b hjk h1 h2 h3 := by
    rcases set_get h1 with ⟨_, e, _⟩ | ⟨hj, h1⟩
    · cases e
    · rcases set_get h2 with ⟨_, e, _⟩ | ⟨hk, h2⟩
      · cases e
      · rw [List.getElem?_set_ne hj] at h3
        rw [List.getElem?_set_ne hk]
        exact r.sep j k ds es b hjk h1 h2 h3
theorem SR.dropExc {i : Nat} (r : SR K z G0 H0 G H env σ) (h : noExc (env.set i .no) = true) : SR K z' G0 H0 G H (env.set i .no) (σ.set i none) where
  er := ⟨fun j d q => by
    rcases set_get q with ⟨_, q, _⟩ | ⟨hj, q⟩
    · cases q
    · rw [List.getElem?_set_ne hj]
      exact r.er.val j d q, fun j m q => absurd q (noExc_get h), by rw [List.length_set, List.length_set]; exact r.er.len⟩
  gh := r.gh
  g0 := r.g0
  h0 := r.h0
  fr := r.fr
  own j ds q := by
    rcases set_get q with ⟨_, q, _⟩ | ⟨hj, q⟩
    · cases q
    · rw [List.getElem?_set_ne hj]
      exact r.own j ds q
  sep j k ds es b hjk h1 h2 h3 := by
    rcases set_get h1 with ⟨_, e, _⟩ | ⟨hj, h1⟩
    · cases e
    · rcases set_get h2 with ⟨_, e, _⟩ | ⟨hk, h2⟩
      · cases e
      · rw [List.getElem?_set_ne hj] at h3
        rw [List.getElem?_set_ne hk]
        exact r.sep j k ds es b hjk h1 h2 h3
end
section
variable {X : Cx} {C : Cf} {fr : Bool} {x m : Str} {pos p p2 pos2 : Pos} {j : Nat} {cnt : Nat} {sub : Nat → Nat → Bool}
theorem qs_raise {n : Nat} (T : XT X.K C.xa cnt sub) (hn : n < cnt) (hc : X.calm = true) (tk : Takes X C.W) (gC : X.mg x = some (.ref (C.xa n))) (hg : Gl X x := by rfl) (hdb : (x == ("__debug__" : Str)) = false := by decide) :
    QS X C fr (.Raise (some (.Call (.Name x p) [.Constant (.str m) j p2] [] pos)) none pos2) (sRaise n) :=
  ps_imp (ps_raise hc tk (pmk_own PySem.F.excBase_ValueError (T.f n hn).x gC (T.f n hn).k (raises_own (T.f n hn).b (T.f n hn).t) hg hdb)) fun Dn σ H ⟨G0, H0, G, env, sr, p⟩ => p σ G H sr
theorem suite_of {st : List Stmt} {cls : Value} {d : Option Addr} {t : Nat → TS} (h : ∀ n, cls = .ref (C.xa n) → d = none → PSs X st (t n)) : PSs X st (fun Dn σ H => ∃ n, cls = .ref (C.xa n) ∧ d = none ∧ t n Dn σ H) :=
  ⟨fun pins s σ H Dn I ⟨n, h1, h2, q⟩ => (h n h1 h2).run pins s σ H Dn I q⟩
/-- the context of a try's body, of a suite -/
abbrev Cf.by (C : Cf) (W : WX) : Cf := { C with W := W }
abbrev Cf.hot (C : Cf) (a : Addr) (n : Nat) : Cf := { C with z := (a, n), W := fun _ _ _ _ => False }
theorem qs_try {np pos' : Pos} {nm : Str} {i cm : Nat} {body suite : List Stmt} {b₀ : Stmt} {g h : Env → Out} (T : XT X.K C.xa cnt sub) (hcm : cm < cnt) (hN : X.N.Nodup) (hi : X.N[i]? = some nm) (tk : Takes X C.W) (hx : X.mg x = some (.ref (C.xa cm)))
    (hs : X.stack = X.env :: X.outer) (hf : X.env.frame = some X.env.locals) (hln : X.env.kindOf nm = some .local)
    (hb : ∀ (W : WX) (pn : List (Addr × Obj)) (xe : Value → Shared → Prop), Takes (X.tr pn xe) W → PassesOwn (model X.prog X.w) X.A X.env xe → QSs (X.tr pn xe) (C.by W) fr body g)
    (hsu : ∀ (a : Addr) (oe : Obj) (n : Nat) (pn : List (Addr × Obj)), Zc (.ref (C.xa n)) none oe → (∃ vs, oe.data = .fields vs) → QSs (X.suite a ((a, oe) :: pn)) (C.hot a n) fr (b₀ :: suite) h) (hg : Gl X x := by rfl) (hdb : (x == ("__debug__" : Str)) = false := by decide) :
    QS X C fr (.Try body [.ExceptHandler (some (.Name x np)) (some nm) (b₀ :: suite) pos'] [] [] pos) (sTry cnt (fun n => sub n cm) i g h) := by
  refine ps_imp (ps_try_as (tb := fun W => tS X.K (C.by W) fr g) (ts := fun a cls d => fun Dn σ H => ∃ n, cls = .ref (C.xa n) ∧ d = none ∧ tS X.K (C.hot a n) fr h Dn σ H) (Wout := C.W) hs hf hN hi hln ⟨hg, hdb, .inl hx⟩ tk hb
    (fun a oe cls d pn hz hfl => suite_of fun n h1 h2 => by subst h1 h2; exact hsu a oe n pn hz hfl)) fun Dn σ H ⟨G0, H0, G, env, sr, p⟩ => ?_
  refine ⟨G0, H0, G, env, sr, ?_⟩
  unfold sTry at p
  cases hg' : g env with
  | nx e => rw [hg'] at p; exact p
  | bk e => rw [hg'] at p; exact p
  | ct e => rw [hg'] at p; exact p
  | rt d => rw [hg'] at p; exact p
  | bad => rw [hg'] at p; exact p
  | ex n e =>
    rw [hg'] at p
    dsimp only at p
    by_cases hh : n < cnt ∧ noExc e = true
    · rw [if_pos hh] at p
      intro σ' G' H' r
      refine ⟨sub n cm, T.exm n cm hh.1 hcm, fun hb a na => ?_, fun hb => ?_⟩
      · rw [if_pos hb] at p
        refine ⟨n, rfl, rfl, G0, H0, G', _, r.setExc hh.2 a n i, ?_⟩
        cases ho : h (e.set i (.exc n)) with
        | nx e2 =>
          rw [ho] at p
          unfold Out.tryEnd at p
          dsimp only at p
          split at p
          · rename_i hq
            exact fun σ2 G2 H2 r2 => p _ G2 H2 (SR.dropExc r2 hq)
          · exact p.elim
        | bk e2 =>
          rw [ho] at p
          unfold Out.tryEnd at p
          dsimp only at p
          split at p
          · rename_i hq
            exact fun σ2 G2 H2 r2 => p _ G2 H2 (SR.dropExc r2 hq)
          · exact p.elim
        | ct e2 =>
          rw [ho] at p
          unfold Out.tryEnd at p
          dsimp only at p
          split at p
          · rename_i hq
            exact fun σ2 G2 H2 r2 => p _ G2 H2 (SR.dropExc r2 hq)
          · exact p.elim
        | rt d => rw [ho] at p; exact p
        | ex k e2 => rw [ho] at p; exact p.elim
        | bad => rw [ho] at p; exact p.elim
      · rw [if_neg (by rw [hb]; exact Bool.false_ne_true)] at p
        exact p σ' G' H' r
    · rw [if_neg hh] at p
      exact p.elim
/-- isinstance(e, C), e the error that the suite holds -/
def eIsE (cnt : Nat) (sub : Nat → Nat → Bool) (i m : Nat) : Env → Res D := fun env => match env[i]? with
  | some (.exc n) => if n < cnt then .ok (.bool (sub n m)) else .bad
  | _ => .bad
theorem q_isE {a : Addr} {n i cm : Nat} {oe : Obj} {pn : List (Addr × Obj)} {y : Str} {pe p3 : Pos} (T : XT X.K C.xa cnt sub) (hcm : cm < cnt) (hz : Zc (.ref (C.xa n)) none oe) (hf : ∃ vs, oe.data = .fields vs) (hgi : Gl X "isinstance") (hmi : X.mg "isinstance" = none) (hx : X.mg x = some (.ref (C.xa cm)))
    (hN : X.N[i]? = some y) (hg : Gl X x := by rfl) (hv : Vis X.env.scope y := by first | exact Or.inl rfl | exact Or.inr (Or.inl rfl) | exact Or.inr (Or.inr rfl)) (hd : (y == ("__debug__" : Str)) = false := by decide) (hcd : (y == ("__classdict__" : Str)) = false := by decide) (hdb : (x == ("__debug__" : Str)) = false := by decide)
    (he : starEach [.Name y pe, .Name x p3] X.env = (false, eval (.Name y pe) X.env) :: starEach [.Name x p3] X.env := by rfl) (he2 : starEach [.Name x p3] X.env = (false, eval (.Name x p3) X.env) :: starEach [] X.env := by rfl) (hpl : (backTo pos (starEach [.Name x p3] X.env)).any (·.1) = false := by rfl) :
    QE (X.suite a ((a, oe) :: pn)) (C.hot a n) (.Call (.Name "isinstance" p) [.Name y pe, .Name x p3] [] pos) (eIsE cnt sub i cm) := by
  by_cases hn : n < cnt
  · refine pe_imp (pe_callB (X := X.suite a ((a, oe) :: pn)) (call_isE (T.exc n hn) hz hf) hgi hmi boot_isinstance (pa_cons (pe_var hN hv hd hcd) (pa_cons (pe_glob (v := .ref (C.xa cm)) hg hx rfl hdb) pa_nil he2) he) (by decide) (by decide) he hpl) fun σ H Q ⟨G, env, s, er, p⟩ => ?_
    unfold eIsE at p
    split at p
    · rename_i m hm
      obtain ⟨h1, h2⟩ := er.exc i m hm
      have h2 : m = n := h2
      subst h2
      rw [if_pos hn] at p
      exact ⟨.ref a, h1, .ref (C.xa cm), .ref (C.xa cm), sub m cm, rfl, fun u hu => hu, T.kit m cm hn hcm, p _ G H (.refl s) (.bl _)⟩
    · exact p.elim
  · refine ⟨fun pins s σ H Q I ⟨G, env, sg, er, p⟩ => ?_⟩
    unfold eIsE at p
    split at p
    · rename_i m hm
      obtain ⟨h1, h2⟩ := er.exc i m hm
      have h2 : m = n := h2
      subst h2
      rw [if_neg hn] at p
      exact p.elim
    · exact p.elim
end
end L2.FL

set_option Elab.async false
set_option linter.all false
set_option maxRecDepth 100000
set_option maxHeartbeats 4000000
namespace L2.FL
open PySem PySem.Spec PyProof.Rows
/-- a def of the program, with all that a caller asks -/
structure FnT (P : Program) (w : World) (K : PySem.W.Frag) (mg : Str → Option Value) (base : Heap) (xa : Nat → Addr) (x : Str) (ps : List Str) (j : Nat) (fr : Bool) (Fn : List D → Res D) : Prop where
  ex : ∃ f fd, FnOk P w K mg base (L2.CX P w) j f fd ps (spF K xa fr Fn) ∧ mg x = some (.ref f) ∧ PySem.W.keepIn K (.ref f) = true ∧ Binds K fd ps []
theorem FnT.plain {P : Program} {w : World} {K : PySem.W.Frag} {mg : Str → Option Value} {base : Heap} {xa : Nat → Addr} {x : Str} {ps : List Str} {j ar n : Nat} {g : Env → Out} (T : FnT P w K mg base xa x ps j true (runL ar n g)) : FnT P w K mg base xa x ps j false (runL ar n g) := by
  obtain ⟨f, fd, F, hm, hk, hb⟩ := T.ex
  exact ⟨f, fd, FnOk.plain F, hm, hk, hb⟩
section
variable {X : Cx} {C : Cf} {e : Expr} {es : List Expr} {fs : Env → Res (List D)} {p pos : Pos} {k j : Nat} {ps : List Str} {Fn : List D → Res D} {x : Str}
theorem q_callT (T : FnT X.prog X.w X.K X.mg X.base C.xa x ps j false Fn) (hr : Room k X.A) (hj : j ≤ k) (tk : Takes X C.W) (ha : QA X C (e :: es) fs) (hg : Gl X x := by rfl)
    (hdb : (x == ("__debug__" : Str)) = false := by decide) (he : starEach (e :: es) X.env = (false, eval e X.env) :: starEach es X.env := by rfl) (hpl : (backTo pos (starEach es X.env)).any (·.1) = false := by rfl) :
    QE X C (.Call (.Name x p) (e :: es) [] pos) (fun env => (fs env).bind Fn) := by
  obtain ⟨f, fd, F, hm, hk, hb⟩ := T.ex
  exact q_call F (hr.mono hj) hm hk hb tk ha hg hdb he hpl
theorem qf_callT (T : FnT X.prog X.w X.K X.mg X.base C.xa x ps j true Fn) (hr : Room k X.A) (hj : j ≤ k) (tk : Takes X C.W) (ha : QA X C (e :: es) fs) (hg : Gl X x := by rfl)
    (hdb : (x == ("__debug__" : Str)) = false := by decide) (he : starEach (e :: es) X.env = (false, eval e X.env) :: starEach es X.env := by rfl) (hpl : (backTo pos (starEach es X.env)).any (·.1) = false := by rfl) :
    QF X C (.Call (.Name x p) (e :: es) [] pos) (fun env => (fs env).bind fun ds => (Fn ds).bind asL) := by
  obtain ⟨f, fd, F, hm, hk, hb⟩ := T.ex
  exact qf_call F (hr.mono hj) hm hk hb tk ha hg hdb he hpl
/-- a def without parameters, that raises nothing -/
theorem q_callT0 (T : FnT X.prog X.w X.K X.mg X.base C.xa x ps j false Fn) (hr : Room k X.A) (hj : j ≤ k) (hg : Gl X x := by rfl) (hdb : (x == ("__debug__" : Str)) = false := by decide) :
    QE X C (.Call (.Name x p) [] [] pos) (fun _ => (Fn []).nox) := by
  obtain ⟨f, fd, F, hm, hk, hb⟩ := T.ex
  refine pe_imp (pe_call0 (dvs := []) (E := E0) F (hr.mono hj) hg hm hk hb .nil passL hdb) fun σ H Q ⟨G, env, s, er, p⟩ => ⟨G, [], s, .nil, ?_⟩
  cases hF : Fn [] with
  | ok d => rw [hF] at p; exact p
  | ex n => rw [hF] at p; exact p.elim
  | bad => rw [hF] at p; exact p
theorem q_globI {v : Int} (h : ∃ t, X.mg x = some (.int v t)) (hg : Gl X x := by rfl) (hd : (x == ("__debug__" : Str)) = false := by decide) : QE X C (.Name x pos) (eC (.int v)) := by
  obtain ⟨t, h⟩ := h
  exact q_glob (v := .int v) hg h ⟨t, rfl⟩ (fun _ => .int v) hd
theorem q_globS {v : Str} (h : ∃ t, X.mg x = some (.str v t)) (hg : Gl X x := by rfl) (hd : (x == ("__debug__" : Str)) = false := by decide) : QE X C (.Name x pos) (eC (.str v)) := by
  obtain ⟨t, h⟩ := h
  exact q_glob (v := .str v) hg h ⟨t, rfl⟩ (fun _ => .str v) hd
theorem q_globD {d : D} (h : ∃ u v, X.mg x = some u ∧ RelV v u ∧ ∀ G, Rp X.K G v d) (hg : Gl X x := by rfl) (hd : (x == ("__debug__" : Str)) = false := by decide) : QE X C (.Name x pos) (eC d) := by
  obtain ⟨u, v, h, r, rp⟩ := h
  exact q_glob hg h r rp hd
end
/-- the script's datum -/
abbrev scrD (ns : List Int) : D := .dict (ns.map fun n => (PyData.int n, PyData.none))
def spLaw (K : PySem.W.Frag) : Sp := fun vs H Q _ => ∃ (a : Addr) (ns : List Int), vs = [.ref a] ∧ SqL K H a (ns.map V.int) ∧ ns.length ≤ 63 ∧ (∀ z ∈ ns, Builtin.Int.intBits z ≤ 1048576) ∧ ∀ H', Q (.bl true) H'
theorem law_ok {P : Program} {w : World} {K : PySem.W.Frag} {mg : Str → Option Value} {base : Heap} {xa : Nat → Addr} {k : Nat} {f : Addr} {fd : FuncData} {ps : List Str} {Fl : List D → Res D} (F : FnOk P w K mg base (L2.CX P w) k f fd ps (spF K xa false Fl))
    (h : ∀ ns : List Int, ns.length ≤ 63 → (∀ z ∈ ns, Builtin.Int.intBits z ≤ 1048576) → Fl [scrD ns] = .ok (.bool true)) : FnOk P w K mg base (L2.CX P w) k f fd ps (spLaw K) :=
  F.imp fun vs H Q E ⟨a, ns, e, hS, hl, hb, q⟩ => ⟨H, [scrD ns], .refl _, by
    subst e
    exact .cons (.scr hS) .nil, by
    rw [h ns hl hb]
    intro v G' H' _ rp
    cases rp
    exact q H'⟩
theorem cx_never {P : Program} {w : World} {H : Hp} {s : Shared} {e : Value} {s' : Shared} (h : L2.CX P w [] H s (fun _ _ _ => False) e s') : False := by
  obtain ⟨_, _, _, _, _, _, _, _, _, _, _, _, z⟩ := h
  exact z
theorem kit_ref {K : PySem.W.Frag} {A B : Addr} {b : Bool} (hd : PySem.W.hasDictIn K B = true) (ht : PySem.W.typeIn K (.ref B) = some (.type "type")) (h4 : PySem.W.subIn K (.ref A) (.ref B) = some b) (hs : PySem.W.subIn K (.ref B) (.ref B) = some true) : PySem.W.kitOne K (.ref A) (.ref B) = some b := by
  unfold PySem.W.kitOne
  by_cases e : A = B
  · subst e
    rw [hs] at h4
    cases h4
    rw [if_pos (beq_self_eq_true _)]
  · rw [if_neg (by simpa using e)]
    obtain ⟨cd, hc, _⟩ := PySem.W.any_some hd
    have e2 : ((PySem.W.clsIn K B).isSome && PySem.W.typeIn K (.ref B) == some (.type "type")) = true := by rw [hc, ht] <;> rfl
    unfold PySem.W.kitCls
    dsimp only
    rw [if_pos e2]
    exact h4
/-- the facts of one class -/
structure X1 (K : PySem.W.Frag) (a : Addr) : Prop where
  xf : XF K a
  ec : ExcC K a
/-- the greatest of a list -/
def maxI : List Int → Int
  | [] => 0
  | [n] => n
  | n :: m :: ns => if n < maxI (m :: ns) then maxI (m :: ns) else n
theorem maxI_mem : ∀ (ns : List Int), ns ≠ [] → maxI ns ∈ ns
  | [], h => absurd rfl h
  | [n], _ => List.mem_singleton.mpr rfl
  | n :: m :: ns, _ => by
    have q := maxI_mem (m :: ns) (by intro h; cases h)
    unfold maxI
    split
    · exact List.mem_cons_of_mem _ q
    · exact List.mem_cons_self
theorem maxI_le : ∀ (ns : List Int), ∀ y ∈ ns, y ≤ maxI ns
  | [], y, h => by cases h
  | [n], y, h => by
    rw [List.mem_singleton.mp h]
    exact Int.le_refl _
  | n :: m :: ns, y, h => by
    have q := maxI_le (m :: ns)
    unfold maxI
    rcases List.mem_cons.mp h with e | e
    · subst e
      split <;> omega
    · have := q y e
      split <;> omega
def gMaxL : List D → Res D := fun ds => match ds with
  | [.list xs] => (match intsD xs with
    | some [] => .bad
    | some ns => .ok (.int (maxI ns))
    | none => .bad)
  | _ => .bad
theorem gMaxL_noex : ∀ ds, NoEx (gMaxL ds) := by
  unfold gMaxL
  intro ds n
  split
  · split <;> (intro h; cases h)
  · intro h
    cases h
section
variable {X : Cx} {C : Cf} {e : Expr} {es : List Expr} {fs : Env → Res (List D)} {pos : Pos}
theorem q_maxL {p : Pos} (hc : X.calm = true) (hg : Gl X "max") (hm : X.mg "max" = none) (ha : QA X C (e :: es) fs) (he : starEach (e :: es) X.env = (false, eval e X.env) :: starEach es X.env := by rfl) (hpl : (backTo pos (starEach es X.env)).any (·.1) = false := by rfl) :
    QE X C (.Call (.Name "max" p) (e :: es) [] pos) (fun env => (fs env).bind gMaxL) :=
  q_callB (cr_max hc) (fun vs ds G H Q s r p => by
    unfold gMaxL at p
    split at p
    · split at p
      · exact p.elim
      · rename_i ns hne hns
        cases r with
        | cons r1 r2 =>
          cases r2
          cases r1 with
          | lst h hs =>
            have e1 := intsD_eq hns
            subst e1
            have e2 := hs.ints
            subst e2
            have hz : ns ≠ [] := fun z => hne (by rw [z])
            refine ⟨_, ns, rfl, .inl (Rd.same s h), by cases ns with | nil => exact absurd rfl hz | cons a l => exact Nat.succ_pos _, fun m m1 m2 => ?_⟩
            have e3 : m = maxI ns := Int.le_antisymm (maxI_le ns m m1) (m2 _ (maxI_mem ns hz))
            rw [e3]
            exact p _ G H (.refl s) (.int _)
      · exact p.elim
    · exact p.elim) gMaxL_noex hg hm boot_max ha (by decide) (by decide) he hpl
end
theorem blk_of {N N' : List Str} {s s' sc : Scope} {own : List (Str × Nat)} (hN : N = N') (hs : s = s') (h : L2.blkC N' s' sc own = true) : L2.blkC N s sc own = true := by
  subst hN
  subst hs
  exact h
end L2.FL

set_option linter.all false
set_option maxRecDepth 100000
set_option maxHeartbeats 4000000
namespace L2.FL
open PySem PySem.Spec PyProof.Rows
theorem fzT_nil : fzE (fun _ => true) [] = [] := rfl
theorem fzT_cons (s : Sl) (e : Env) : fzE (fun _ => true) (s :: e) = s.fz :: fzE (fun _ => true) e := by
  unfold fzE
  rw [List.mapIdx_cons]
  rfl
theorem fzE_nil (p : Nat → Bool) : fzE p [] = [] := rfl
theorem fzE_cons (p : Nat → Bool) (s : Sl) (e : Env) : fzE p (s :: e) = (if p 0 = true then s.fz else s) :: fzE (fun i => p (i + 1)) e := by
  unfold fzE
  rw [List.mapIdx_cons]
theorem seq_nx (e : Env) (h : Env → Out) : (Out.nx e).seq h = h e := rfl
theorem seq_rt (d : D) (h : Env → Out) : (Out.rt d).seq h = .rt d := rfl
theorem seq_ex (n : Nat) (e : Env) (h : Env → Out) : (Out.ex n e).seq h = .ex n e := rfl
theorem seq_bad (h : Env → Out) : Out.bad.seq h = .bad := rfl
theorem seq_bk (e : Env) (h : Env → Out) : (Out.bk e).seq h = .bk e := rfl
theorem seq_ct (e : Env) (h : Env → Out) : (Out.ct e).seq h = .ct e := rfl
theorem out_ok {α : Type} (env : Env) (a : α) (k : α → Out) : (Res.ok a).out env k = k a := rfl
theorem out_ex {α : Type} (env : Env) (n : Nat) (k : α → Out) : (Res.ex n).out env k = .ex n env := rfl
theorem out_bad {α : Type} (env : Env) (k : α → Out) : (Res.bad).out env k = .bad := rfl
theorem bind_ok {α β : Type} (a : α) (k : α → Res β) : (Res.ok a).bind k = k a := rfl
theorem bind_ex {α β : Type} (n : Nat) (k : α → Res β) : (Res.ex n : Res α).bind k = .ex n := rfl
theorem bind_bad {α β : Type} (k : α → Res β) : (Res.bad : Res α).bind k = .bad := rfl
theorem map_ok {α β : Type} (a : α) (f : α → β) : (Res.ok a).map f = .ok (f a) := rfl
theorem map_ex {α β : Type} (n : Nat) (f : α → β) : (Res.ex n : Res α).map f = .ex n := rfl
theorem map_bad {α β : Type} (f : α → β) : (Res.bad : Res α).map f = .bad := rfl
theorem nox_ok {α : Type} (a : α) : (Res.ok a).nox = .ok a := rfl
theorem gAdd_ii (i j : Int) : gAdd (.int i) (.int j) = .ok (.int (i + j)) := rfl
theorem gSub_ii (i j : Int) : gSub (.int i) (.int j) = .ok (.int (i - j)) := rfl
theorem gAnd_ii (i j : Int) : gAnd (.int i) (.int j) = .ok (.int (Builtin.bitAnd i j)) := rfl
theorem gOr_ii (i j : Int) : gOr (.int i) (.int j) = .ok (.int (Builtin.bitOr i j)) := rfl
theorem gXor_ii (i j : Int) : gXor (.int i) (.int j) = .ok (.int (Builtin.bitXor i j)) := rfl
theorem gLt_ii (i j : Int) : gLt (.int i) (.int j) = .ok (.bool (decide (i < j))) := rfl
theorem gLe_ii (i j : Int) : gLe (.int i) (.int j) = .ok (.bool (decide (i ≤ j))) := rfl
theorem gGt_ii (i j : Int) : gGt (.int i) (.int j) = .ok (.bool (decide (j < i))) := rfl
theorem gGe_ii (i j : Int) : gGe (.int i) (.int j) = .ok (.bool (decide (j ≤ i))) := rfl
theorem gMul_ii (i j : Int) : gMul (.int i) (.int j) = if Builtin.Int.intBits i + Builtin.Int.intBits j ≤ 134217728 then .ok (.int (i * j)) else .bad := by
  unfold gMul i2
  dsimp only
  by_cases h : Builtin.Int.intBits i + Builtin.Int.intBits j ≤ 134217728
  · rw [if_pos h, if_pos (decide_eq_true h)]
  · rw [if_neg h, if_neg (by simpa using h)]
theorem gDiv_ii (i j : Int) : gDiv (.int i) (.int j) = if 0 < j ∧ j.natAbs.log2 < 9000 then .ok (.int (i / j)) else .bad := by
  unfold gDiv i2
  dsimp only
  by_cases h : 0 < j ∧ j.natAbs.log2 < 9000
  · rw [if_pos h, if_pos (decide_eq_true h)]
  · rw [if_neg h, if_neg (by simpa using h)]
theorem gMod_ii (i j : Int) : gMod (.int i) (.int j) = if 0 < j then .ok (.int (i % j)) else .bad := by
  unfold gMod i2
  dsimp only
  by_cases h : 0 < j
  · rw [if_pos h, if_pos (decide_eq_true h)]
  · rw [if_neg h, if_neg (by simpa using h)]
theorem gPow_s {i j : Int} (h0 : 0 ≤ j) (h1 : j ≤ 1000000) (g0 : 0 ≤ i) (g1 : i ≤ 1000000) : gPow (.int i) (.int j) = .ok (.int (i ^ j.toNat)) := by
  have q : (2 : Nat) ^ 64 = 18446744073709551616 := by decide
  unfold gPow i2
  dsimp only
  rw [if_pos (decide_eq_true ⟨h0, by omega, by omega⟩)]
theorem gShl_ii (i j : Int) : gShl (.int i) (.int j) = if 0 ≤ j ∧ Builtin.Int.intBits i + j.toNat ≤ 134217728 then .ok (.int (i * 2 ^ j.toNat)) else .bad := by
  unfold gShl i2
  dsimp only
  by_cases h : 0 ≤ j ∧ Builtin.Int.intBits i + j.toNat ≤ 134217728
  · rw [if_pos h, if_pos (decide_eq_true h)]
  · rw [if_neg h, if_neg (fun q => h (of_decide_eq_true q))]
theorem gShr_ii (i j : Int) : gShr (.int i) (.int j) = if 0 ≤ j then .ok (.int (i / 2 ^ j.toNat)) else .bad := by
  unfold gShr i2
  dsimp only
  by_cases h : 0 ≤ j
  · rw [if_pos h, if_pos (decide_eq_true h)]
  · rw [if_neg h, if_neg (by simpa using h)]
/-- bits -/
theorem and_mask (i : Int) (k : Nat) : Builtin.bitAnd i (2 ^ k - 1) = i % 2 ^ k := PySem.W.kbt_mask i k
theorem and_255 (i : Int) : Builtin.bitAnd i 255 = i % 256 := and_mask i 8
/-- an int of so many bits at most -/
theorem bits_le_iff {n : Int} {k : Nat} : Builtin.Int.intBits n ≤ k ↔ n.natAbs < 2 ^ k := by
  unfold Builtin.Int.intBits
  by_cases hm : n = 0
  · subst hm
    have : (0 : Nat) < 2 ^ k := Nat.two_pow_pos k
    simp [this]
  · have h1 : (n == 0) = false := by simpa using hm
    have h2 : n.natAbs ≠ 0 := by omega
    rw [h1]
    show n.natAbs.log2 + 1 ≤ k ↔ n.natAbs < 2 ^ k
    rw [← Nat.log2_lt h2]
    omega
theorem fa0 {n : Nat} {w : Env → Out} : runF 0 n w [] = (w (List.replicate (n - 0) .no)).fin := rfl
theorem fa1 {n : Nat} {w : Env → Out} {a : D} : runF 1 n w [a] = (w (.val a :: List.replicate (n - 1) .no)).fin := rfl
theorem fa2 {n : Nat} {w : Env → Out} {a b : D} : runF 2 n w [a, b] = (w (.val a :: .val b :: List.replicate (n - 2) .no)).fin := rfl
theorem fa3 {n : Nat} {w : Env → Out} {a b c : D} : runF 3 n w [a, b, c] = (w (.val a :: .val b :: .val c :: List.replicate (n - 3) .no)).fin := rfl
theorem fa4 {n : Nat} {w : Env → Out} {a b c d : D} : runF 4 n w [a, b, c, d] = (w (.val a :: .val b :: .val c :: .val d :: List.replicate (n - 4) .no)).fin := rfl
theorem fa5 {n : Nat} {w : Env → Out} {a b c d e : D} : runF 5 n w [a, b, c, d, e] = (w (.val a :: .val b :: .val c :: .val d :: .val e :: List.replicate (n - 5) .no)).fin := rfl
theorem fa6 {n : Nat} {w : Env → Out} {a b c d e f : D} : runF 6 n w [a, b, c, d, e, f] = (w (.val a :: .val b :: .val c :: .val d :: .val e :: .val f :: List.replicate (n - 6) .no)).fin := rfl
theorem fin_rt (d : D) : (Out.rt d).fin = .ok d := rfl
theorem fin_nx (e : Env) : (Out.nx e).fin = .ok .none := rfl
theorem fin_bk (e : Env) : (Out.bk e).fin = .bad := rfl
theorem fin_ct (e : Env) : (Out.ct e).fin = .bad := rfl
theorem fin_bad : Out.bad.fin = .bad := rfl
theorem fin_ex (n : Nat) (e : Env) : (Out.ex n e).fin = .ex n := rfl
def tryK (cnt : Nat) (sub : Nat → Bool) (i : Nat) (h : Env → Out) : Out → Out
  | .ex n e => if n < cnt ∧ noExc e = true then (if sub n = true then (h (e.set i (.exc n))).tryEnd i else .ex n e) else .bad
  | o => o
theorem sTry_eq (cnt : Nat) (sub : Nat → Bool) (i : Nat) (b h : Env → Out) : sTry cnt sub i b h = fun env => tryK cnt sub i h (b env) := by
  funext env
  unfold sTry tryK
  cases b env <;> rfl
theorem tryK_ex (cnt : Nat) (sub : Nat → Bool) (i : Nat) (h : Env → Out) (n : Nat) (e : Env) : tryK cnt sub i h (.ex n e) = if n < cnt ∧ noExc e = true then (if sub n = true then (h (e.set i (.exc n))).tryEnd i else .ex n e) else .bad := rfl
theorem tryK_nx (cnt : Nat) (sub : Nat → Bool) (i : Nat) (h : Env → Out) (e : Env) : tryK cnt sub i h (.nx e) = .nx e := rfl
theorem tryK_rt (cnt : Nat) (sub : Nat → Bool) (i : Nat) (h : Env → Out) (d : D) : tryK cnt sub i h (.rt d) = .rt d := rfl
theorem tryK_bk (cnt : Nat) (sub : Nat → Bool) (i : Nat) (h : Env → Out) (e : Env) : tryK cnt sub i h (.bk e) = .bk e := rfl
theorem tryK_ct (cnt : Nat) (sub : Nat → Bool) (i : Nat) (h : Env → Out) (e : Env) : tryK cnt sub i h (.ct e) = .ct e := rfl
theorem noExc_nil : noExc [] = true := rfl
theorem noExc_val (d : D) (e : Env) : noExc (.val d :: e) = noExc e := rfl
theorem noExc_own (d : List D) (e : Env) : noExc (.own d :: e) = noExc e := rfl
theorem noExc_no (e : Env) : noExc (.no :: e) = noExc e := rfl
def loopK (k : Env → Out) : Out → Out
  | .nx e => k e
  | .ct e => k e
  | .bk e => .nx e
  | .rt d => .rt d
  | .ex n e => .ex n e
  | .bad => .bad
theorem lp_nil (t : Tg) (b : Env → Out) (e : Env) : loopF t b [] e = .nx e := rfl
theorem lp_cons (i : Nat) (b : Env → Out) (d : D) (ds : List D) (e : Env) : loopF (.nm i) b (d :: ds) e = loopK (loopF (.nm i) b ds) (b (e.set i (.val d))) := by
  unfold loopF
  show (match b (e.set i (.val d)) with
      | .nx e' => loopF (.nm i) b ds e'
      | .ct e' => loopF (.nm i) b ds e'
      | .bk e' => .nx e'
      | .rt d => .rt d
      | .ex n e' => .ex n e'
      | .bad => .bad) = _
  unfold loopK
  cases b (e.set i (.val d)) <;> rfl
theorem lp_consT {is : List Nat} {b : Env → Out} {d : D} {ds : List D} {e : Env} {ps : List D} (h : Tg.parts (.tp is) d = some ps) : loopF (.tp is) b (d :: ds) e = loopK (loopF (.tp is) b ds) (b (setE e is ps)) := by
  unfold loopF
  rw [h]
  show (match b (setE e is ps) with
      | .nx e' => loopF (.tp is) b ds e'
      | .ct e' => loopF (.tp is) b ds e'
      | .bk e' => .nx e'
      | .rt d => .rt d
      | .ex n e' => .ex n e'
      | .bad => .bad) = _
  unfold loopK
  cases b (setE e is ps) <;> rfl
theorem lpk_nx (k : Env → Out) (e : Env) : loopK k (.nx e) = k e := rfl
theorem lpk_ct (k : Env → Out) (e : Env) : loopK k (.ct e) = k e := rfl
theorem lpk_bk (k : Env → Out) (e : Env) : loopK k (.bk e) = .nx e := rfl
theorem lpk_rt (k : Env → Out) (d : D) : loopK k (.rt d) = .rt d := rfl
theorem lpk_ex (k : Env → Out) (n : Nat) (e : Env) : loopK k (.ex n e) = .ex n e := rfl
theorem lpk_bad (k : Env → Out) : loopK k .bad = .bad := rfl
noncomputable def rng1 (j : Int) : Res (List D) := @ite _ ((-j).toNat ≤ 1000000000 ∧ j.toNat ≤ 1000000000) (Classical.propDecidable _) (.ok (rngD 0 1 j.toNat)) .bad
noncomputable def rng2 (i j : Int) : Res (List D) := @ite _ ((-i).toNat ≤ 1000000000 ∧ i.toNat ≤ 1000000000 ∧ (-j).toNat ≤ 1000000000 ∧ j.toNat ≤ 1000000000) (Classical.propDecidable _) (.ok (rngD i 1 (j - i).toNat)) .bad
noncomputable def rg1 (ds : List D) : Res (List D) := match ds with
  | [.int j] => rng1 j
  | _ => .bad
noncomputable def rg2 (ds : List D) : Res (List D) := match ds with
  | [.int i, .int j] => rng2 i j
  | _ => .bad
theorem iR1_eq (fs : Env → Res (List D)) : iR1 fs = fun env => (fs env).bind rg1 := rfl
theorem iR2_eq (fs : Env → Res (List D)) : iR2 fs = fun env => (fs env).bind rg2 := rfl
theorem rg1_i (j : Int) : rg1 [.int j] = rng1 j := rfl
theorem rg2_i (i j : Int) : rg2 [.int i, .int j] = rng2 i j := rfl
noncomputable def rng3 (i j c : Int) : Res (List D) := @ite _ (c ≠ 0 ∧ c.natAbs < 1073741824 ∧ Builtin.Range.small i j c = true ∧ 0 ≤ Builtin.Range.rangeSize i j c) (Classical.propDecidable _) (.ok (rngD i c (Builtin.Range.rangeSize i j c).toNat)) .bad
noncomputable def rg3 (ds : List D) : Res (List D) := match ds with
  | [.int i, .int j, .int c] => rng3 i j c
  | _ => .bad
theorem iR3_eq (fs : Env → Res (List D)) : iR3 fs = fun env => (fs env).bind rg3 := rfl
theorem rg3_i (i j c : Int) : rg3 [.int i, .int j, .int c] = rng3 i j c := rfl
theorem rng1_of {j : Int} (h0 : 0 ≤ j) (h : j ≤ 1000000) : rng1 j = .ok (rngD 0 1 j.toNat) := if_pos ⟨by omega, by omega⟩
theorem rng2_of {i j : Int} (h0 : 0 ≤ i) (h : i ≤ 1000000) (g0 : 0 ≤ j) (g : j ≤ 1000000) : rng2 i j = .ok (rngD i 1 (j - i).toNat) := if_pos ⟨by omega, by omega, by omega, by omega⟩
theorem gDiv_s (i : Int) {j : Int} (h : 0 < j) (h2 : j ≤ 18446744073709551616) : gDiv (.int i) (.int j) = .ok (.int (i / j)) := by
  have q : j.natAbs.log2 < 65 := (Nat.log2_lt (by omega)).mpr (by
    have : (2 : Nat) ^ 65 = 36893488147419103232 := by decide
    omega)
  rw [gDiv_ii, if_pos ⟨h, by omega⟩]
theorem gMod_s (i : Int) {j : Int} (h : 0 < j) : gMod (.int i) (.int j) = .ok (.int (i % j)) := by
  rw [gMod_ii, if_pos h]
theorem gShr_s (i : Int) {j : Int} (h0 : 0 ≤ j) : gShr (.int i) (.int j) = .ok (.int (i / 2 ^ j.toNat)) := by
  rw [gShr_ii, if_pos h0]
theorem onlyL_list (l : List D) : onlyL (.list l) = .ok (.list l) := rfl
end L2.FL
namespace L2.FL
open PySem PySem.Spec PyProof.Rows
theorem gEq_ii (i j : Int) : gEq (.int i) (.int j) = .ok (.bool (i == j)) := rfl
theorem gNe_ii (i j : Int) : gNe (.int i) (.int j) = .ok (.bool (!(i == j))) := rfl
theorem eqv_ints : ∀ (xs ys : List Int), PyData.eqvAll (xs.map PyData.int) (ys.map PyData.int) = decide (xs = ys)
  | [], [] => rfl
  | [], _ :: _ => rfl
  | _ :: _, [] => rfl
  | x :: xs, y :: ys => by
    show (x == y && PyData.eqvAll (xs.map PyData.int) (ys.map PyData.int)) = _
    rw [eqv_ints xs ys]
    by_cases h : x = y
    · subst h
      by_cases h2 : xs = ys
      · subst h2
        simp
      · simp [h2]
    · simp [h]
theorem lay_ints : ∀ (xs : List Int), PyData.canLayAll0 (xs.map PyData.int) = true
  | [] => rfl
  | x :: xs => by
    show (true && PyData.canLayAll0 (xs.map PyData.int)) = true
    rw [lay_ints xs]
    rfl
theorem depth_ints : ∀ (xs : List Int), PyData.depthAll (xs.map PyData.int) = 0
  | [] => rfl
  | x :: xs => by
    show max 0 (PyData.depthAll (xs.map PyData.int)) = 0
    rw [depth_ints xs]
    rfl
theorem shaped_ints (xs : List Int) : SeqAt.shaped (.list (xs.map PyData.int)) = true := by
  unfold SeqAt.shaped
  rw [Bool.and_eq_true]
  refine ⟨lay_ints xs, decide_eq_true ?_⟩
  show PyData.depthAll (xs.map PyData.int) + 1 ≤ 64
  rw [depth_ints]
  decide
theorem gEq_ll (xs ys : List Int) : gEq (.list (xs.map PyData.int)) (.list (ys.map PyData.int)) = .ok (.bool (decide (xs = ys))) := by
  unfold gEq
  rw [if_pos ⟨shaped_ints xs, shaped_ints ys⟩]
  show Res.ok (PyData.bool (PyData.eqvAll _ _)) = _
  rw [eqv_ints]
theorem gNe_ll (xs ys : List Int) : gNe (.list (xs.map PyData.int)) (.list (ys.map PyData.int)) = .ok (.bool (!decide (xs = ys))) := by
  unfold gNe
  rw [if_pos ⟨shaped_ints xs, shaped_ints ys⟩]
  show Res.ok (PyData.bool (!PyData.eqvAll _ _)) = _
  rw [eqv_ints]
/-- the script's numbers -/
def cell (ns : List Int) (k : Nat) : Int := ns.getD k 0
theorem atI_ofNat {α : Type} (xs : List α) (k : Nat) : atI xs (k : Int) = xs[k]? := by
  unfold atI ixN
  rw [if_pos (by omega)]
  by_cases h : k < xs.length
  · rw [if_pos (by omega)]
    rfl
  · rw [if_neg (by omega)]
    exact (List.getElem?_eq_none (by omega)).symm
theorem gIx_list {xs : List D} {k : Nat} {d : D} (h : xs[k]? = some d) : gIx (.list xs) (.int (k : Int)) = .ok d := by
  unfold gIx
  dsimp only
  rw [atI_ofNat, h]
theorem gIx_ints {xs : List Int} {k : Nat} {n : Int} (h : xs[k]? = some n) : gIx (.list (xs.map PyData.int)) (.int (k : Int)) = .ok (.int n) := by
  exact gIx_list (by rw [List.getElem?_map, h]; rfl)
theorem gIx_scr {ns : List Int} {k : Nat} {n : Int} (h : ns[k]? = some n) : gIx (scrD ns) (.int (k : Int)) = .ok (.int n) := by
  unfold gIx
  dsimp only
  rw [atI_ofNat, List.getElem?_map, h]
  rfl
theorem pow256 (k : Nat) : (256 : Int) ^ k = ((2 ^ (8 * k) : Nat) : Int) := by
  rw [Nat.pow_mul, Int.natCast_pow]
  rfl
theorem pow256_pos (k : Nat) : (0 : Int) < 256 ^ k := Int.pow_pos (by decide)
theorem natAbs_lt_pow {n : Int} {k : Nat} (h0 : 0 ≤ n) : n.natAbs < 2 ^ (8 * k) ↔ n < 256 ^ k := by
  rw [pow256]
  omega
/-- the bytes of a number, the lowest first -/
def tl : Nat → Int → List Int
  | 0, _ => []
  | k + 1, n => (n % 256) :: tl k (n / 256)
theorem tl_length : ∀ (k : Nat) (n : Int), (tl k n).length = k
  | 0, _ => rfl
  | k + 1, n => by
    show (tl k (n / 256)).length + 1 = k + 1
    rw [tl_length k]
theorem tl_byte : ∀ (k : Nat) (n : Int), ∀ b ∈ tl k n, 0 ≤ b ∧ b < 256
  | 0, _, b, h => by cases h
  | k + 1, n, b, h => by
    rcases List.mem_cons.mp h with e | e
    · subst e
      exact ⟨Int.emod_nonneg _ (by decide), Int.emod_lt_of_pos _ (by decide)⟩
    · exact tl_byte k _ b e
/-- the number of bytes, the lowest first -/
def ofL : List Int → Int
  | [] => 0
  | b :: bs => b + 256 * ofL bs
theorem ofL_tl : ∀ (k : Nat) (n : Int), 0 ≤ n → n < 256 ^ k → ofL (tl k n) = n
  | 0, n, h0, h => by
    rw [Int.pow_zero] at h
    show (0 : Int) = n
    omega
  | k + 1, n, h0, h => by
    show n % 256 + 256 * ofL (tl k (n / 256)) = n
    rw [Int.pow_succ] at h
    rw [ofL_tl k (n / 256) (by omega) (by omega)]
    omega
theorem ofL_bound : ∀ (bs : List Int), (∀ b ∈ bs, 0 ≤ b ∧ b < 256) → 0 ≤ ofL bs ∧ ofL bs < 256 ^ bs.length
  | [], _ => ⟨Int.le_refl _, by show (0 : Int) < 256 ^ 0; decide⟩
  | b :: bs, h => by
    obtain ⟨h1, h2⟩ := ofL_bound bs fun x hx => h x (List.mem_cons_of_mem _ hx)
    obtain ⟨g1, g2⟩ := h b List.mem_cons_self
    show 0 ≤ b + 256 * ofL bs ∧ b + 256 * ofL bs < 256 ^ (bs.length + 1)
    rw [Int.pow_succ]
    omega
theorem ofL_append : ∀ (bs cs : List Int), ofL (bs ++ cs) = ofL bs + 256 ^ bs.length * ofL cs
  | [], cs => by
    show ofL cs = 0 + 256 ^ 0 * ofL cs
    rw [Int.pow_zero]
    omega
  | b :: bs, cs => by
    show b + 256 * ofL (bs ++ cs) = (b + 256 * ofL bs) + 256 ^ (bs.length + 1) * ofL cs
    rw [ofL_append bs cs, Int.pow_succ, Int.mul_add, Int.mul_comm (256 ^ bs.length) 256, Int.mul_assoc]
    omega
end L2.FL

set_option linter.all false
set_option maxRecDepth 100000
namespace L2.FL
open PySem PySem.Spec PyProof.Rows
theorem bAnd_nn (a b : Nat) : Builtin.bitAnd (a : Int) (b : Int) = ((a &&& b : Nat) : Int) := by
  unfold Builtin.bitAnd
  rw [decide_eq_true (show (0 : Int) ≤ a by omega), decide_eq_true (show (0 : Int) ≤ b by omega)]
  rfl
theorem bOr_nn (a b : Nat) : Builtin.bitOr (a : Int) (b : Int) = ((a ||| b : Nat) : Int) := by
  have h : ∀ c : Nat, decide (0 ≤ Builtin.bitNot (c : Int)) = false := fun c => decide_eq_false (by unfold Builtin.bitNot; omega)
  have g : ∀ c : Nat, Builtin.bitNot (Builtin.bitNot (c : Int)) = c := fun c => by unfold Builtin.bitNot; omega
  unfold Builtin.bitOr Builtin.bitAnd
  rw [h a, h b]
  dsimp only
  rw [g, g, g]
  rfl
theorem or_xor_and : ∀ (k a b : Nat), a < 2 ^ k → (a ||| b) = (a ^^^ b) + (a &&& b)
  | 0, a, b, h => by
    have : a = 0 := by
      rw [Nat.pow_zero] at h
      omega
    subst this
    rw [Nat.zero_or, Nat.zero_xor, Nat.zero_and]
    rfl
  | k + 1, a, b, h => by
    have q := or_xor_and k (a / 2) (b / 2) (by rw [Nat.pow_succ] at h; omega)
    rw [← Nat.or_div_two, ← Nat.xor_div_two, ← Nat.and_div_two] at q
    have m : ∀ x : Nat, x % 2 = x % 2 ^ 1 := fun x => rfl
    have q1 : (a ||| b) % 2 = (a % 2) ||| (b % 2) := by rw [m (a ||| b), Nat.or_mod_two_pow]
    have q2 : (a ^^^ b) % 2 = (a % 2) ^^^ (b % 2) := by rw [m (a ^^^ b), Nat.xor_mod_two_pow]
    have q3 : (a &&& b) % 2 = (a % 2) &&& (b % 2) := by rw [m (a &&& b), Nat.and_mod_two_pow]
    rcases Nat.mod_two_eq_zero_or_one a with ha | ha <;> rcases Nat.mod_two_eq_zero_or_one b with hb | hb <;> rw [ha, hb] at q1 q2 q3
    · have r1 : (a ||| b) % 2 = 0 := q1
      have r2 : (a ^^^ b) % 2 = 0 := q2
      have r3 : (a &&& b) % 2 = 0 := q3
      omega
    · have r1 : (a ||| b) % 2 = 1 := q1
      have r2 : (a ^^^ b) % 2 = 1 := q2
      have r3 : (a &&& b) % 2 = 0 := q3
      omega
    · have r1 : (a ||| b) % 2 = 1 := q1
      have r2 : (a ^^^ b) % 2 = 1 := q2
      have r3 : (a &&& b) % 2 = 0 := q3
      omega
    · have r1 : (a ||| b) % 2 = 1 := q1
      have r2 : (a ^^^ b) % 2 = 0 := q2
      have r3 : (a &&& b) % 2 = 1 := q3
      omega
theorem bXor_nn (a b : Nat) : Builtin.bitXor (a : Int) (b : Int) = ((a ^^^ b : Nat) : Int) := by
  unfold Builtin.bitXor
  rw [bOr_nn, bAnd_nn, or_xor_and a a b Nat.lt_two_pow_self]
  omega
theorem bMask_n (a k : Nat) : Builtin.bitAnd (a : Int) (2 ^ k - 1) = ((a % 2 ^ k : Nat) : Int) := by
  rw [and_mask]
  rw [Int.natCast_emod, Int.natCast_pow]
  rfl
theorem bMask32 (a : Int) : Builtin.bitAnd a 4294967295 = a % 4294967296 := and_mask a 32
theorem shr_n (a k : Nat) : (a : Int) / 2 ^ k = ((a / 2 ^ k : Nat) : Int) := by
  rw [Int.natCast_ediv, Int.natCast_pow]
  rfl
/-- a word beside itself -/
theorem tw_or {x : Nat} (h : x < 4294967296) : (x * 4294967296 ||| x) = x * 4294967296 + x := by
  have q := Nat.shiftLeft_add_eq_or_of_lt (i := 32) (b := x) (by
    have : (2 : Nat) ^ 32 = 4294967296 := by decide
    omega) x
  rw [Nat.shiftLeft_eq, show (2 : Nat) ^ 32 = 4294967296 from by decide] at q
  exact q.symm
/-- a word turned by so many bits to the right -/
def rr (x c : Nat) : Nat := (x * 4294967296 + x) / 2 ^ c % 4294967296
theorem rr_val {x c d : Nat} (h : x < 4294967296) (hc : c + d = 32) (h0 : 0 < c) : rr x c = x / 2 ^ c + x * 2 ^ d % 4294967296 := by
  unfold rr
  have e32 : (4294967296 : Nat) = 2 ^ d * 2 ^ c := by
    rw [← Nat.pow_add, Nat.add_comm d c, hc]
  have hp : 0 < 2 ^ c := Nat.two_pow_pos c
  have e1 : (x * 4294967296 + x) / 2 ^ c = x * 2 ^ d + x / 2 ^ c := by
    rw [e32, ← Nat.mul_assoc, Nat.add_comm, Nat.add_mul_div_right _ _ hp, Nat.add_comm]
  rw [e1]
  have h1 : x / 2 ^ c < 2 ^ d := (Nat.div_lt_iff_lt_mul hp).mpr (by rw [← e32]; exact h)
  have h2 : x * 2 ^ d % 4294967296 = 2 ^ d * (x % 2 ^ c) := by
    rw [e32, Nat.mul_comm x, Nat.mul_mod_mul_left]
  have h3 : x % 2 ^ c < 2 ^ c := Nat.mod_lt _ hp
  have h4 : 2 ^ d * (x % 2 ^ c) + x / 2 ^ c < 4294967296 := by
    have : 2 ^ d * (x % 2 ^ c + 1) ≤ 2 ^ d * 2 ^ c := Nat.mul_le_mul_left _ h3
    rw [Nat.mul_add, Nat.mul_one] at this
    omega
  rw [Nat.add_mod, h2, Nat.mod_eq_of_lt (a := x / 2 ^ c) (by omega), Nat.mod_eq_of_lt h4]
  omega
theorem rr_or {x c d : Nat} (h : x < 4294967296) (hc : c + d = 32) (h0 : 0 < c) : (x / 2 ^ c ||| x * 2 ^ d % 4294967296) = rr x c := by
  rw [rr_val h hc h0]
  have e32 : (4294967296 : Nat) = 2 ^ d * 2 ^ c := by
    rw [← Nat.pow_add, Nat.add_comm d c, hc]
  have h1 : x / 2 ^ c < 2 ^ d := (Nat.div_lt_iff_lt_mul (Nat.two_pow_pos c)).mpr (by rw [← e32]; exact h)
  have h2 : x * 2 ^ d % 4294967296 = 2 ^ d * (x % 2 ^ c) := by
    rw [e32, Nat.mul_comm x, Nat.mul_mod_mul_left]
  have q := Nat.shiftLeft_add_eq_or_of_lt h1 (x % 2 ^ c)
  rw [Nat.shiftLeft_eq, Nat.mul_comm (x % 2 ^ c)] at q
  rw [h2, Nat.or_comm, ← q, Nat.add_comm]
theorem rr_lt (x c : Nat) : rr x c < 4294967296 := Nat.mod_lt _ (by decide)
/-- the two half turns of a schedule -/
def hz (x : Nat) : Nat := rr x 7 ^^^ rr x 18 ^^^ x / 2 ^ 3
def ho (x : Nat) : Nat := rr x 17 ^^^ rr x 19 ^^^ x / 2 ^ 10
theorem xor3_mod (a b c : Nat) : (a ^^^ b ^^^ c) % 4294967296 = (a % 4294967296) ^^^ (b % 4294967296) ^^^ (c % 4294967296) := by
  have e : (4294967296 : Nat) = 2 ^ 32 := by decide
  rw [e, Nat.xor_mod_two_pow, Nat.xor_mod_two_pow]
theorem tw_half {x : Nat} (i j k : Nat) (h : x < 4294967296) : ((x * 4294967296 + x) / 2 ^ i ^^^ (x * 4294967296 + x) / 2 ^ j ^^^ x / 2 ^ k) % 4294967296 = rr x i ^^^ rr x j ^^^ x / 2 ^ k := by
  rw [xor3_mod]
  have : x / 2 ^ k ≤ x := Nat.div_le_self _ _
  rw [Nat.mod_eq_of_lt (a := x / 2 ^ k) (by omega)]
  rfl
/-- a comprehension whose element is told for each item -/
theorem compR_on {α : Type} {i : Nat} {f : Env → Res D} {env : Env} (h g : α → D) : ∀ (js : List α), (∀ j ∈ js, f (env.set i (.val (h j))) = .ok (g j)) → compR (.nm i) cYes f env (js.map h) = .ok (js.map g)
  | [], _ => rfl
  | j :: js, q => by
    have q1 := q j List.mem_cons_self
    have q2 := compR_on h g js fun k hk => q k (List.mem_cons_of_mem _ hk)
    rw [List.map_cons, List.map_cons]
    unfold compR
    show ((f (env.set i (.val (h j)))).nox.bind fun y => (compR (.nm i) cYes f env (js.map h)).bind fun ys => Res.ok (y :: ys)) = _
    rw [q1, q2]
    rfl
theorem sIx_nn {n d s : Nat} (h : s ≤ n) : HT.sIx n d (some (s : Int)) = s := by
  unfold HT.sIx
  dsimp only
  rw [if_neg (by omega), Int.toNat_natCast, Nat.min_eq_left h]
theorem cut_nn {xs : List D} {s e : Nat} (h : s ≤ xs.length) (h2 : e ≤ xs.length) : cutD xs (some (s : Int)) (some (e : Int)) = (xs.drop s).take (e - s) := by
  unfold cutD
  rw [sIx_nn h, sIx_nn h2]
theorem cut_to {xs : List D} {e : Nat} (h2 : e ≤ xs.length) : cutD xs none (some (e : Int)) = xs.take e := by
  unfold cutD
  rw [sIx_nn h2]
  show (xs.drop 0).take (e - 0) = _
  rw [List.drop_zero, Nat.sub_zero]
theorem cut_from {xs : List D} {s : Nat} (h2 : s ≤ xs.length) : cutD xs (some (s : Int)) none = xs.drop s := by
  unfold cutD
  rw [sIx_nn h2]
  show (xs.drop s).take (xs.length - s) = _
  rw [List.take_of_length_le (by rw [List.length_drop]; exact Nat.le_refl _)]
theorem cut_over {xs : List D} {e : Nat} (h2 : xs.length ≤ e) : cutD xs none (some (e : Int)) = xs := by
  unfold cutD HT.sIx
  dsimp only
  rw [if_neg (by omega), Int.toNat_natCast, Nat.min_eq_right h2, List.drop_zero, Nat.sub_zero, List.take_length]
theorem cR_nil (t : Tg) (c : Env → Res Bool) (f : Env → Res D) (env : Env) : compR t c f env [] = .ok [] := rfl
theorem cR_cons (i : Nat) (f : Env → Res D) (env : Env) (d : D) (ds : List D) : compR (.nm i) cYes f env (d :: ds) = (f (env.set i (.val d))).nox.bind fun y => (compR (.nm i) cYes f env ds).bind fun ys => .ok (y :: ys) := rfl
theorem cR_consT (i j : Nat) (f : Env → Res D) (env : Env) (x y : D) (ds : List D) : compR (.tp [i, j]) cYes f env (.tuple [x, y] :: ds) = (f ((env.set i (.val x)).set j (.val y))).nox.bind fun y => (compR (.tp [i, j]) cYes f env ds).bind fun ys => .ok (y :: ys) := rfl
end L2.FL

set_option Elab.async false
set_option linter.all false
set_option maxRecDepth 100000
set_option maxHeartbeats 4000000
namespace L2.FL.K00
open PySem PySem.Spec PyProof.Rows
def topS (i : Nat) : Stmt := PySem.Challenge.pw_hushlink_k00_orders_of_numbers.main.body.getD i (.Pass ⟨0, 0, 0, 0⟩)
def xcnt : Nat := 3
def xsub : Nat → Nat → Bool := fun n m => ([true, false, false, true, true, false, true, false, true] : List Bool).getD (n * 3 + m) false
section
variable {P : Program} {w : World} {K : PySem.W.Frag} {mg : Str → Option Value} {base : Heap} {xa : Nat → Addr}
theorem sc_to_little : FnScope ["number", "size", "data", "rest", "_"] ["number", "size"] (defScope (topS 5)) := ⟨rfl, rfl, rfl, by decide +kernel, rfl, by decide +kernel, by decide +kernel⟩
noncomputable def L_to_little_1 : Env → Out :=
  (sSeq (sMeth 2 (sAppV 2 (e2 gAnd (eVar 3) (eC (.int 255)))))
  (sAug 3 gShr (eC (.int 8))))
noncomputable def B_to_little : Env → Out :=
  (sSeq (sIf (bOr (eB (e2 gLt (eVar 0) (eC (.int 0)))) (eB (e2 gGt (e1 gBits (eVar 0)) (e2 gMul (eC (.int 8)) (eVar 1)))))
  (sRaise 1)
  sNil)
  (sSeq (sSetO 2 (eFit asNil))
  (sSeq (sSetV 3 (eVar 0))
  (sSeq (sForR (.nm 4) (iR1 (asCons (eVar 1) asNil))
  L_to_little_1)
  (sRet (eVar 2))))))
noncomputable def F_to_little : List D → Res D := runF 2 5 B_to_little
set_option maxHeartbeats 16000000 in
theorem ok_to_little {f : Addr} {fd : FuncData} (FF : Fun K "to_little" "to_little" (topS 5) f fd) (m_range : mg "range" = none) (XTh : XT K xa xcnt xsub) (x_HushError : mg "HushError" = some (.ref (xa 0))) (x_OutOfRange : mg "OutOfRange" = some (.ref (xa 1))) (x_Malformed : mg "Malformed" = some (.ref (xa 2))) :
    FnOk P w K mg base (L2.CX P w) 1 f fd ["number", "size"] (spF K xa false F_to_little) := by
  refine okF (k := 0) (g := B_to_little) FF sc_to_little rfl rfl (fun cdv A outer s H E hr => ?_)
  have hu := roomU hr
  exact (qss_cons (qs_if (QW.t (qw_or (qt_lt (qv 0) q_int) (qw_or1 (qt_gt (q_bits (qv 0)) (q_mul q_int (qv 1))))))
  (qss_one (qs_raise (n := 1) XTh (by decide) rfl (takes_of rfl rfl rfl rfl) x_OutOfRange))
  qss_nil) (qss_cons (qs_setO (i := 2) sc_to_little.nd rfl (qf_list qa_nil)) (qss_cons (qs_setV (i := 3) sc_to_little.nd rfl (qv 0)) (qss_cons (qs_forR (t := (.nm 4)) (passes_of rfl) rfl (qr_range1 (by rfl) m_range (qa_cons (qv 1) qa_nil)) (pg_name (i := 4) sc_to_little.nd rfl (by first | exact Or.inl rfl | exact Or.inr rfl))
  (qss_cons (qs_appV (i := 2) rfl (q_and (qv 3) q_int)) (qss_one (qs_augShr (i := 3) sc_to_little.nd rfl q_int)))) (qss_one (qs_ret (qv 2)))))))
theorem sc_to_big : FnScope ["number", "size"] ["number", "size"] (defScope (topS 6)) := ⟨rfl, rfl, rfl, by decide +kernel, rfl, by decide +kernel, by decide +kernel⟩
noncomputable def B_to_big : Env → Out :=
  (sRet (fun env => ((eRev (fun env => ((asCons (eVar 0) (asCons (eVar 1) asNil)) env).bind F_to_little)) env).map .list))
noncomputable def F_to_big : List D → Res D := runF 2 2 B_to_big
set_option maxHeartbeats 16000000 in
theorem ok_to_big {f : Addr} {fd : FuncData} (FF : Fun K "to_big" "to_big" (topS 6) f fd) (T_to_little : FnT P w K mg base xa "to_little" ["number", "size"] 1 false F_to_little) :
    FnOk P w K mg base (L2.CX P w) 2 f fd ["number", "size"] (spF K xa false F_to_big) := by
  refine okF (k := 1) (g := B_to_big) FF sc_to_big rfl rfl (fun cdv A outer s H E hr => ?_)
  have hu := roomU hr
  exact (qss_one (qs_ret (QF.toE (qf_rev (q_callT T_to_little hr (by decide) (takes_of rfl rfl rfl rfl) (qa_cons (qv 0) (qa_cons (qv 1) qa_nil)))))))
theorem sc_from_big : FnScope ["data", "number", "byte"] ["data"] (defScope (topS 8)) := ⟨rfl, rfl, rfl, by decide +kernel, rfl, by decide +kernel, by decide +kernel⟩
noncomputable def L_from_big_1 : Env → Out :=
  (sSetV 1 (e2 gOr (e2 gShl (eVar 1) (eC (.int 8))) (eVar 2)))
noncomputable def B_from_big : Env → Out :=
  (sSeq (sSetV 1 (eC (.int 0)))
  (sSeq (sFor (.nm 2) (iL (eVar 0))
  L_from_big_1)
  (sRet (eVar 1))))
noncomputable def F_from_big : List D → Res D := runF 1 3 B_from_big
set_option maxHeartbeats 16000000 in
theorem ok_from_big {f : Addr} {fd : FuncData} (FF : Fun K "from_big" "from_big" (topS 8) f fd)  :
    FnOk P w K mg base (L2.CX P w) 1 f fd ["data"] (spF K xa false F_from_big) := by
  refine okF (k := 0) (g := B_from_big) FF sc_from_big rfl rfl (fun cdv A outer s H E hr => ?_)
  have hu := roomU hr
  exact (qss_cons (qs_setV (i := 1) sc_from_big.nd rfl q_int) (qss_cons (qs_for (t := (.nm 2)) (passes_of rfl) rfl (qi_list (qv 0)) (pg_name (i := 2) sc_from_big.nd rfl (by first | exact Or.inl rfl | exact Or.inr rfl))
  (qss_one (qs_setV (i := 1) sc_from_big.nd rfl (q_or (q_shl (qv 1) q_int) (qv 2))))) (qss_one (qs_ret (qv 1)))))
theorem sc_from_little : FnScope ["data"] ["data"] (defScope (topS 7)) := ⟨rfl, rfl, rfl, by decide +kernel, rfl, by decide +kernel, by decide +kernel⟩
noncomputable def B_from_little : Env → Out :=
  (sRet (fun env => ((asCons (fun env => ((eRev (eVar 0)) env).map .list) asNil) env).bind F_from_big))
noncomputable def F_from_little : List D → Res D := runF 1 1 B_from_little
set_option maxHeartbeats 16000000 in
theorem ok_from_little {f : Addr} {fd : FuncData} (FF : Fun K "from_little" "from_little" (topS 7) f fd) (T_from_big : FnT P w K mg base xa "from_big" ["data"] 1 false F_from_big) :
    FnOk P w K mg base (L2.CX P w) 2 f fd ["data"] (spF K xa false F_from_little) := by
  refine okF (k := 1) (g := B_from_little) FF sc_from_little rfl rfl (fun cdv A outer s H E hr => ?_)
  have hu := roomU hr
  exact (qss_one (qs_ret (q_callT T_from_big hr (by decide) (takes_of rfl rfl rfl rfl) (qa_cons (QF.toE (qf_rev (qv 0))) qa_nil))))
theorem sc__law_cell : FnScope ["script", "k"] ["script", "k"] (defScope (topS 10)) := ⟨rfl, rfl, rfl, by decide +kernel, rfl, by decide +kernel, by decide +kernel⟩
noncomputable def B__law_cell : Env → Out :=
  (sSeq (sIf (eB (e2 gLt (eVar 1) (fun env => ((asCons (eVar 0) asNil) env).bind gLen)))
  (sRet (fun env => ((asCons (e2 gIx (eVar 0) (eVar 1)) asNil) env).bind gInt))
  sNil)
  (sRet (eC (.int 0))))
noncomputable def F__law_cell : List D → Res D := runF 2 2 B__law_cell
set_option maxHeartbeats 16000000 in
theorem ok__law_cell {f : Addr} {fd : FuncData} (FF : Fun K "_law_cell" "_law_cell" (topS 10) f fd) (m_int : mg "int" = none) (m_len : mg "len" = none) :
    FnOk P w K mg base (L2.CX P w) 1 f fd ["script", "k"] (spF K xa false F__law_cell) := by
  refine okF (k := 0) (g := B__law_cell) FF sc__law_cell rfl rfl (fun cdv A outer s H E hr => ?_)
  have hu := roomU hr
  exact (qss_cons (qs_if (qt_lt (qv 1) (q_len (by rfl) m_len (qa_cons (qv 0) qa_nil)))
  (qss_one (qs_ret (q_int_of (by rfl) m_int (qa_cons (q_ix (qv 0) (qv 1) (fun _ _ => rfl)) qa_nil))))
  qss_nil) (qss_one (qs_ret q_int)))
theorem sc__law_is_bytes : FnScope ["value", "size", "item"] ["value", "size"] (defScope (topS 11)) := ⟨rfl, rfl, rfl, by decide +kernel, rfl, by decide +kernel, by decide +kernel⟩
noncomputable def L__law_is_bytes_1 : Env → Out :=
  (sIf (bOr (bNot (eB (eIsi isInt (eVar 2)))) (bOr (eB (eIsi isBool (eVar 2))) (bOr (eB (e2 gLt (eVar 2) (eC (.int 0)))) (eB (e2 gGt (eVar 2) (eC (.int 255)))))))
  (sRet (eC (.bool false)))
  sNil)
noncomputable def B__law_is_bytes : Env → Out :=
  (sSeq (sIf (bOr (bNot (eB (eIsi isList (eVar 0)))) (eB (e2 gNe (fun env => ((asCons (eVar 0) asNil) env).bind gLen) (eVar 1))))
  (sRet (eC (.bool false)))
  sNil)
  (sSeq (sFor (.nm 2) (iL (eVar 0))
  L__law_is_bytes_1)
  (sRet (eC (.bool true)))))
noncomputable def F__law_is_bytes : List D → Res D := runF 2 3 B__law_is_bytes
set_option maxHeartbeats 16000000 in
theorem ok__law_is_bytes {f : Addr} {fd : FuncData} (FF : Fun K "_law_is_bytes" "_law_is_bytes" (topS 11) f fd) (m_bool : mg "bool" = none) (m_int : mg "int" = none) (m_isinstance : mg "isinstance" = none) (m_len : mg "len" = none) (m_list : mg "list" = none) :
    FnOk P w K mg base (L2.CX P w) 1 f fd ["value", "size"] (spF K xa false F__law_is_bytes) := by
  refine okF (k := 0) (g := B__law_is_bytes) FF sc__law_is_bytes rfl rfl (fun cdv A outer s H E hr => ?_)
  have hu := roomU hr
  exact (qss_cons (qs_if (QW.t (qw_or (qt_not (qt_val (q_isi kit_list (by rfl) m_isinstance (by rfl) m_list boot_list (qv 0)))) (qw_or1 (qt_ne hu (q_len (by rfl) m_len (qa_cons (qv 0) qa_nil)) (qv 1)))))
  (qss_one (qs_ret q_bl))
  qss_nil) (qss_cons (qs_for (t := (.nm 2)) (passes_of rfl) rfl (qi_list (qv 0)) (pg_name (i := 2) sc__law_is_bytes.nd rfl (by first | exact Or.inl rfl | exact Or.inr rfl))
  (qss_one (qs_if (QW.t (qw_or (qt_not (qt_val (q_isi kit_int (by rfl) m_isinstance (by rfl) m_int boot_int (qv 2)))) (qw_or (qt_val (q_isi kit_bool (by rfl) m_isinstance (by rfl) m_bool boot_bool (qv 2))) (qw_or (qt_lt (qv 2) q_int) (qw_or1 (qt_gt (qv 2) q_int))))))
  (qss_one (qs_ret q_bl))
  qss_nil))) (qss_one (qs_ret q_bl))))
theorem sc__law_limit : FnScope ["size", "limit", "unused"] ["size"] (defScope (topS 12)) := ⟨rfl, rfl, rfl, by decide +kernel, rfl, by decide +kernel, by decide +kernel⟩
noncomputable def L__law_limit_1 : Env → Out :=
  (sSetV 1 (e2 gMul (eVar 1) (eC (.int 256))))
noncomputable def B__law_limit : Env → Out :=
  (sSeq (sSetV 1 (eC (.int 1)))
  (sSeq (sForR (.nm 2) (iR1 (asCons (eVar 0) asNil))
  L__law_limit_1)
  (sRet (eVar 1))))
noncomputable def F__law_limit : List D → Res D := runF 1 3 B__law_limit
set_option maxHeartbeats 16000000 in
theorem ok__law_limit {f : Addr} {fd : FuncData} (FF : Fun K "_law_limit" "_law_limit" (topS 12) f fd) (m_range : mg "range" = none) :
    FnOk P w K mg base (L2.CX P w) 1 f fd ["size"] (spF K xa false F__law_limit) := by
  refine okF (k := 0) (g := B__law_limit) FF sc__law_limit rfl rfl (fun cdv A outer s H E hr => ?_)
  have hu := roomU hr
  exact (qss_cons (qs_setV (i := 1) sc__law_limit.nd rfl q_int) (qss_cons (qs_forR (t := (.nm 2)) (passes_of rfl) rfl (qr_range1 (by rfl) m_range (qa_cons (qv 0) qa_nil)) (pg_name (i := 2) sc__law_limit.nd rfl (by first | exact Or.inl rfl | exact Or.inr rfl))
  (qss_one (qs_setV (i := 1) sc__law_limit.nd rfl (q_mul (qv 1) q_int)))) (qss_one (qs_ret (qv 1)))))
theorem sc__law_refused : FnScope ["number", "size", "count", "e"] ["number", "size"] (defScope (topS 13)) := ⟨rfl, rfl, rfl, by decide +kernel, rfl, by decide +kernel, by decide +kernel⟩
noncomputable def B__law_refused : Env → Out :=
  (sSeq (sSetV 2 (eC (.int 0)))
  (sSeq (sTry xcnt (fun n => xsub n 0) 3
  (sDrop (fun env => ((asCons (eVar 0) (asCons (eVar 1) asNil)) env).bind F_to_little))
  (sIf (bAnd (eB (eIsE xcnt xsub 3 1)) (bNot (eB (eIsE xcnt xsub 3 2))))
  (sSetV 2 (e2 gAdd (eVar 2) (eC (.int 1))))
  sNil))
  (sSeq (sTry xcnt (fun n => xsub n 0) 3
  (sDrop (fun env => ((asCons (eVar 0) (asCons (eVar 1) asNil)) env).bind F_to_big))
  (sIf (bAnd (eB (eIsE xcnt xsub 3 1)) (bNot (eB (eIsE xcnt xsub 3 2))))
  (sSetV 2 (e2 gAdd (eVar 2) (eC (.int 1))))
  sNil))
  (sRet (e2 gEq (eVar 2) (eC (.int 2)))))))
noncomputable def F__law_refused : List D → Res D := runF 2 4 B__law_refused
set_option maxHeartbeats 16000000 in
theorem ok__law_refused {f : Addr} {fd : FuncData} (FF : Fun K "_law_refused" "_law_refused" (topS 13) f fd) (T_to_big : FnT P w K mg base xa "to_big" ["number", "size"] 2 false F_to_big) (T_to_little : FnT P w K mg base xa "to_little" ["number", "size"] 1 false F_to_little) (m_isinstance : mg "isinstance" = none) (XTh : XT K xa xcnt xsub) (x_HushError : mg "HushError" = some (.ref (xa 0))) (x_OutOfRange : mg "OutOfRange" = some (.ref (xa 1))) (x_Malformed : mg "Malformed" = some (.ref (xa 2))) :
    FnOk P w K mg base (L2.CX P w) 3 f fd ["number", "size"] (spF K xa false F__law_refused) := by
  refine okF (k := 2) (g := B__law_refused) FF sc__law_refused rfl rfl (fun cdv A outer s H E hr => ?_)
  have hu := roomU hr
  exact (qss_cons (qs_setV (i := 2) sc__law_refused.nd rfl q_int) (qss_cons (qs_try (i := 3) (cm := 0) XTh (by decide) sc__law_refused.nd rfl (takes_of rfl rfl rfl rfl) x_HushError rfl rfl rfl
  (fun W pn xe tk hp => (qss_one (qs_expr (q_callT T_to_little hr (by decide) tk (qa_cons (qv 0) (qa_cons (qv 1) qa_nil))))))
  (fun a oe n pn hz hfl => (qss_one (qs_if (QW.t (qw_and (qt_val (q_isE (C := (cfOf xa E)) (i := 3) XTh (by decide) hz hfl (by rfl) m_isinstance x_OutOfRange rfl)) (qw_and1 (qt_not (qt_val (q_isE (C := (cfOf xa E)) (i := 3) XTh (by decide) hz hfl (by rfl) m_isinstance x_Malformed rfl))))))
  (qss_one (qs_setV (i := 2) sc__law_refused.nd rfl (q_add (qv 2) q_int)))
  qss_nil)))) (qss_cons (qs_try (i := 3) (cm := 0) XTh (by decide) sc__law_refused.nd rfl (takes_of rfl rfl rfl rfl) x_HushError rfl rfl rfl
  (fun W pn xe tk hp => (qss_one (qs_expr (q_callT T_to_big hr (by decide) tk (qa_cons (qv 0) (qa_cons (qv 1) qa_nil))))))
  (fun a oe n pn hz hfl => (qss_one (qs_if (QW.t (qw_and (qt_val (q_isE (C := (cfOf xa E)) (i := 3) XTh (by decide) hz hfl (by rfl) m_isinstance x_OutOfRange rfl)) (qw_and1 (qt_not (qt_val (q_isE (C := (cfOf xa E)) (i := 3) XTh (by decide) hz hfl (by rfl) m_isinstance x_Malformed rfl))))))
  (qss_one (qs_setV (i := 2) sc__law_refused.nd rfl (q_add (qv 2) q_int)))
  qss_nil)))) (qss_one (qs_ret (q_eq hu (qv 2) q_int))))))
theorem sc__law_read_back : FnScope ["little", "big", "number", "low", "high", "first", "second", "value"] ["little", "big", "number"] (defScope (topS 14)) := ⟨rfl, rfl, rfl, by decide +kernel, rfl, by decide +kernel, by decide +kernel⟩
noncomputable def L__law_read_back_1 : Env → Out :=
  (sIf (bOr (bNot (eB (eIsi isInt (eVar 7)))) (bOr (eB (eIsi isBool (eVar 7))) (eB (e2 gNe (eVar 7) (eVar 2)))))
  (sRet (eC (.bool false)))
  sNil)
noncomputable def B__law_read_back : Env → Out :=
  (sSeq (sSetV 3 (fun env => ((fun env => ((asCons (eVar 0) asNil) env).bind gList) env).map .list))
  (sSeq (sSetV 4 (fun env => ((fun env => ((asCons (eVar 1) asNil) env).bind gList) env).map .list))
  (sSeq (sSetV 5 (fun env => ((asCons (eVar 3) asNil) env).bind F_from_little))
  (sSeq (sSetV 6 (fun env => ((asCons (eVar 4) asNil) env).bind F_from_big))
  (sSeq (sIf (bOr (eB (e2 gNe (eVar 3) (eVar 0))) (eB (e2 gNe (eVar 4) (eVar 1))))
  (sRet (eC (.bool false)))
  sNil)
  (sSeq (sFor (.nm 7) (iL (fun env => ((eFit (asCons (eVar 5) (asCons (eVar 6) asNil))) env).map .list))
  L__law_read_back_1)
  (sRet (eC (.bool true)))))))))
noncomputable def F__law_read_back : List D → Res D := runF 3 8 B__law_read_back
set_option maxHeartbeats 16000000 in
theorem ok__law_read_back {f : Addr} {fd : FuncData} (FF : Fun K "_law_read_back" "_law_read_back" (topS 14) f fd) (T_from_big : FnT P w K mg base xa "from_big" ["data"] 1 false F_from_big) (T_from_little : FnT P w K mg base xa "from_little" ["data"] 2 false F_from_little) (m_bool : mg "bool" = none) (m_int : mg "int" = none) (m_isinstance : mg "isinstance" = none) (m_list : mg "list" = none) :
    FnOk P w K mg base (L2.CX P w) 3 f fd ["little", "big", "number"] (spF K xa false F__law_read_back) := by
  refine okF (k := 2) (g := B__law_read_back) FF sc__law_read_back rfl rfl (fun cdv A outer s H E hr => ?_)
  have hu := roomU hr
  exact (qss_cons (qs_setV (i := 3) sc__law_read_back.nd rfl (QF.toE (qf_listOf (by rfl) m_list (qa_cons (qv 0) qa_nil)))) (qss_cons (qs_setV (i := 4) sc__law_read_back.nd rfl (QF.toE (qf_listOf (by rfl) m_list (qa_cons (qv 1) qa_nil)))) (qss_cons (qs_setV (i := 5) sc__law_read_back.nd rfl (q_callT T_from_little hr (by decide) (takes_of rfl rfl rfl rfl) (qa_cons (qv 3) qa_nil))) (qss_cons (qs_setV (i := 6) sc__law_read_back.nd rfl (q_callT T_from_big hr (by decide) (takes_of rfl rfl rfl rfl) (qa_cons (qv 4) qa_nil))) (qss_cons (qs_if (QW.t (qw_or (qt_ne hu (qv 3) (qv 0)) (qw_or1 (qt_ne hu (qv 4) (qv 1)))))
  (qss_one (qs_ret q_bl))
  qss_nil) (qss_cons (qs_for (t := (.nm 7)) (passes_of rfl) rfl (qi_list (QF.toE (qf_list (qa_cons (qv 5) (qa_cons (qv 6) qa_nil))))) (pg_name (i := 7) sc__law_read_back.nd rfl (by first | exact Or.inl rfl | exact Or.inr rfl))
  (qss_one (qs_if (QW.t (qw_or (qt_not (qt_val (q_isi kit_int (by rfl) m_isinstance (by rfl) m_int boot_int (qv 7)))) (qw_or (qt_val (q_isi kit_bool (by rfl) m_isinstance (by rfl) m_bool boot_bool (qv 7))) (qw_or1 (qt_ne hu (qv 7) (qv 2))))))
  (qss_one (qs_ret q_bl))
  qss_nil))) (qss_one (qs_ret q_bl))))))))
theorem sc_law : FnScope ["script", "size", "kind", "limit", "beside", "number", "little", "big", "total", "weight", "k"] ["script"] (defScope (topS 15)) := ⟨rfl, rfl, rfl, by decide +kernel, rfl, by decide +kernel, by decide +kernel⟩
noncomputable def L_law_1 : Env → Out :=
  (sSeq (sIf (eB (e2 gNe (e2 gIx (eVar 6) (eVar 10)) (e2 gIx (eVar 7) (e2 gSub (e2 gSub (eVar 1) (eC (.int 1))) (eVar 10)))))
  (sRet (eC (.bool false)))
  sNil)
  (sSeq (sSetV 8 (e2 gAdd (eVar 8) (e2 gMul (e2 gIx (eVar 6) (eVar 10)) (eVar 9))))
  (sSetV 9 (e2 gMul (eVar 9) (eC (.int 256))))))
noncomputable def B_law : Env → Out :=
  (sSeq (sSetV 1 (e2 gMod (fun env => ((asCons (eVar 0) (asCons (eC (.int 0)) asNil)) env).bind F__law_cell) (eC (.int 41))))
  (sSeq (sSetV 2 (e2 gMod (e2 gDiv (fun env => ((asCons (eVar 0) (asCons (eC (.int 0)) asNil)) env).bind F__law_cell) (eC (.int 41))) (eC (.int 8))))
  (sSeq (sSetV 3 (fun env => ((asCons (eVar 1) asNil) env).bind F__law_limit))
  (sSeq (sSetV 4 (e2 gMod (fun env => ((asCons (fun env => ((asCons (eVar 0) (asCons (eC (.int 2)) asNil)) env).bind F__law_cell) asNil) env).bind gAbs) (e2 gPow (eC (.int 10)) (eC (.int 60)))))
  (sSeq (sSetV 5 (e2 gMod (fun env => ((asCons (eVar 0) (asCons (eC (.int 1)) asNil)) env).bind F__law_cell) (eVar 3)))
  (sSeq (sIf (eB (e2 gLt (eVar 2) (eC (.int 2))))
  (sSetV 5 (e2 gSub (eVar 3) (eC (.int 1))))
  sNil)
  (sSeq (sIf (eB (e2 gEq (eVar 2) (eC (.int 2))))
  (sRet (fun env => ((asCons (e2 gAdd (eVar 3) (eVar 4)) (asCons (eVar 1) asNil)) env).bind F__law_refused))
  sNil)
  (sSeq (sIf (eB (e2 gEq (eVar 2) (eC (.int 3))))
  (sRet (fun env => ((asCons (e2 gSub (e1 gNeg (eC (.int 1))) (eVar 4)) (asCons (eVar 1) asNil)) env).bind F__law_refused))
  sNil)
  (sSeq (sSetV 6 (fun env => ((asCons (eVar 5) (asCons (eVar 1) asNil)) env).bind F_to_little))
  (sSeq (sSetV 7 (fun env => ((asCons (eVar 5) (asCons (eVar 1) asNil)) env).bind F_to_big))
  (sSeq (sIf (bOr (bNot (eB (fun env => ((asCons (eVar 6) (asCons (eVar 1) asNil)) env).bind F__law_is_bytes))) (bNot (eB (fun env => ((asCons (eVar 7) (asCons (eVar 1) asNil)) env).bind F__law_is_bytes))))
  (sRet (eC (.bool false)))
  sNil)
  (sSeq (sSetV 8 (eC (.int 0)))
  (sSeq (sSetV 9 (eC (.int 1)))
  (sSeq (sForR (.nm 10) (iR1 (asCons (eVar 1) asNil))
  L_law_1)
  (sRet (eAnd (e2 gEq (eVar 8) (eVar 5)) (fun env => ((asCons (eVar 6) (asCons (eVar 7) (asCons (eVar 5) asNil))) env).bind F__law_read_back)))))))))))))))))
noncomputable def F_law : List D → Res D := runF 1 11 B_law
set_option maxHeartbeats 16000000 in
theorem ok_law {f : Addr} {fd : FuncData} (FF : Fun K "law" "law" (topS 15) f fd) (T__law_cell : FnT P w K mg base xa "_law_cell" ["script", "k"] 1 false F__law_cell) (T__law_is_bytes : FnT P w K mg base xa "_law_is_bytes" ["value", "size"] 1 false F__law_is_bytes) (T__law_limit : FnT P w K mg base xa "_law_limit" ["size"] 1 false F__law_limit) (T__law_read_back : FnT P w K mg base xa "_law_read_back" ["little", "big", "number"] 3 false F__law_read_back) (T__law_refused : FnT P w K mg base xa "_law_refused" ["number", "size"] 3 false F__law_refused) (T_to_big : FnT P w K mg base xa "to_big" ["number", "size"] 2 false F_to_big) (T_to_little : FnT P w K mg base xa "to_little" ["number", "size"] 1 false F_to_little) (m_abs : mg "abs" = none) (m_range : mg "range" = none) :
    FnOk P w K mg base (L2.CX P w) 4 f fd ["script"] (spF K xa false F_law) := by
  refine okF (k := 3) (g := B_law) FF sc_law rfl rfl (fun cdv A outer s H E hr => ?_)
  have hu := roomU hr
  exact (qss_cons (qs_setV (i := 1) sc_law.nd rfl (q_mod (q_callT T__law_cell hr (by decide) (takes_of rfl rfl rfl rfl) (qa_cons (qv 0) (qa_cons q_int qa_nil))) q_int)) (qss_cons (qs_setV (i := 2) sc_law.nd rfl (q_mod (q_div (q_callT T__law_cell hr (by decide) (takes_of rfl rfl rfl rfl) (qa_cons (qv 0) (qa_cons q_int qa_nil))) q_int) q_int)) (qss_cons (qs_setV (i := 3) sc_law.nd rfl (q_callT T__law_limit hr (by decide) (takes_of rfl rfl rfl rfl) (qa_cons (qv 1) qa_nil))) (qss_cons (qs_setV (i := 4) sc_law.nd rfl (q_mod (q_abs (by rfl) m_abs (qa_cons (q_callT T__law_cell hr (by decide) (takes_of rfl rfl rfl rfl) (qa_cons (qv 0) (qa_cons q_int qa_nil))) qa_nil)) (q_pow q_int q_int))) (qss_cons (qs_setV (i := 5) sc_law.nd rfl (q_mod (q_callT T__law_cell hr (by decide) (takes_of rfl rfl rfl rfl) (qa_cons (qv 0) (qa_cons q_int qa_nil))) (qv 3))) (qss_cons (qs_if (qt_lt (qv 2) q_int)
  (qss_one (qs_setV (i := 5) sc_law.nd rfl (q_sub (qv 3) q_int)))
  qss_nil) (qss_cons (qs_if (qt_eq hu (qv 2) q_int)
  (qss_one (qs_ret (q_callT T__law_refused hr (by decide) (takes_of rfl rfl rfl rfl) (qa_cons (q_add (qv 3) (qv 4)) (qa_cons (qv 1) qa_nil)))))
  qss_nil) (qss_cons (qs_if (qt_eq hu (qv 2) q_int)
  (qss_one (qs_ret (q_callT T__law_refused hr (by decide) (takes_of rfl rfl rfl rfl) (qa_cons (q_sub (q_neg q_int) (qv 4)) (qa_cons (qv 1) qa_nil)))))
  qss_nil) (qss_cons (qs_setV (i := 6) sc_law.nd rfl (q_callT T_to_little hr (by decide) (takes_of rfl rfl rfl rfl) (qa_cons (qv 5) (qa_cons (qv 1) qa_nil)))) (qss_cons (qs_setV (i := 7) sc_law.nd rfl (q_callT T_to_big hr (by decide) (takes_of rfl rfl rfl rfl) (qa_cons (qv 5) (qa_cons (qv 1) qa_nil)))) (qss_cons (qs_if (QW.t (qw_or (qt_not (qt_val (q_callT T__law_is_bytes hr (by decide) (takes_of rfl rfl rfl rfl) (qa_cons (qv 6) (qa_cons (qv 1) qa_nil))))) (qw_or1 (qt_not (qt_val (q_callT T__law_is_bytes hr (by decide) (takes_of rfl rfl rfl rfl) (qa_cons (qv 7) (qa_cons (qv 1) qa_nil))))))))
  (qss_one (qs_ret q_bl))
  qss_nil) (qss_cons (qs_setV (i := 8) sc_law.nd rfl q_int) (qss_cons (qs_setV (i := 9) sc_law.nd rfl q_int) (qss_cons (qs_forR (t := (.nm 10)) (passes_of rfl) rfl (qr_range1 (by rfl) m_range (qa_cons (qv 1) qa_nil)) (pg_name (i := 10) sc_law.nd rfl (by first | exact Or.inl rfl | exact Or.inr rfl))
  (qss_cons (qs_if (qt_ne hu (q_ix (qv 6) (qv 10) (fun _ _ => rfl)) (q_ix (qv 7) (q_sub (q_sub (qv 1) q_int) (qv 10)) (fun _ _ => rfl)))
  (qss_one (qs_ret q_bl))
  qss_nil) (qss_cons (qs_setV (i := 8) sc_law.nd rfl (q_add (qv 8) (q_mul (q_ix (qv 6) (qv 10) (fun _ _ => rfl)) (qv 9)))) (qss_one (qs_setV (i := 9) sc_law.nd rfl (q_mul (qv 9) q_int)))))) (qss_one (qs_ret (q_and' (q_eq hu (qv 8) (qv 5)) (q_one (q_callT T__law_read_back hr (by decide) (takes_of rfl rfl rfl rfl) (qa_cons (qv 6) (qa_cons (qv 7) (qa_cons (qv 5) qa_nil))))))))))))))))))))))
end
theorem all_mk {P : Program} {w : World} {K : PySem.W.Frag} {h : Heap} {mg : Str → Option Value} {fa : Addr} (X : K.In h) (G : h.Ns mainGlobals mg) (hfa : mg "law" = some (.ref fa))
    {C_HushError : Addr}
    {C_OutOfRange : Addr}
    {C_Malformed : Addr}
    (a_HushError : PySem.W.nsIn K mainGlobals "HushError" = some (some (.ref C_HushError)))
    (x_HushError : PySem.W.excIn K C_HushError [.type "ValueError", .type "Exception", .type "BaseException", .type "object"] "ValueError.__new__" = true)
    (k_HushError : PySem.W.keepIn K (.ref C_HushError) = true)
    (b_HushError : PySem.W.subIn K (.ref C_HushError) (.type "BaseException") = some true)
    (t_HushError : PySem.W.typeIn K (.ref C_HushError) = some (.type "type"))
    (ga_HushError : PySem.W.findIn K (.ref C_HushError) "__getattribute__" = some (some (.builtin "BaseException.__getattribute__")))
    (gg_HushError : PySem.W.findIn K (.ref C_HushError) "__getattr__" = some none)
    (hd_HushError : PySem.W.hasDictIn K C_HushError = true)
    (cl_HushError : PySem.W.findIn K (.ref C_HushError) "__class__" = some (some (.builtin "object.__class__")))
    (mr_HushError : PySem.W.mroIn K C_HushError (.type "object") = some true)
    (a_OutOfRange : PySem.W.nsIn K mainGlobals "OutOfRange" = some (some (.ref C_OutOfRange)))
    (x_OutOfRange : PySem.W.excIn K C_OutOfRange [.type "ValueError", .type "Exception", .type "BaseException", .type "object"] "ValueError.__new__" = true)
    (k_OutOfRange : PySem.W.keepIn K (.ref C_OutOfRange) = true)
    (b_OutOfRange : PySem.W.subIn K (.ref C_OutOfRange) (.type "BaseException") = some true)
    (t_OutOfRange : PySem.W.typeIn K (.ref C_OutOfRange) = some (.type "type"))
    (ga_OutOfRange : PySem.W.findIn K (.ref C_OutOfRange) "__getattribute__" = some (some (.builtin "BaseException.__getattribute__")))
    (gg_OutOfRange : PySem.W.findIn K (.ref C_OutOfRange) "__getattr__" = some none)
    (hd_OutOfRange : PySem.W.hasDictIn K C_OutOfRange = true)
    (cl_OutOfRange : PySem.W.findIn K (.ref C_OutOfRange) "__class__" = some (some (.builtin "object.__class__")))
    (mr_OutOfRange : PySem.W.mroIn K C_OutOfRange (.type "object") = some true)
    (a_Malformed : PySem.W.nsIn K mainGlobals "Malformed" = some (some (.ref C_Malformed)))
    (x_Malformed : PySem.W.excIn K C_Malformed [.type "ValueError", .type "Exception", .type "BaseException", .type "object"] "ValueError.__new__" = true)
    (k_Malformed : PySem.W.keepIn K (.ref C_Malformed) = true)
    (b_Malformed : PySem.W.subIn K (.ref C_Malformed) (.type "BaseException") = some true)
    (t_Malformed : PySem.W.typeIn K (.ref C_Malformed) = some (.type "type"))
    (ga_Malformed : PySem.W.findIn K (.ref C_Malformed) "__getattribute__" = some (some (.builtin "BaseException.__getattribute__")))
    (gg_Malformed : PySem.W.findIn K (.ref C_Malformed) "__getattr__" = some none)
    (hd_Malformed : PySem.W.hasDictIn K C_Malformed = true)
    (cl_Malformed : PySem.W.findIn K (.ref C_Malformed) "__class__" = some (some (.builtin "object.__class__")))
    (mr_Malformed : PySem.W.mroIn K C_Malformed (.type "object") = some true)
    (s_HushError_HushError : PySem.W.subIn K (.ref C_HushError) (.ref C_HushError) = some true)
    (s_HushError_OutOfRange : PySem.W.subIn K (.ref C_HushError) (.ref C_OutOfRange) = some false)
    (s_HushError_Malformed : PySem.W.subIn K (.ref C_HushError) (.ref C_Malformed) = some false)
    (s_OutOfRange_HushError : PySem.W.subIn K (.ref C_OutOfRange) (.ref C_HushError) = some true)
    (s_OutOfRange_OutOfRange : PySem.W.subIn K (.ref C_OutOfRange) (.ref C_OutOfRange) = some true)
    (s_OutOfRange_Malformed : PySem.W.subIn K (.ref C_OutOfRange) (.ref C_Malformed) = some false)
    (s_Malformed_HushError : PySem.W.subIn K (.ref C_Malformed) (.ref C_HushError) = some true)
    (s_Malformed_OutOfRange : PySem.W.subIn K (.ref C_Malformed) (.ref C_OutOfRange) = some false)
    (s_Malformed_Malformed : PySem.W.subIn K (.ref C_Malformed) (.ref C_Malformed) = some true)
    (sp_c : PySem.W.specialIn K (.builtin "object.__class__") "__get__" = some (some (.builtin "getset_descriptor.__get__")))
    (tk_c : PySem.W.takesIn K (.builtin "object.__class__") = some true)
    {f_to_little : Addr} {od_to_little an_to_little : Option Addr} {sl_to_little : Array (Option Value)} {oc_to_little kV_to_little dc_to_little pm_to_little cd_to_little ct_to_little : Value}
    (a_to_little : PySem.W.nsIn K mainGlobals "to_little" = some (some (.ref f_to_little)))
    (l_to_little : K.lookup f_to_little = some ⟨oc_to_little, od_to_little, .func (PySem.W.fnOf "to_little" "to_little" (defArgs (topS 5)) (defBody (topS 5)) (defScope (topS 5)) .none kV_to_little dc_to_little pm_to_little an_to_little cd_to_little ct_to_little), sl_to_little⟩)
    (c_to_little : PySem.W.codeIn K cd_to_little "to_little" = true) (k_to_little : PySem.W.keepIn K (.ref f_to_little) = true)
    {f_to_big : Addr} {od_to_big an_to_big : Option Addr} {sl_to_big : Array (Option Value)} {oc_to_big kV_to_big dc_to_big pm_to_big cd_to_big ct_to_big : Value}
    (a_to_big : PySem.W.nsIn K mainGlobals "to_big" = some (some (.ref f_to_big)))
    (l_to_big : K.lookup f_to_big = some ⟨oc_to_big, od_to_big, .func (PySem.W.fnOf "to_big" "to_big" (defArgs (topS 6)) (defBody (topS 6)) (defScope (topS 6)) .none kV_to_big dc_to_big pm_to_big an_to_big cd_to_big ct_to_big), sl_to_big⟩)
    (c_to_big : PySem.W.codeIn K cd_to_big "to_big" = true) (k_to_big : PySem.W.keepIn K (.ref f_to_big) = true)
    {f_from_big : Addr} {od_from_big an_from_big : Option Addr} {sl_from_big : Array (Option Value)} {oc_from_big kV_from_big dc_from_big pm_from_big cd_from_big ct_from_big : Value}
    (a_from_big : PySem.W.nsIn K mainGlobals "from_big" = some (some (.ref f_from_big)))
    (l_from_big : K.lookup f_from_big = some ⟨oc_from_big, od_from_big, .func (PySem.W.fnOf "from_big" "from_big" (defArgs (topS 8)) (defBody (topS 8)) (defScope (topS 8)) .none kV_from_big dc_from_big pm_from_big an_from_big cd_from_big ct_from_big), sl_from_big⟩)
    (c_from_big : PySem.W.codeIn K cd_from_big "from_big" = true) (k_from_big : PySem.W.keepIn K (.ref f_from_big) = true)
    {f_from_little : Addr} {od_from_little an_from_little : Option Addr} {sl_from_little : Array (Option Value)} {oc_from_little kV_from_little dc_from_little pm_from_little cd_from_little ct_from_little : Value}
    (a_from_little : PySem.W.nsIn K mainGlobals "from_little" = some (some (.ref f_from_little)))
    (l_from_little : K.lookup f_from_little = some ⟨oc_from_little, od_from_little, .func (PySem.W.fnOf "from_little" "from_little" (defArgs (topS 7)) (defBody (topS 7)) (defScope (topS 7)) .none kV_from_little dc_from_little pm_from_little an_from_little cd_from_little ct_from_little), sl_from_little⟩)
    (c_from_little : PySem.W.codeIn K cd_from_little "from_little" = true) (k_from_little : PySem.W.keepIn K (.ref f_from_little) = true)
    {f__law_cell : Addr} {od__law_cell an__law_cell : Option Addr} {sl__law_cell : Array (Option Value)} {oc__law_cell kV__law_cell dc__law_cell pm__law_cell cd__law_cell ct__law_cell : Value}
    (a__law_cell : PySem.W.nsIn K mainGlobals "_law_cell" = some (some (.ref f__law_cell)))
    (l__law_cell : K.lookup f__law_cell = some ⟨oc__law_cell, od__law_cell, .func (PySem.W.fnOf "_law_cell" "_law_cell" (defArgs (topS 10)) (defBody (topS 10)) (defScope (topS 10)) .none kV__law_cell dc__law_cell pm__law_cell an__law_cell cd__law_cell ct__law_cell), sl__law_cell⟩)
    (c__law_cell : PySem.W.codeIn K cd__law_cell "_law_cell" = true) (k__law_cell : PySem.W.keepIn K (.ref f__law_cell) = true)
    {f__law_is_bytes : Addr} {od__law_is_bytes an__law_is_bytes : Option Addr} {sl__law_is_bytes : Array (Option Value)} {oc__law_is_bytes kV__law_is_bytes dc__law_is_bytes pm__law_is_bytes cd__law_is_bytes ct__law_is_bytes : Value}
    (a__law_is_bytes : PySem.W.nsIn K mainGlobals "_law_is_bytes" = some (some (.ref f__law_is_bytes)))
    (l__law_is_bytes : K.lookup f__law_is_bytes = some ⟨oc__law_is_bytes, od__law_is_bytes, .func (PySem.W.fnOf "_law_is_bytes" "_law_is_bytes" (defArgs (topS 11)) (defBody (topS 11)) (defScope (topS 11)) .none kV__law_is_bytes dc__law_is_bytes pm__law_is_bytes an__law_is_bytes cd__law_is_bytes ct__law_is_bytes), sl__law_is_bytes⟩)
    (c__law_is_bytes : PySem.W.codeIn K cd__law_is_bytes "_law_is_bytes" = true) (k__law_is_bytes : PySem.W.keepIn K (.ref f__law_is_bytes) = true)
    {f__law_limit : Addr} {od__law_limit an__law_limit : Option Addr} {sl__law_limit : Array (Option Value)} {oc__law_limit kV__law_limit dc__law_limit pm__law_limit cd__law_limit ct__law_limit : Value}
    (a__law_limit : PySem.W.nsIn K mainGlobals "_law_limit" = some (some (.ref f__law_limit)))
    (l__law_limit : K.lookup f__law_limit = some ⟨oc__law_limit, od__law_limit, .func (PySem.W.fnOf "_law_limit" "_law_limit" (defArgs (topS 12)) (defBody (topS 12)) (defScope (topS 12)) .none kV__law_limit dc__law_limit pm__law_limit an__law_limit cd__law_limit ct__law_limit), sl__law_limit⟩)
    (c__law_limit : PySem.W.codeIn K cd__law_limit "_law_limit" = true) (k__law_limit : PySem.W.keepIn K (.ref f__law_limit) = true)
    {f__law_refused : Addr} {od__law_refused an__law_refused : Option Addr} {sl__law_refused : Array (Option Value)} {oc__law_refused kV__law_refused dc__law_refused pm__law_refused cd__law_refused ct__law_refused : Value}
    (a__law_refused : PySem.W.nsIn K mainGlobals "_law_refused" = some (some (.ref f__law_refused)))
    (l__law_refused : K.lookup f__law_refused = some ⟨oc__law_refused, od__law_refused, .func (PySem.W.fnOf "_law_refused" "_law_refused" (defArgs (topS 13)) (defBody (topS 13)) (defScope (topS 13)) .none kV__law_refused dc__law_refused pm__law_refused an__law_refused cd__law_refused ct__law_refused), sl__law_refused⟩)
    (c__law_refused : PySem.W.codeIn K cd__law_refused "_law_refused" = true) (k__law_refused : PySem.W.keepIn K (.ref f__law_refused) = true)
    {f__law_read_back : Addr} {od__law_read_back an__law_read_back : Option Addr} {sl__law_read_back : Array (Option Value)} {oc__law_read_back kV__law_read_back dc__law_read_back pm__law_read_back cd__law_read_back ct__law_read_back : Value}
    (a__law_read_back : PySem.W.nsIn K mainGlobals "_law_read_back" = some (some (.ref f__law_read_back)))
    (l__law_read_back : K.lookup f__law_read_back = some ⟨oc__law_read_back, od__law_read_back, .func (PySem.W.fnOf "_law_read_back" "_law_read_back" (defArgs (topS 14)) (defBody (topS 14)) (defScope (topS 14)) .none kV__law_read_back dc__law_read_back pm__law_read_back an__law_read_back cd__law_read_back ct__law_read_back), sl__law_read_back⟩)
    (c__law_read_back : PySem.W.codeIn K cd__law_read_back "_law_read_back" = true) (k__law_read_back : PySem.W.keepIn K (.ref f__law_read_back) = true)
    {f_law : Addr} {od_law an_law : Option Addr} {sl_law : Array (Option Value)} {oc_law kV_law dc_law pm_law cd_law ct_law : Value}
    (a_law : PySem.W.nsIn K mainGlobals "law" = some (some (.ref f_law)))
    (l_law : K.lookup f_law = some ⟨oc_law, od_law, .func (PySem.W.fnOf "law" "law" (defArgs (topS 15)) (defBody (topS 15)) (defScope (topS 15)) .none kV_law dc_law pm_law an_law cd_law ct_law), sl_law⟩)
    (c_law : PySem.W.codeIn K cd_law "law" = true) (k_law : PySem.W.keepIn K (.ref f_law) = true)
    (z_abs : PySem.W.nsIn K mainGlobals "abs" = some none)
    (z_bool : PySem.W.nsIn K mainGlobals "bool" = some none)
    (z_int : PySem.W.nsIn K mainGlobals "int" = some none)
    (z_isinstance : PySem.W.nsIn K mainGlobals "isinstance" = some none)
    (z_len : PySem.W.nsIn K mainGlobals "len" = some none)
    (z_list : PySem.W.nsIn K mainGlobals "list" = some none)
    (z_range : PySem.W.nsIn K mainGlobals "range" = some none)
    (hl : ∀ ns : List Int, ns.length ≤ 63 → (∀ z ∈ ns, Builtin.Int.intBits z ≤ 1048576) → F_law [scrD ns] = .ok (.bool true)) :
    ∃ fd : FuncData, (∀ (s : Shared) (v : Value), BindsTo s fd ⟨[v], []⟩ [("script", v)]) ∧ ∀ base : Heap, K.In base → base.Ns mainGlobals mg → FnOk P w K mg base (L2.CX P w) 4 fa fd ["script"] (spLaw K) := by
  have e := hfa.symm.trans (PySem.W.mg_of X G a_law)
  cases e
  let xa : Nat → Addr := fun n => [C_HushError, C_OutOfRange, C_Malformed].getD n 0
  have XTh : XT K xa xcnt xsub := ⟨fun n h => match n, h with
    | 0, _ => ⟨x_HushError, k_HushError, b_HushError, t_HushError⟩
    | 1, _ => ⟨x_OutOfRange, k_OutOfRange, b_OutOfRange, t_OutOfRange⟩
    | 2, _ => ⟨x_Malformed, k_Malformed, b_Malformed, t_Malformed⟩
    | m + 3, h => absurd h (by unfold xcnt; omega), fun n m h1 h2 => match n, m, h1, h2 with
    | 0, 0, _, _ => kit_ref hd_HushError t_HushError s_HushError_HushError s_HushError_HushError
    | 0, 1, _, _ => kit_ref hd_OutOfRange t_OutOfRange s_HushError_OutOfRange s_OutOfRange_OutOfRange
    | 0, 2, _, _ => kit_ref hd_Malformed t_Malformed s_HushError_Malformed s_Malformed_Malformed
    | 1, 0, _, _ => kit_ref hd_HushError t_HushError s_OutOfRange_HushError s_HushError_HushError
    | 1, 1, _, _ => kit_ref hd_OutOfRange t_OutOfRange s_OutOfRange_OutOfRange s_OutOfRange_OutOfRange
    | 1, 2, _, _ => kit_ref hd_Malformed t_Malformed s_OutOfRange_Malformed s_Malformed_Malformed
    | 2, 0, _, _ => kit_ref hd_HushError t_HushError s_Malformed_HushError s_HushError_HushError
    | 2, 1, _, _ => kit_ref hd_OutOfRange t_OutOfRange s_Malformed_OutOfRange s_OutOfRange_OutOfRange
    | 2, 2, _, _ => kit_ref hd_Malformed t_Malformed s_Malformed_Malformed s_Malformed_Malformed
    | m + 3, _, h, _ => absurd h (by unfold xcnt; omega)
    | _, m + 3, _, h => absurd h (by unfold xcnt; omega), fun n m h1 h2 => match n, m, h1, h2 with
    | 0, 0, _, _ => PySem.W.exm_ref b_HushError hd_HushError t_HushError s_HushError_HushError
    | 0, 1, _, _ => PySem.W.exm_ref b_OutOfRange hd_OutOfRange t_OutOfRange s_HushError_OutOfRange
    | 0, 2, _, _ => PySem.W.exm_ref b_Malformed hd_Malformed t_Malformed s_HushError_Malformed
    | 1, 0, _, _ => PySem.W.exm_ref b_HushError hd_HushError t_HushError s_OutOfRange_HushError
    | 1, 1, _, _ => PySem.W.exm_ref b_OutOfRange hd_OutOfRange t_OutOfRange s_OutOfRange_OutOfRange
    | 1, 2, _, _ => PySem.W.exm_ref b_Malformed hd_Malformed t_Malformed s_OutOfRange_Malformed
    | 2, 0, _, _ => PySem.W.exm_ref b_HushError hd_HushError t_HushError s_Malformed_HushError
    | 2, 1, _, _ => PySem.W.exm_ref b_OutOfRange hd_OutOfRange t_OutOfRange s_Malformed_OutOfRange
    | 2, 2, _, _ => PySem.W.exm_ref b_Malformed hd_Malformed t_Malformed s_Malformed_Malformed
    | m + 3, _, h, _ => absurd h (by unfold xcnt; omega)
    | _, m + 3, _, h => absurd h (by unfold xcnt; omega), fun n h => match n, h with
    | 0, _ => ⟨ga_HushError, gg_HushError, b_HushError, hd_HushError, cl_HushError, sp_c, tk_c, mr_HushError⟩
    | 1, _ => ⟨ga_OutOfRange, gg_OutOfRange, b_OutOfRange, hd_OutOfRange, cl_OutOfRange, sp_c, tk_c, mr_OutOfRange⟩
    | 2, _ => ⟨ga_Malformed, gg_Malformed, b_Malformed, hd_Malformed, cl_Malformed, sp_c, tk_c, mr_Malformed⟩
    | m + 3, h => absurd h (by unfold xcnt; omega)⟩
  have x_HushError : mg "HushError" = some (.ref (xa 0)) := PySem.W.mg_of X G a_HushError
  have x_OutOfRange : mg "OutOfRange" = some (.ref (xa 1)) := PySem.W.mg_of X G a_OutOfRange
  have x_Malformed : mg "Malformed" = some (.ref (xa 2)) := PySem.W.mg_of X G a_Malformed
  have m_abs : mg "abs" = none := PySem.W.mg_none_of X G z_abs
  have m_bool : mg "bool" = none := PySem.W.mg_none_of X G z_bool
  have m_int : mg "int" = none := PySem.W.mg_none_of X G z_int
  have m_isinstance : mg "isinstance" = none := PySem.W.mg_none_of X G z_isinstance
  have m_len : mg "len" = none := PySem.W.mg_none_of X G z_len
  have m_list : mg "list" = none := PySem.W.mg_none_of X G z_list
  have m_range : mg "range" = none := PySem.W.mg_none_of X G z_range
  have FF_to_little := fun_mk (st := topS 5) l_to_little c_to_little k_to_little
  have b_to_little := FF_to_little.binds (ps := ["number", "size"]) fun _ _ _ _ _ _ us hl => match us, hl with | [_, _], _ => rfl
  have FF_to_big := fun_mk (st := topS 6) l_to_big c_to_big k_to_big
  have b_to_big := FF_to_big.binds (ps := ["number", "size"]) fun _ _ _ _ _ _ us hl => match us, hl with | [_, _], _ => rfl
  have FF_from_big := fun_mk (st := topS 8) l_from_big c_from_big k_from_big
  have b_from_big := FF_from_big.binds (ps := ["data"]) fun _ _ _ _ _ _ us hl => match us, hl with | [_], _ => rfl
  have FF_from_little := fun_mk (st := topS 7) l_from_little c_from_little k_from_little
  have b_from_little := FF_from_little.binds (ps := ["data"]) fun _ _ _ _ _ _ us hl => match us, hl with | [_], _ => rfl
  have FF__law_cell := fun_mk (st := topS 10) l__law_cell c__law_cell k__law_cell
  have b__law_cell := FF__law_cell.binds (ps := ["script", "k"]) fun _ _ _ _ _ _ us hl => match us, hl with | [_, _], _ => rfl
  have FF__law_is_bytes := fun_mk (st := topS 11) l__law_is_bytes c__law_is_bytes k__law_is_bytes
  have b__law_is_bytes := FF__law_is_bytes.binds (ps := ["value", "size"]) fun _ _ _ _ _ _ us hl => match us, hl with | [_, _], _ => rfl
  have FF__law_limit := fun_mk (st := topS 12) l__law_limit c__law_limit k__law_limit
  have b__law_limit := FF__law_limit.binds (ps := ["size"]) fun _ _ _ _ _ _ us hl => match us, hl with | [_], _ => rfl
  have FF__law_refused := fun_mk (st := topS 13) l__law_refused c__law_refused k__law_refused
  have b__law_refused := FF__law_refused.binds (ps := ["number", "size"]) fun _ _ _ _ _ _ us hl => match us, hl with | [_, _], _ => rfl
  have FF__law_read_back := fun_mk (st := topS 14) l__law_read_back c__law_read_back k__law_read_back
  have b__law_read_back := FF__law_read_back.binds (ps := ["little", "big", "number"]) fun _ _ _ _ _ _ us hl => match us, hl with | [_, _, _], _ => rfl
  have FF_law := fun_mk (st := topS 15) l_law c_law k_law
  refine ⟨PySem.W.fnOf "law" "law" (defArgs (topS 15)) (defBody (topS 15)) (defScope (topS 15)) .none kV_law dc_law pm_law an_law cd_law ct_law, fun s v => .of_eq rfl, fun base _ _ => ?_⟩
  have T_to_little : FnT P w K mg base xa "to_little" ["number", "size"] 1 false F_to_little := ⟨f_to_little, _, ok_to_little FF_to_little m_range XTh x_HushError x_OutOfRange x_Malformed, PySem.W.mg_of X G a_to_little, k_to_little, b_to_little⟩
  have T_to_big : FnT P w K mg base xa "to_big" ["number", "size"] 2 false F_to_big := ⟨f_to_big, _, ok_to_big FF_to_big T_to_little, PySem.W.mg_of X G a_to_big, k_to_big, b_to_big⟩
  have T_from_big : FnT P w K mg base xa "from_big" ["data"] 1 false F_from_big := ⟨f_from_big, _, ok_from_big FF_from_big , PySem.W.mg_of X G a_from_big, k_from_big, b_from_big⟩
  have T_from_little : FnT P w K mg base xa "from_little" ["data"] 2 false F_from_little := ⟨f_from_little, _, ok_from_little FF_from_little T_from_big, PySem.W.mg_of X G a_from_little, k_from_little, b_from_little⟩
  have T__law_cell : FnT P w K mg base xa "_law_cell" ["script", "k"] 1 false F__law_cell := ⟨f__law_cell, _, ok__law_cell FF__law_cell m_int m_len, PySem.W.mg_of X G a__law_cell, k__law_cell, b__law_cell⟩
  have T__law_is_bytes : FnT P w K mg base xa "_law_is_bytes" ["value", "size"] 1 false F__law_is_bytes := ⟨f__law_is_bytes, _, ok__law_is_bytes FF__law_is_bytes m_bool m_int m_isinstance m_len m_list, PySem.W.mg_of X G a__law_is_bytes, k__law_is_bytes, b__law_is_bytes⟩
  have T__law_limit : FnT P w K mg base xa "_law_limit" ["size"] 1 false F__law_limit := ⟨f__law_limit, _, ok__law_limit FF__law_limit m_range, PySem.W.mg_of X G a__law_limit, k__law_limit, b__law_limit⟩
  have T__law_refused : FnT P w K mg base xa "_law_refused" ["number", "size"] 3 false F__law_refused := ⟨f__law_refused, _, ok__law_refused FF__law_refused T_to_big T_to_little m_isinstance XTh x_HushError x_OutOfRange x_Malformed, PySem.W.mg_of X G a__law_refused, k__law_refused, b__law_refused⟩
  have T__law_read_back : FnT P w K mg base xa "_law_read_back" ["little", "big", "number"] 3 false F__law_read_back := ⟨f__law_read_back, _, ok__law_read_back FF__law_read_back T_from_big T_from_little m_bool m_int m_isinstance m_list, PySem.W.mg_of X G a__law_read_back, k__law_read_back, b__law_read_back⟩
  exact law_ok (xa := xa) (ok_law FF_law T__law_cell T__law_is_bytes T__law_limit T__law_read_back T__law_refused T_to_big T_to_little m_abs m_range) hl
end L2.FL.K00

set_option linter.all false
set_option maxRecDepth 100000
set_option maxHeartbeats 4000000
namespace L2.FL.K00
open PySem PySem.Spec PyProof.Rows
local macro_rules | `(tactic| walk_at "ev") => `(tactic| simp only [sSeq, seq_nx, seq_rt, seq_ex, seq_bad, seq_bk, seq_ct, sIf, sSetV, sSetS, sSetO, sSetOS, sRet, sRetF, sRetOwn, sRetN, sNil, sRaise, sDrop, sMeth, isOwn, sAppV, sAppS, appO, sExtV, sExtS, extO, sStS, stO, sAug, sAugIx, cR_nil, cR_cons, cR_consT, sFor, sForR, sFz, sUnp, sPar, out_ok, out_ex, out_bad, bind_ok, bind_ex, bind_bad, map_ok, map_ex, map_bad, nox_ok, eVar, eC, e1, e2, e2F, e2FF, eB, toB, bAnd, bOr, bNot, eAnd, eOr, eNot, eIf, eChain, eFit, eTup, asNil, asCons, eRev, eSlice, eNo, eSo, eIsi, eComp, compR, iL, iT, iR1_eq, iR2_eq, rg1_i, rg2_i, rng1_of, rng2_of, iR3_eq, rg3_i, iZ, iE, gAdd_ii, gSub_ii, gMul_ii, gDiv_s, gMod_s, gPow_s, gShl_ii, gShr_s, gAnd_ii, gOr_ii, gXor_ii, gLt_ii, gLe_ii, gGt_ii, gGe_ii, beq_self_eq_true, gEq_ii, gNe_ii, gNeg, gInv, gBits, gLen, gAbs, gMin, gMax, gInt, gList, gTuple, gIsN, gNotN, cYes, scal, asL, fzT_nil, fzT_cons, Sl.fz, Tg.parts, Tg.is, setE, lp_nil, lp_cons, lpk_nx, lpk_ct, lpk_bk, lpk_rt, lpk_ex, lpk_bad, fa0, fa1, fa2, fa3, fa4, fa5, fa6, fin_rt, fin_nx, fin_ex, fin_bk, fin_ct, fin_bad, onlyL_list, runL, asL, isInt, isBool, isList, sTry_eq, tryK_ex, tryK_nx, tryK_rt, tryK_bk, tryK_ct, noExc_nil, noExc_val, noExc_own, noExc_no, Out.tryEnd, eIsE, fit, xcnt, xsub, and_self, and_true, true_and, false_and, and_false, Nat.reduceMul, Int.reduceLE, Int.reduceLT, Int.reduceToNat, Int.reduceAdd, Int.reduceSub, Int.reduceMul, Int.reducePow, Nat.reducePow, Int.reduceNeg, Int.reduceBEq, Bool.or_false, Bool.false_or, Bool.or_true, Bool.true_or, Bool.and_true, Bool.true_and, List.getD_cons_zero, List.getD_cons_succ,
  List.getElem?_cons_zero, List.getElem?_cons_succ, List.set_cons_zero, List.set_cons_succ, List.map_cons, List.map_nil, List.length_cons, List.length_nil, List.cons_append, List.nil_append, List.replicate_succ, List.replicate_zero, decide_true, decide_false, Bool.not_true, Bool.not_false, if_true, if_false, Bool.false_eq_true, decide_eq_true_eq, ite_true, ite_false, reduceIte, Nat.reduceAdd, Nat.reduceSub, Nat.reduceLT, Nat.reduceLeDiff, Nat.zero_add])
local macro_rules | `(tactic| walk_at "evh") => `(tactic| simp only [sSeq, seq_nx, seq_rt, seq_ex, seq_bad, seq_bk, seq_ct, sIf, sSetV, sSetS, sSetO, sSetOS, sRet, sRetF, sRetOwn, sRetN, sNil, sRaise, sDrop, sMeth, isOwn, sAppV, sAppS, appO, sExtV, sExtS, extO, sStS, stO, sAug, sAugIx, cR_nil, cR_cons, cR_consT, sFor, sForR, sFz, sUnp, sPar, out_ok, out_ex, out_bad, bind_ok, bind_ex, bind_bad, map_ok, map_ex, map_bad, nox_ok, eVar, eC, e1, e2, e2F, e2FF, eB, toB, bAnd, bOr, bNot, eAnd, eOr, eNot, eIf, eChain, eFit, eTup, asNil, asCons, eRev, eSlice, eNo, eSo, eIsi, eComp, compR, iL, iT, iR1_eq, iR2_eq, rg1_i, rg2_i, rng1_of, rng2_of, iR3_eq, rg3_i, iZ, iE, gAdd_ii, gSub_ii, gMul_ii, gDiv_s, gMod_s, gPow_s, gShl_ii, gShr_s, gAnd_ii, gOr_ii, gXor_ii, gLt_ii, gLe_ii, gGt_ii, gGe_ii, beq_self_eq_true, gEq_ii, gNe_ii, gNeg, gInv, gBits, gLen, gAbs, gMin, gMax, gInt, gList, gTuple, gIsN, gNotN, cYes, scal, asL, fzT_nil, fzT_cons, Sl.fz, Tg.parts, Tg.is, setE, lp_nil, lp_cons, lpk_nx, lpk_ct, lpk_bk, lpk_rt, lpk_ex, lpk_bad, fa0, fa1, fa2, fa3, fa4, fa5, fa6, fin_rt, fin_nx, fin_ex, fin_bk, fin_ct, fin_bad, onlyL_list, runL, asL, isInt, isBool, isList, sTry_eq, tryK_ex, tryK_nx, tryK_rt, tryK_bk, tryK_ct, noExc_nil, noExc_val, noExc_own, noExc_no, Out.tryEnd, eIsE, fit, xcnt, xsub, and_self, and_true, true_and, false_and, and_false, Nat.reduceMul, Int.reduceLE, Int.reduceLT, Int.reduceToNat, Int.reduceAdd, Int.reduceSub, Int.reduceMul, Int.reducePow, Nat.reducePow, Int.reduceNeg, Int.reduceBEq, Bool.or_false, Bool.false_or, Bool.or_true, Bool.true_or, Bool.and_true, Bool.true_and, List.getD_cons_zero, List.getD_cons_succ,
  List.getElem?_cons_zero, List.getElem?_cons_succ, List.set_cons_zero, List.set_cons_succ, List.map_cons, List.map_nil, List.length_cons, List.length_nil, List.cons_append, List.nil_append, List.replicate_succ, List.replicate_zero, decide_true, decide_false, Bool.not_true, Bool.not_false, if_true, if_false, Bool.false_eq_true, decide_eq_true_eq, ite_true, ite_false, reduceIte, Nat.reduceAdd, Nat.reduceSub, Nat.reduceLT, Nat.reduceLeDiff, Nat.zero_add, *])
/-! to_little, to_big, from_big, from_little -/
theorem tl_loop (n : Sl) (k : Sl) : ∀ (ds : List D) (acc : List D) (m : Int) (x : Sl), acc.length + ds.length ≤ 16777216 →
    ∃ m' x', loopF (.nm 4) L_to_little_1 ds [n, k, .own acc, .val (.int m), x] = .nx [n, k, .own (acc ++ (tl ds.length m).map .int), .val (.int m'), x']
  | [], acc, m, x, _ => ⟨m, x, by
    show Out.nx _ = _
    rw [show (tl ([] : List D).length m).map PyData.int = [] from rfl, List.append_nil]⟩
  | d :: ds, acc, m, x, h => by
    have hl : acc.length < 16777216 := by
      rw [List.length_cons] at h
      omega
    obtain ⟨m', x', e⟩ := tl_loop n k ds (acc ++ [.int (m % 256)]) (m / 256) (.val d) (by
      rw [List.length_append, List.length_singleton]
      rw [List.length_cons] at h
      omega)
    refine ⟨m', x', ?_⟩
    have step : L_to_little_1 [n, k, .own acc, .val (.int m), .val d] = .nx [n, k, .own (acc ++ [.int (m % 256)]), .val (.int (m / 256)), .val d] := by
      unfold L_to_little_1
      walk_at "ev"
      rw [if_pos hl]
      walk_at "ev"
      rw [and_255]
    walk_at "ev"
    rw [step]
    rw [lpk_nx, e, List.append_assoc]
    rfl
theorem to_little_eq {n k : Int} (h0 : 0 ≤ k) (hk : k ≤ 10000) : F_to_little [.int n, .int k] = if 0 ≤ n ∧ n < 256 ^ k.toNat then .ok (.list ((tl k.toNat n).map .int)) else .ex 1 := by
  have hb : Builtin.Int.intBits 8 + Builtin.Int.intBits k ≤ 134217728 := by
    have h1 : Builtin.Int.intBits 8 ≤ 4 := bits_le_iff.mpr (by decide)
    have h2 : Builtin.Int.intBits k ≤ 20 := bits_le_iff.mpr (by
      have : (2 : Nat) ^ 20 = 1048576 := by decide
      omega)
    omega
  have hc : k ≤ 1000000 := by omega
  unfold F_to_little B_to_little
  by_cases hn : n < 0
  · rw [if_neg (show ¬ (0 ≤ n ∧ n < 256 ^ k.toNat) by omega)]
    walk_at "evh"
  · have key : (8 * k < (Builtin.Int.intBits n : Nat)) ↔ ¬ n < 256 ^ k.toNat := by
      rw [← natAbs_lt_pow (by omega), ← bits_le_iff]
      omega
    by_cases hs : n < 256 ^ k.toNat
    · have hs' : ¬ 8 * k < ((Builtin.Int.intBits n : Nat) : Int) := fun q => key.mp q hs
      clear key
      rw [if_pos ⟨by omega, hs⟩]
      have hc2 : -4611686018427387904 ≤ k ∧ k < 4611686018427387904 := by omega
      walk_at "evh"
      obtain ⟨m', x', e⟩ := tl_loop (.val (.int n)) (.val (.int k)) (rngD 0 1 k.toNat) [] n .no (by
        rw [rngD_length, List.length_nil]
        omega)
      rw [e, rngD_length, List.nil_append]
      walk_at "ev"
    · have hs' : 8 * k < ((Builtin.Int.intBits n : Nat) : Int) := key.mpr hs
      clear key
      rw [if_neg (by omega)]
      walk_at "evh"
theorem to_big_eq {n k : Int} (h0 : 0 ≤ k) (hk : k ≤ 10000) : F_to_big [.int n, .int k] = if 0 ≤ n ∧ n < 256 ^ k.toNat then .ok (.list ((tl k.toNat n).reverse.map .int)) else .ex 1 := by
  unfold F_to_big
  simp only [fa0, fa1, fa2, fa3, fa4, fa5, fa6]
  unfold B_to_big
  walk_at "ev"
  rw [to_little_eq h0 hk]
  by_cases h : 0 ≤ n ∧ n < 256 ^ k.toNat
  · rw [if_pos h, if_pos h]
    walk_at "ev"
    rw [List.map_reverse]
  · rw [if_neg h, if_neg h]
    walk_at "ev"
theorem fb_step (a : Sl) {acc b : Int} {j : Nat} (h0 : 0 ≤ acc) (hj : acc < 256 ^ j) (hl : j ≤ 10000) (b0 : 0 ≤ b) (b1 : b < 256) : L_from_big_1 [a, .val (.int acc), .val (.int b)] = .nx [a, .val (.int (acc * 256 + b)), .val (.int b)] := by
  have hs : Builtin.Int.intBits acc ≤ 134217720 := by
    have : Builtin.Int.intBits acc ≤ 8 * j := bits_le_iff.mpr ((natAbs_lt_pow h0).mpr hj)
    omega
  unfold L_from_big_1
  walk_at "ev"
  rw [if_pos hs]
  walk_at "ev"
  have ho := or_low (k := 8) h0 b0 (by rw [show (2 : Int) ^ 8 = 256 from by decide]; exact b1)
  rw [show (2 : Int) ^ 8 = 256 from by decide] at ho
  rw [ho]
theorem fb_val (acc b x y : Int) : (acc * 256 + b) * x + y = acc * (x * 256) + (y + x * (b + 256 * 0)) := by
  rw [Int.mul_zero, Int.add_zero, Int.add_mul, Int.mul_assoc, Int.mul_comm 256 x, Int.mul_comm b]
  omega
theorem fb_loop (a : Sl) : ∀ (bs : List Int) (acc : Int) (j : Nat) (x : Sl), (∀ b ∈ bs, 0 ≤ b ∧ b < 256) → 0 ≤ acc → acc < 256 ^ j → j + bs.length ≤ 10000 →
    ∃ x', loopF (.nm 2) L_from_big_1 (bs.map .int) [a, .val (.int acc), x] = .nx [a, .val (.int (acc * 256 ^ bs.length + ofL bs.reverse)), x']
  | [], acc, j, x, _, _, _, _ => ⟨x, by
    show Out.nx _ = _
    rw [show ([] : List Int).length = 0 from rfl, Int.pow_zero, Int.mul_one]
    rw [show ofL ([] : List Int).reverse = 0 from rfl, Int.add_zero]⟩
  | b :: bs, acc, j, x, hb, h0, hj, hl => by
    obtain ⟨b0, b1⟩ := hb b List.mem_cons_self
    rw [List.length_cons] at hl
    have e1 : (256 : Int) ^ (j + 1) = 256 ^ j * 256 := Int.pow_succ _ _
    obtain ⟨x', e⟩ := fb_loop a bs (acc * 256 + b) (j + 1) (.val (.int b)) (fun y hy => hb y (List.mem_cons_of_mem _ hy)) (by omega) (by omega) (by omega)
    refine ⟨x', ?_⟩
    rw [List.map_cons, lp_cons]
    walk_at "ev"
    rw [fb_step a h0 hj (by omega) b0 b1, lpk_nx, e, List.reverse_cons, ofL_append, List.length_reverse, Int.pow_succ]
    rw [show ofL [b] = b + 256 * 0 from rfl, fb_val]
theorem from_big_eq {bs : List Int} (hb : ∀ b ∈ bs, 0 ≤ b ∧ b < 256) (hl : bs.length ≤ 10000) : F_from_big [.list (bs.map .int)] = .ok (.int (ofL bs.reverse)) := by
  unfold F_from_big
  simp only [fa0, fa1, fa2, fa3, fa4, fa5, fa6]
  unfold B_from_big
  walk_at "ev"
  obtain ⟨x', e⟩ := fb_loop (.val (.list (bs.map .int))) bs 0 0 .no hb (Int.le_refl _) (by decide) (by omega)
  rw [e, Int.zero_mul, Int.zero_add]
  walk_at "ev"
theorem from_little_eq {bs : List Int} (hb : ∀ b ∈ bs, 0 ≤ b ∧ b < 256) (hl : bs.length ≤ 10000) : F_from_little [.list (bs.map .int)] = .ok (.int (ofL bs)) := by
  unfold F_from_little
  simp only [fa0, fa1, fa2, fa3, fa4, fa5, fa6]
  unfold B_from_little
  walk_at "ev"
  rw [← List.map_reverse, from_big_eq (fun b h => hb b (List.mem_reverse.mp h)) (by rw [List.length_reverse]; exact hl), List.reverse_reverse]
  walk_at "ev"
/-! the law's own -/
theorem cell_eq (ns : List Int) (k : Nat) : F__law_cell [scrD ns, .int (k : Int)] = .ok (.int (cell ns k)) := by
  unfold F__law_cell B__law_cell
  by_cases h : k < ns.length
  · have h1 : (k : Int) < (ns.length : Nat) := by omega
    have h2 := gIx_scr (List.getElem?_eq_getElem h)
    walk_at "evh"
    rw [List.length_map, if_pos h1]
    walk_at "evh"
    unfold cell
    rw [List.getD_eq_getElem?_getD, List.getElem?_eq_getElem h]
    rfl
  · have h1 : ¬ (k : Int) < (ns.length : Nat) := by omega
    walk_at "evh"
    rw [List.length_map, if_neg h1]
    walk_at "evh"
    unfold cell
    rw [List.getD_eq_getElem?_getD, List.getElem?_eq_none (by omega)]
    rfl
theorem limit_loop (a : Sl) : ∀ (ds : List D) (j : Nat) (x : Sl), j + ds.length ≤ 10000 → ∃ x', loopF (.nm 2) L__law_limit_1 ds [a, .val (.int (256 ^ j)), x] = .nx [a, .val (.int (256 ^ (j + ds.length))), x']
  | [], j, x, _ => ⟨x, rfl⟩
  | d :: ds, j, x, h => by
    rw [List.length_cons] at h
    obtain ⟨x', e⟩ := limit_loop a ds (j + 1) (.val d) (by omega)
    refine ⟨x', ?_⟩
    have hm : Builtin.Int.intBits (256 ^ j) + Builtin.Int.intBits 256 ≤ 134217728 := by
      have h1 : Builtin.Int.intBits (256 ^ j) ≤ 8 * (j + 1) := bits_le_iff.mpr ((natAbs_lt_pow (Int.le_of_lt (pow256_pos j))).mpr (by
        rw [Int.pow_succ]
        have := pow256_pos j
        omega))
      have h2 : Builtin.Int.intBits 256 ≤ 9 := bits_le_iff.mpr (by decide)
      omega
    have step : L__law_limit_1 [a, .val (.int (256 ^ j)), .val d] = .nx [a, .val (.int (256 ^ (j + 1))), .val d] := by
      unfold L__law_limit_1
      walk_at "ev"
      rw [if_pos hm]
      walk_at "ev"
      rw [Int.pow_succ]
    walk_at "ev"
    rw [step]
    rw [lpk_nx, e, show j + 1 + ds.length = j + (ds.length + 1) by omega]
theorem limit_eq {k : Int} (h0 : 0 ≤ k) (hk : k ≤ 10000) : F__law_limit [.int k] = .ok (.int (256 ^ k.toNat)) := by
  unfold F__law_limit
  simp only [fa0, fa1, fa2, fa3, fa4, fa5, fa6]
  unfold B__law_limit
  walk_at "ev"
  rw [rng1_of h0 (by omega)]
  walk_at "ev"
  obtain ⟨x', e⟩ := limit_loop (.val (.int k)) (rngD 0 1 k.toNat) 0 .no (by rw [rngD_length]; omega)
  rw [rngD_length, Nat.zero_add, Int.pow_zero] at e
  rw [e]
  walk_at "ev"
theorem isb_loop (a s : Sl) : ∀ (bs : List Int) (x : Sl), (∀ b ∈ bs, 0 ≤ b ∧ b < 256) → ∃ x', loopF (.nm 2) L__law_is_bytes_1 (bs.map .int) [a, s, x] = .nx [a, s, x']
  | [], x, _ => ⟨x, rfl⟩
  | b :: bs, x, h => by
    obtain ⟨b0, b1⟩ := h b List.mem_cons_self
    obtain ⟨x', e⟩ := isb_loop a s bs (.val (.int b)) fun y hy => h y (List.mem_cons_of_mem _ hy)
    refine ⟨x', ?_⟩
    have step : L__law_is_bytes_1 [a, s, .val (.int b)] = .nx [a, s, .val (.int b)] := by
      unfold L__law_is_bytes_1
      have h1 : ¬ b < 0 := by omega
      have h2 : ¬ 255 < b := by omega
      clear e h
      walk_at "evh"
    rw [List.map_cons]
    walk_at "ev"
    rw [step, lpk_nx]
    exact e
theorem is_bytes_eq {bs : List Int} {k : Int} (hb : ∀ b ∈ bs, 0 ≤ b ∧ b < 256) (hl : (bs.length : Int) = k) : F__law_is_bytes [.list (bs.map .int), .int k] = .ok (.bool true) := by
  unfold F__law_is_bytes
  simp only [fa0, fa1, fa2, fa3, fa4, fa5, fa6]
  unfold B__law_is_bytes
  walk_at "ev"
  rw [List.length_map, hl, beq_self_eq_true]
  walk_at "ev"
  obtain ⟨x', e⟩ := isb_loop (.val (.list (bs.map .int))) (.val (.int k)) bs .no hb
  rw [e]
  walk_at "ev"
theorem refused_eq {n k : Int} (h0 : 0 ≤ k) (hk : k ≤ 10000) (h : ¬ (0 ≤ n ∧ n < 256 ^ k.toNat)) : F__law_refused [.int n, .int k] = .ok (.bool true) := by
  have e1 := to_little_eq (n := n) h0 hk
  have e2 := to_big_eq (n := n) h0 hk
  rw [if_neg h] at e1 e2
  clear h
  unfold F__law_refused B__law_refused
  walk_at "evh"
theorem rb_step {a b n x y z w : Sl} {m : Int} (hn : n = .val (.int m)) : L__law_read_back_1 [a, b, n, x, y, z, w, .val (.int m)] = .nx [a, b, n, x, y, z, w, .val (.int m)] := by
  subst hn
  unfold L__law_read_back_1
  walk_at "ev"
theorem read_back_eq {n : Int} {k : Nat} (hk : k ≤ 10000) (h0 : 0 ≤ n) (h : n < 256 ^ k) : F__law_read_back [.list ((tl k n).map .int), .list ((tl k n).reverse.map .int), .int n] = .ok (.bool true) := by
  have hb := tl_byte k n
  have e1 := from_little_eq (bs := tl k n) hb (by rw [tl_length]; exact hk)
  have e2 := from_big_eq (bs := (tl k n).reverse) (fun b h => hb b (List.mem_reverse.mp h)) (by rw [List.length_reverse, tl_length]; exact hk)
  rw [List.reverse_reverse] at e2
  rw [ofL_tl k n h0 h] at e1 e2
  unfold F__law_read_back
  simp only [fa0, fa1, fa2, fa3, fa4, fa5, fa6]
  unfold B__law_read_back
  walk_at "ev"
  rw [e1]
  walk_at "ev"
  rw [e2]
  walk_at "ev"
  rw [gNe_ll, gNe_ll, decide_eq_true rfl, decide_eq_true rfl]
  walk_at "ev"
  rw [rb_step rfl]
  walk_at "ev"
  rw [rb_step rfl]
  walk_at "ev"
theorem law_loop {s kd lm bs nm : Sl} {k : Nat} {n : Int} : ∀ (m i : Nat) (x : Sl), i + m = k → k ≤ 10000 → 0 ≤ n → n < 256 ^ k →
    ∃ x', loopF (.nm 10) L_law_1 ((rngD 0 1 k).drop i) [s, .val (.int (k : Int)), kd, lm, bs, nm, .val (.list ((tl k n).map .int)), .val (.list ((tl k n).reverse.map .int)), .val (.int (ofL ((tl k n).take i))), .val (.int (256 ^ i)), x]
      = .nx [s, .val (.int (k : Int)), kd, lm, bs, nm, .val (.list ((tl k n).map .int)), .val (.list ((tl k n).reverse.map .int)), .val (.int n), .val (.int (256 ^ k)), x']
  | 0, i, x, e, hk, h0, h => ⟨x, by
    have ei : i = k := by omega
    subst ei
    rw [List.drop_of_length_le (by rw [rngD_length]; exact Nat.le_refl _), List.take_of_length_le (by rw [tl_length]; exact Nat.le_refl _), ofL_tl i n h0 h]
    rfl⟩
  | m + 1, i, x, e, hk, h0, h => by
    have hi : i < k := by omega
    have hit : i < (tl k n).length := by rw [tl_length]; exact hi
    obtain ⟨x', q⟩ := law_loop m (i + 1) (.val (.int (i : Int))) (by omega) hk h0 h
    refine ⟨x', ?_⟩
    have hb : 0 ≤ (tl k n)[i] ∧ (tl k n)[i] < 256 := tl_byte k n _ (List.getElem_mem _)
    have hd : (rngD 0 1 k).drop i = .int (i : Int) :: (rngD 0 1 k).drop (i + 1) := by
      have hl : i < (rngD 0 1 k).length := by rw [rngD_length]; exact hi
      rw [List.drop_eq_getElem_cons hl]
      congr 1
      have := rngD_get (List.getElem?_eq_getElem hl)
      rw [this]
      congr 1
      omega
    have g1 : gIx (.list ((tl k n).map .int)) (.int (i : Int)) = .ok (.int (tl k n)[i]) := gIx_ints (List.getElem?_eq_getElem hit)
    have g2 : gIx (.list ((tl k n).reverse.map .int)) (.int ((k : Int) - 1 - (i : Int))) = .ok (.int (tl k n)[i]) := by
      have e3 : (k : Int) - 1 - (i : Int) = ((k - 1 - i : Nat) : Int) := by omega
      rw [e3]
      refine gIx_ints ?_
      rw [List.getElem?_reverse (by rw [tl_length]; omega), tl_length, show k - 1 - (k - 1 - i) = i by omega]
      exact List.getElem?_eq_getElem hit
    have hm1 : Builtin.Int.intBits (tl k n)[i] + Builtin.Int.intBits (256 ^ i) ≤ 134217728 := by
      have q1 : Builtin.Int.intBits (tl k n)[i] ≤ 8 := bits_le_iff.mpr (by
        have : (2 : Nat) ^ 8 = 256 := by decide
        omega)
      have q2 : Builtin.Int.intBits (256 ^ i) ≤ 8 * (i + 1) := bits_le_iff.mpr ((natAbs_lt_pow (Int.le_of_lt (pow256_pos i))).mpr (by
        rw [Int.pow_succ]
        have := pow256_pos i
        omega))
      omega
    have hm2 : Builtin.Int.intBits (256 ^ i) + Builtin.Int.intBits 256 ≤ 134217728 := by
      have q2 : Builtin.Int.intBits (256 ^ i) ≤ 8 * (i + 1) := bits_le_iff.mpr ((natAbs_lt_pow (Int.le_of_lt (pow256_pos i))).mpr (by
        rw [Int.pow_succ]
        have := pow256_pos i
        omega))
      have h2 : Builtin.Int.intBits 256 ≤ 9 := bits_le_iff.mpr (by decide)
      omega
    have step : L_law_1 [s, .val (.int (k : Int)), kd, lm, bs, nm, .val (.list ((tl k n).map .int)), .val (.list ((tl k n).reverse.map .int)), .val (.int (ofL ((tl k n).take i))), .val (.int (256 ^ i)), .val (.int (i : Int))]
        = .nx [s, .val (.int (k : Int)), kd, lm, bs, nm, .val (.list ((tl k n).map .int)), .val (.list ((tl k n).reverse.map .int)), .val (.int (ofL ((tl k n).take (i + 1)))), .val (.int (256 ^ (i + 1))), .val (.int (i : Int))] := by
      unfold L_law_1
      walk_at "ev"
      rw [g1]
      walk_at "ev"
      rw [g2]
      walk_at "ev"
      rw [g1]
      walk_at "ev"
      rw [if_pos hm1]
      walk_at "ev"
      rw [if_pos hm2]
      walk_at "ev"
      rw [Int.pow_succ, List.take_add_one, List.getElem?_eq_getElem hit]
      rw [show (some (tl k n)[i]).toList = [(tl k n)[i]] from rfl, ofL_append, List.length_take, Nat.min_eq_left (Nat.le_of_lt hit), show ofL [(tl k n)[i]] = (tl k n)[i] + 256 * 0 from rfl, Int.mul_zero, Int.add_zero, Int.mul_comm (256 ^ i) (tl k n)[i]]
    rw [hd]
    walk_at "ev"
    rw [step, lpk_nx]
    exact q
theorem law_true (ns : List Int) (_ : ns.length ≤ 63) (_ : ∀ z ∈ ns, Builtin.Int.intBits z ≤ 1048576) : F_law [scrD ns] = .ok (.bool true) := by
  have c0 : F__law_cell [scrD ns, .int 0] = _ := cell_eq ns 0
  have c1 : F__law_cell [scrD ns, .int 1] = _ := cell_eq ns 1
  have c2 : F__law_cell [scrD ns, .int 2] = _ := cell_eq ns 2
  generalize cell ns 0 = a0 at c0
  generalize cell ns 1 = a1 at c1
  generalize cell ns 2 = a2 at c2
  have k0 : 0 ≤ a0 % 41 := Int.emod_nonneg _ (by decide)
  have k1 : a0 % 41 ≤ 10000 := by omega
  obtain ⟨k, hk⟩ := Int.eq_ofNat_of_zero_le k0
  have hk2 : k ≤ 10000 := by omega
  have kl : F__law_limit [.int (k : Int)] = .ok (.int (256 ^ k)) := limit_eq (k := k) (by omega) (by omega)
  have hp : (0 : Int) < 256 ^ k := pow256_pos _
  have rk : rng1 (k : Int) = .ok (rngD 0 1 k) := rng1_of (by omega) (by omega)
  have core : ∀ n : Int, 0 ≤ n → n < 256 ^ k → F_to_little [.int n, .int (k : Int)] = .ok (.list ((tl k n).map .int)) ∧ F_to_big [.int n, .int (k : Int)] = .ok (.list ((tl k n).reverse.map .int)) ∧ F__law_is_bytes [.list ((tl k n).map .int), .int (k : Int)] = .ok (.bool true) ∧ F__law_is_bytes [.list ((tl k n).reverse.map .int), .int (k : Int)] = .ok (.bool true) ∧ F__law_read_back [.list ((tl k n).map .int), .list ((tl k n).reverse.map .int), .int n] = .ok (.bool true) := fun n h0 h => by
    have hb := tl_byte k n
    have r1 := to_little_eq (n := n) (k := k) (by omega) (by omega)
    have r2 := to_big_eq (n := n) (k := k) (by omega) (by omega)
    rw [if_pos ⟨h0, h⟩] at r1 r2
    exact ⟨r1, r2, is_bytes_eq hb (by rw [tl_length]), is_bytes_eq (fun b h => hb b (List.mem_reverse.mp h)) (by rw [List.length_reverse, tl_length]), read_back_eq hk2 h0 h⟩
  have lp : ∀ (s kd lm bs nm : Sl) (n : Int), 0 ≤ n → n < 256 ^ k → ∃ x', loopF (.nm 10) L_law_1 (rngD 0 1 k) [s, .val (.int (k : Int)), kd, lm, bs, nm, .val (.list ((tl k n).map .int)), .val (.list ((tl k n).reverse.map .int)), .val (.int 0), .val (.int 1), .no]
      = .nx [s, .val (.int (k : Int)), kd, lm, bs, nm, .val (.list ((tl k n).map .int)), .val (.list ((tl k n).reverse.map .int)), .val (.int n), .val (.int (256 ^ k)), x'] := fun s kd lm bs nm n h0 h =>
    law_loop (s := s) (kd := kd) (lm := lm) (bs := bs) (nm := nm) k 0 .no (by omega) hk2 h0 h
  have tn : ((k : Int)).toNat = k := Int.toNat_natCast k
  have ab : 0 ≤ (if a2 < 0 then -a2 else a2) % 1000000000000000000000000000000000000000000000000000000000000 := Int.emod_nonneg _ (by decide)
  generalize hbs : (if a2 < 0 then -a2 else a2) % 1000000000000000000000000000000000000000000000000000000000000 = bs at ab
  generalize hd : a0 / 41 % 8 = d
  have z8 : (0 : Int) < 8 := by decide
  clear k1
  by_cases q1 : d < 2
  · have q2 : (d == 2) = false := beq_false_of_ne (by omega)
    have q3 : (d == 3) = false := beq_false_of_ne (by omega)
    obtain ⟨r1, r2, r3, r4, r5⟩ := core (256 ^ k - 1) (by omega) (by omega)
    have lq := fun s kd lm bs nm => lp s kd lm bs nm (256 ^ k - 1) (by omega) (by omega)
    clear core lp
    unfold F_law B_law
    walk_at "evh"
    obtain ⟨x', q⟩ := lq (.val (scrD ns)) (.val (.int d)) (.val (.int (256 ^ k))) (.val (.int bs)) (.val (.int (256 ^ k - 1)))
    rw [q]
    walk_at "evh"
  · by_cases q2 : d = 2
    · have q4 : (d == 2) = true := by rw [q2]; rfl
      have rf := refused_eq (n := 256 ^ k + bs) (k := k) (by omega) (by omega) (by rw [tn]; omega)
      clear core lp q2
      unfold F_law B_law
      walk_at "evh"
    · have q4 : (d == 2) = false := beq_false_of_ne q2
      by_cases q3 : d = 3
      · have q5 : (d == 3) = true := by rw [q3]; rfl
        have rf := refused_eq (n := -1 - bs) (k := k) (by omega) (by omega) (by omega)
        clear core lp q2 q3
        unfold F_law B_law
        walk_at "evh"
      · have q5 : (d == 3) = false := beq_false_of_ne q3
        have n0 : 0 ≤ a1 % 256 ^ k := Int.emod_nonneg _ (by omega)
        have n1 : a1 % 256 ^ k < 256 ^ k := Int.emod_lt_of_pos _ hp
        obtain ⟨r1, r2, r3, r4, r5⟩ := core _ n0 n1
        have lq := fun s kd lm bs nm => lp s kd lm bs nm _ n0 n1
        clear core lp q2 q3
        unfold F_law B_law
        walk_at "evh"
        obtain ⟨x', q⟩ := lq (.val (scrD ns)) (.val (.int d)) (.val (.int (256 ^ k))) (.val (.int bs)) (.val (.int (a1 % 256 ^ k)))
        rw [q]
        walk_at "evh"
end L2.FL.K00

set_option Elab.async false
set_option maxRecDepth 100000
open PySem PySem.W PyProof.Rows
set_option maxHeartbeats 0 in
theorem PySem.Challenge.cw_hushlink_k00_orders_of_numbers_holds : PySem.Challenge.rw_hushlink_k00_orders_of_numbers.Holds := by
  w_on; o_law; k_head; (case hw => w_witness2)
  k_fill
  refine L2.walk_ofB (l := PySem.Challenge.rw_hushlink_k00_orders_of_numbers) (n := 63) (k := 4) (x := "script") (CX := fun w => L2.CX PySem.Challenge.rw_hushlink_k00_orders_of_numbers.prog w) (sp := fun w => L2.FL.spLaw _) rfl (by decide) rfl ⟨rfl, by decide, by decide⟩ (fun w h Y => PySem.W.kIn_of Y) ?F (fun _ _ a ns hl hb _ hS => ⟨a, ns, rfl, hS, hl, hb, fun _ => rfl⟩) (fun _ _ _ _ _ h => L2.FL.cx_never h)
  case F =>
    intro w mg fa h KX G hmg
    refine' L2.FL.K00.all_mk KX G hmg ?a_HushError ?x_HushError ?k_HushError ?b_HushError ?t_HushError ?ga_HushError ?gg_HushError ?hd_HushError ?cl_HushError ?mr_HushError ?a_OutOfRange ?x_OutOfRange ?k_OutOfRange ?b_OutOfRange ?t_OutOfRange ?ga_OutOfRange ?gg_OutOfRange ?hd_OutOfRange ?cl_OutOfRange ?mr_OutOfRange ?a_Malformed ?x_Malformed ?k_Malformed ?b_Malformed ?t_Malformed ?ga_Malformed ?gg_Malformed ?hd_Malformed ?cl_Malformed ?mr_Malformed ?s_HushError_HushError ?s_HushError_OutOfRange ?s_HushError_Malformed ?s_OutOfRange_HushError ?s_OutOfRange_OutOfRange ?s_OutOfRange_Malformed ?s_Malformed_HushError ?s_Malformed_OutOfRange ?s_Malformed_Malformed ?sp_c ?tk_c ?a_to_little ?l_to_little ?c_to_little ?k_to_little ?a_to_big ?l_to_big ?c_to_big ?k_to_big ?a_from_big ?l_from_big ?c_from_big ?k_from_big ?a_from_little ?l_from_little ?c_from_little ?k_from_little ?a__law_cell ?l__law_cell ?c__law_cell ?k__law_cell ?a__law_is_bytes ?l__law_is_bytes ?c__law_is_bytes ?k__law_is_bytes ?a__law_limit ?l__law_limit ?c__law_limit ?k__law_limit ?a__law_refused ?l__law_refused ?c__law_refused ?k__law_refused ?a__law_read_back ?l__law_read_back ?c__law_read_back ?k__law_read_back ?a_law ?l_law ?c_law ?k_law ?z_abs ?z_bool ?z_int ?z_isinstance ?z_len ?z_list ?z_range L2.FL.K00.law_true
    (case a_HushError => k_is)
    (case x_HushError => k_exc)
    (case k_HushError => k_is)
    (case b_HushError => k_is)
    (case t_HushError => k_is)
    (case ga_HushError => k_is)
    (case gg_HushError => k_is)
    (case hd_HushError => k_is)
    (case cl_HushError => k_is)
    (case mr_HushError => k_is)
    (case a_OutOfRange => k_is)
    (case x_OutOfRange => k_exc)
    (case k_OutOfRange => k_is)
    (case b_OutOfRange => k_is)
    (case t_OutOfRange => k_is)
    (case ga_OutOfRange => k_is)
    (case gg_OutOfRange => k_is)
    (case hd_OutOfRange => k_is)
    (case cl_OutOfRange => k_is)
    (case mr_OutOfRange => k_is)
    (case a_Malformed => k_is)
    (case x_Malformed => k_exc)
    (case k_Malformed => k_is)
    (case b_Malformed => k_is)
    (case t_Malformed => k_is)
    (case ga_Malformed => k_is)
    (case gg_Malformed => k_is)
    (case hd_Malformed => k_is)
    (case cl_Malformed => k_is)
    (case mr_Malformed => k_is)
    (case s_HushError_HushError => first | rfl | k_is)
    (case s_HushError_OutOfRange => first | rfl | k_is)
    (case s_HushError_Malformed => first | rfl | k_is)
    (case s_OutOfRange_HushError => first | rfl | k_is)
    (case s_OutOfRange_OutOfRange => first | rfl | k_is)
    (case s_OutOfRange_Malformed => first | rfl | k_is)
    (case s_Malformed_HushError => first | rfl | k_is)
    (case s_Malformed_OutOfRange => first | rfl | k_is)
    (case s_Malformed_Malformed => first | rfl | k_is)
    (case sp_c => k_is)
    (case tk_c => k_is)
    (case a_to_little => k_is)
    (case l_to_little => k_is)
    (case c_to_little => k_is)
    (case k_to_little => k_is)
    (case a_to_big => k_is)
    (case l_to_big => k_is)
    (case c_to_big => k_is)
    (case k_to_big => k_is)
    (case a_from_big => k_is)
    (case l_from_big => k_is)
    (case c_from_big => k_is)
    (case k_from_big => k_is)
    (case a_from_little => k_is)
    (case l_from_little => k_is)
    (case c_from_little => k_is)
    (case k_from_little => k_is)
    (case a__law_cell => k_is)
    (case l__law_cell => k_is)
    (case c__law_cell => k_is)
    (case k__law_cell => k_is)
    (case a__law_is_bytes => k_is)
    (case l__law_is_bytes => k_is)
    (case c__law_is_bytes => k_is)
    (case k__law_is_bytes => k_is)
    (case a__law_limit => k_is)
    (case l__law_limit => k_is)
    (case c__law_limit => k_is)
    (case k__law_limit => k_is)
    (case a__law_refused => k_is)
    (case l__law_refused => k_is)
    (case c__law_refused => k_is)
    (case k__law_refused => k_is)
    (case a__law_read_back => k_is)
    (case l__law_read_back => k_is)
    (case c__law_read_back => k_is)
    (case k__law_read_back => k_is)
    (case a_law => k_is)
    (case l_law => k_is)
    (case c_law => k_is)
    (case k_law => k_is)
    (case z_abs => k_is)
    (case z_bool => k_is)
    (case z_int => k_is)
    (case z_isinstance => k_is)
    (case z_len => k_is)
    (case z_list => k_is)
    (case z_range => k_is)

