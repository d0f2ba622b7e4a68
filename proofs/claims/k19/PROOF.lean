import PyProof.Rows.All
import Wide.All
import OpenK.AllK
import Wide.FinOn
import HandS.ForMost
import HandS.TupAny
import HandS.Style
import HandS.IsInst
import HandS.SortRule
import HandS.Flow
import KE.GoesMore
import PySem.Challenge.RW_chooseonce_k19_kinds_places_and_asks_apa
set_option Elab.async false
set_option linter.all false
set_option maxRecDepth 100000
set_option maxHeartbeats 4000000
/-! A layer of plain data over the hand layer: values without addresses, a store of lists by address. -/
namespace PD
open PySem PySem.Spec PyProof.Rows L2

/-- a value without xs9 tuples' addresses -/
inductive D where
  | non | bl (b : Bool) | int (i : Int) | str (x : Str) | tup (ds : List D) | ref (a : Addr)
  /-- a list that is read only -/
  | rol (ds : List D)
/-- what stands at an address: a list -/
inductive MO where
  | lst (ds : List D)
/-- a list that never changes -/
def RoL (K : PySem.W.Frag) (H : Hp) (a : Addr) (xs : List V) : Prop :=
  (∃ o, H a = some (.frz o (.lst xs))) ∨ ∃ (o : Obj) (xs9 : Array Value) (n : Nat), K.lookup a = some o ∧ o.cls = .type "list" ∧ o.dict = none ∧ o.data = .seq xs9 n ∧ xs9.size ≤ sizeLine ∧ Vals xs xs9.toList
theorem RoL.sq {K : PySem.W.Frag} {H : Hp} {a : Addr} {xs : List V} (h : RoL K H a xs) : SqL K H a xs := by
  rcases h with ⟨o, h⟩ | h
  · exact .inl (.inr ⟨o, h⟩)
  · exact .inr h
abbrev Mu := Addr → Option MO
def mset (m : Mu) (a : Addr) (o : MO) : Mu := fun b => if b = a then some o else m b
theorem mset_same {m : Mu} {a : Addr} {o : MO} : mset m a o a = some o := by unfold mset; rw [if_pos rfl]
theorem mset_ne {m : Mu} {a b : Addr} {o : MO} (h : b ≠ a) : mset m a o b = m b := by unfold mset; rw [if_neg h]
theorem mset_new {m : Mu} {a b : Addr} {o o' : MO} (h : m a = none) (e : m b = some o') : mset m a o b = some o' := by
  rw [mset_ne (fun z => by rw [z, h] at e; cases e)]; exact e
theorem mset_mset {m : Mu} {a : Addr} {o u : MO} : mset (mset m a o) a u = mset m a u := by
  funext b; unfold mset; split <;> rfl
theorem mne {m : Mu} {a b : Addr} {o : MO} (h : m a = none) (e : m b = some o) : b ≠ a := fun z => by rw [z, h] at e; cases e

mutual
inductive Rep (K : PySem.W.Frag) (H : Hp) : D → V → Prop
  | non : Rep K H .non .non
  | bl (b : Bool) : Rep K H (.bl b) (.bl b)
  | int (i : Int) : Rep K H (.int i) (.int i)
  | str (x : Str) : Rep K H (.str x) (.str x)
  | ref (a : Addr) : Rep K H (.ref a) (.ref a)
  | tup {ds : List D} {a : Addr} {vs : List V} : SqT K H a vs → RepL K H ds vs → Rep K H (.tup ds) (.ref a)
  | rol {ds : List D} {a : Addr} {vs : List V} : RoL K H a vs → RepL K H ds vs → Rep K H (.rol ds) (.ref a)
inductive RepL (K : PySem.W.Frag) (H : Hp) : List D → List V → Prop
  | nil : RepL K H [] []
  | cons {d : D} {ds : List D} {v : V} {vs : List V} : Rep K H d v → RepL K H ds vs → RepL K H (d :: ds) (v :: vs)
end

def Imm : HO → Prop
  | .tup _ => True
  | .frz _ _ => True
  | _ => False
/-- what never changes is kept -/
def TX (H H' : Hp) : Prop := ∀ a u, Imm u → H a = some u → H' a = some u
theorem TX.refl (H : Hp) : TX H H := fun _ _ _ h => h
theorem TX.trans {H H1 H2 : Hp} (a : TX H H1) (b : TX H1 H2) : TX H H2 := fun c o i h => b c o i (a c o i h)
theorem TX.new {H : Hp} {p : Addr} {o : HO} (h : H p = none) : TX H (upd H p o) := fun a u _ e => by
  rw [upd_ne (ne_of_none e h)]; exact e
theorem TX.lst {H : Hp} {p : Addr} {xs : List V} {o : HO} (h : H p = some (.lst xs)) : TX H (upd H p o) := fun a u i e => by
  rw [upd_ne (fun z => by rw [z, h] at e; cases e; exact i)]; exact e
theorem TX.sqT {K : PySem.W.Frag} {H H' : Hp} (t : TX H H') {a : Addr} {xs : List V} (h : SqT K H a xs) : SqT K H' a xs := by
  rcases h with (h | ⟨o, h⟩) | h
  · exact .inl (.inl (t _ _ trivial h))
  · exact .inl (.inr ⟨o, t _ _ trivial h⟩)
  · exact .inr h
theorem TX.ro {K : PySem.W.Frag} {H H' : Hp} (t : TX H H') {a : Addr} {xs : List V} (h : RoL K H a xs) : RoL K H' a xs := by
  rcases h with ⟨o, h⟩ | h
  · exact .inl ⟨o, t _ _ trivial h⟩
  · exact .inr h
mutual
theorem Rep.mono {K : PySem.W.Frag} {H H' : Hp} (t : TX H H') : ∀ {d : D} {v : V}, Rep K H d v → Rep K H' d v
  | _, _, .non => .non
  | _, _, .bl b => .bl b
  | _, _, .int i => .int i
  | _, _, .str x => .str x
  | _, _, .ref a => .ref a
  | _, _, .tup s r => .tup (t.sqT s) (RepL.mono t r)
  | _, _, .rol s r => .rol (t.ro s) (RepL.mono t r)
theorem RepL.mono {K : PySem.W.Frag} {H H' : Hp} (t : TX H H') : ∀ {ds : List D} {vs : List V}, RepL K H ds vs → RepL K H' ds vs
  | _, _, .nil => .nil
  | _, _, .cons a b => .cons (Rep.mono t a) (RepL.mono t b)
end
theorem RepL.length {K : PySem.W.Frag} {H : Hp} : ∀ {ds : List D} {vs : List V}, RepL K H ds vs → ds.length = vs.length
  | _, _, .nil => rfl
  | _, _, .cons _ b => by rw [List.length_cons, List.length_cons, RepL.length b]
theorem RepL.append {K : PySem.W.Frag} {H : Hp} : ∀ {ds es : List D} {vs ws : List V}, RepL K H ds vs → RepL K H es ws → RepL K H (ds ++ es) (vs ++ ws)
  | _, _, _, _, .nil, s => s
  | _, _, _, _, .cons a b, s => .cons a (RepL.append b s)
theorem RepL.get {K : PySem.W.Frag} {H : Hp} : ∀ {ds : List D} {vs : List V} {i : Nat} {d : D}, RepL K H ds vs → ds[i]? = some d → ∃ v, vs[i]? = some v ∧ Rep K H d v
  | _, _, _, _, .nil, e => by simp at e
  | _, _, 0, _, .cons a _, e => by simp at e; subst e; exact ⟨_, rfl, a⟩
  | _, _, i + 1, d, .cons _ b, e => by
    obtain ⟨v, h1, h2⟩ := RepL.get (i := i) (d := d) b (by simpa using e)
    exact ⟨v, by simpa using h1, h2⟩
theorem RepL.getV {K : PySem.W.Frag} {H : Hp} {ds : List D} {vs : List V} {i : Nat} {v : V} (r : RepL K H ds vs) (e : vs[i]? = some v) : ∃ d, ds[i]? = some d ∧ Rep K H d v := by
  have hl := r.length
  obtain ⟨h1, _⟩ := List.getElem?_eq_some_iff.mp e
  have h2 : i < ds.length := by omega
  obtain ⟨w, e2, q⟩ := r.get (List.getElem?_eq_getElem h2)
  rw [e] at e2; cases e2
  exact ⟨_, List.getElem?_eq_getElem h2, q⟩
theorem RepL.take {K : PySem.W.Frag} {H : Hp} : ∀ {ds : List D} {vs : List V} (n : Nat), RepL K H ds vs → RepL K H (ds.take n) (vs.take n)
  | _, _, 0, _ => by rw [List.take_zero, List.take_zero]; exact .nil
  | _, _, _ + 1, .nil => .nil
  | _, _, n + 1, .cons a b => .cons a (RepL.take n b)
theorem RepL.drop {K : PySem.W.Frag} {H : Hp} : ∀ {ds : List D} {vs : List V} (n : Nat), RepL K H ds vs → RepL K H (ds.drop n) (vs.drop n)
  | _, _, 0, r => r
  | _, _, _ + 1, .nil => .nil
  | _, _, n + 1, .cons _ b => RepL.drop n b
theorem RepL.set {K : PySem.W.Frag} {H : Hp} {d : D} {v : V} (r : Rep K H d v) : ∀ {ds : List D} {vs : List V} (i : Nat), RepL K H ds vs → RepL K H (ds.set i d) (vs.set i v)
  | _, _, _, .nil => .nil
  | _, _, 0, .cons _ t => .cons r t
  | _, _, i + 1, .cons q t => .cons q (RepL.set r i t)
theorem RepL.erase {K : PySem.W.Frag} {H : Hp} : ∀ {ds : List D} {vs : List V} (i : Nat), RepL K H ds vs → RepL K H (ds.eraseIdx i) (vs.eraseIdx i)
  | _, _, _, .nil => .nil
  | _, _, 0, .cons _ t => t
  | _, _, i + 1, .cons q t => .cons q (RepL.erase i t)
theorem RepL.rev {K : PySem.W.Frag} {H : Hp} : ∀ {ds : List D} {vs : List V}, RepL K H ds vs → RepL K H ds.reverse vs.reverse
  | _, _, .nil => .nil
  | _, _, .cons a b => by rw [List.reverse_cons, List.reverse_cons]; exact RepL.append (RepL.rev b) (.cons a .nil)
theorem RepL.dropLast {K : PySem.W.Frag} {H : Hp} {ds : List D} {vs : List V} (r : RepL K H ds vs) : RepL K H ds.dropLast vs.dropLast := by
  rw [List.dropLast_eq_take, List.dropLast_eq_take, r.length]
  exact r.take _
theorem RepL.nil_iff {K : PySem.W.Frag} {H : Hp} {ds : List D} {vs : List V} (r : RepL K H ds vs) : ds = [] ↔ vs = [] := by
  cases r with
  | nil => exact ⟨fun _ => rfl, fun _ => rfl⟩
  | cons a b => exact ⟨fun h => (nomatch h), fun h => (nomatch h)⟩

/-! ### states -/
abbrev Sd := List (Option D)
def MOk (K : PySem.W.Frag) (H : Hp) (a : Addr) : MO → Prop
  | .lst ds => ∃ vs, H a = some (.lst vs) ∧ RepL K H ds vs
def RM (K : PySem.W.Frag) (H : Hp) (m : Mu) : Prop := ∀ a o, m a = some o → MOk K H a o
structure RS (K : PySem.W.Frag) (H : Hp) (sd : Sd) (s : L2.St) : Prop where
  len : sd.length = s.length
  at_ : ∀ (i : Nat) (d : D), sd[i]? = some (some d) → ∃ v, s[i]? = some (some v) ∧ Rep K H d v
theorem RS.mono {K : PySem.W.Frag} {H H' : Hp} {sd : Sd} {s : L2.St} (r : RS K H sd s) (t : TX H H') : RS K H' sd s :=
  ⟨r.len, fun i d e => let ⟨v, h, q⟩ := r.at_ i d e; ⟨v, h, q.mono t⟩⟩
theorem RS.set {K : PySem.W.Frag} {H : Hp} {sd : Sd} {s : L2.St} (r : RS K H sd s) {d : D} {v : V} (q : Rep K H d v) (i : Nat) : RS K H (sd.set i (some d)) (s.set i (some v)) := by
  refine ⟨by rw [List.length_set, List.length_set]; exact r.len, fun j e h => ?_⟩
  rw [List.getElem?_set] at h
  rw [List.getElem?_set]
  by_cases hij : i = j
  · subst hij
    rw [if_pos rfl] at h ⊢
    by_cases hl : i < sd.length
    · rw [if_pos hl] at h
      cases h
      rw [if_pos (by rw [← r.len]; exact hl)]
      exact ⟨v, rfl, q⟩
    · rw [if_neg hl] at h; cases h
  · rw [if_neg hij] at h ⊢
    exact r.at_ j e h
theorem MOk.tx {K : PySem.W.Frag} {H H' : Hp} {a : Addr} {o : MO} (h : MOk K H a o) (t : TX H H') (k : ∀ vs, H a = some (.lst vs) → H' a = some (.lst vs)) : MOk K H' a o := by
  cases o with
  | lst ds => obtain ⟨vs, e, r⟩ := h; exact ⟨vs, k vs e, r.mono t⟩
theorem MOk.some {K : PySem.W.Frag} {H : Hp} {a : Addr} {o : MO} (h : MOk K H a o) : ∃ u, H a = some u := by
  cases o with
  | lst ds => obtain ⟨vs, e, r⟩ := h; exact ⟨_, e⟩
/-- a new object that the store does not tell of -/
theorem RM.skip {K : PySem.W.Frag} {H : Hp} {m : Mu} {p : Addr} {u : HO} (r : RM K H m) (h : H p = none) : RM K (upd H p u) m := fun a o e => by
  refine (r a o e).tx (.new h) fun vs q => ?_
  rw [upd_ne (ne_of_none q h)]; exact q
theorem RM.fresh {K : PySem.W.Frag} {H : Hp} {m : Mu} {p : Addr} (r : RM K H m) (h : H p = none) : m p = none := by
  cases q : m p with
  | none => rfl
  | some o =>
    obtain ⟨u, e⟩ := (r p o q).some
    rw [h] at e; cases e
/-- a new list -/
theorem RM.newL {K : PySem.W.Frag} {H : Hp} {m : Mu} {p : Addr} {ds : List D} {vs : List V} (r : RM K H m) (h : H p = none) (q : RepL K H ds vs) : RM K (upd H p (.lst vs)) (mset m p (.lst ds)) := fun a o e => by
  by_cases ha : a = p
  · subst ha
    rw [mset_same] at e; cases e
    exact ⟨vs, upd_same, q.mono (.new h)⟩
  · rw [mset_ne ha] at e
    exact r.skip h a o e
/-- a list is changed -/
theorem RM.setL {K : PySem.W.Frag} {H : Hp} {m : Mu} {p : Addr} {ds : List D} {vs ws : List V} (r : RM K H m) (h : H p = some (.lst ws)) (q : RepL K H ds vs) : RM K (upd H p (.lst vs)) (mset m p (.lst ds)) := fun a o e => by
  by_cases ha : a = p
  · subst ha
    rw [mset_same] at e; cases e
    exact ⟨vs, upd_same, q.mono (.lst h)⟩
  · rw [mset_ne ha] at e
    refine (r a o e).tx (.lst h) fun us z => ?_
    rw [upd_ne ha]; exact z
/-- less is told -/
def Sub (m m' : Mu) : Prop := ∀ a o, m a = some o → m' a = some o
theorem Sub.refl (m : Mu) : Sub m m := fun _ _ h => h
theorem Sub.trans {m m1 m2 : Mu} (a : Sub m m1) (b : Sub m1 m2) : Sub m m2 := fun x o h => b x o (a x o h)
theorem Sub.new {m : Mu} {p : Addr} {o : MO} (h : m p = none) : Sub m (mset m p o) := fun a u e => mset_new h e
theorem Sub.new' {m m' : Mu} {p : Addr} {o : MO} (s : Sub m m') (h : m p = none) : Sub m (mset m' p o) := fun a u e => by
  rw [mset_ne (mne h e)]; exact s a u e
theorem Sub.free {m m' : Mu} {p : Addr} (s : Sub m m') (h : m' p = none) : m p = none := by
  cases q : m p with
  | none => rfl
  | some o => rw [s p o q] at h; cases h
theorem RM.sub {K : PySem.W.Frag} {H : Hp} {m m' : Mu} (r : RM K H m') (s : Sub m m') : RM K H m := fun a o e => r a o (s a o e)

/-! ### readings over plain data -/
abbrev DK := D → Mu → Prop
abbrev DE := Sd → Mu → DK → Prop
abbrev DT := Sd → Mu → (Bool → Mu → Prop) → Prop
abbrev DA := Sd → Mu → (List D → Mu → Prop) → Prop
structure DEnds where
  nx : Sd → Mu → Prop
  rt : DK
  bk : Sd → Mu → Prop := fun _ _ => False
  ct : Sd → Mu → Prop := fun _ _ => False
abbrev DS := DEnds → Sd → Mu → Prop

def LE (K : PySem.W.Frag) (t : TE) (d : DE) : Prop := ∀ s H sd m (Qd : DK) (Q : VK), RS K H sd s → RM K H m → d sd m Qd →
  (∀ v H' dv m', TX H H' → RM K H' m' → Rep K H' dv v → Qd dv m' → Q v H') → t s H Q
def LT (K : PySem.W.Frag) (t : TT) (d : DT) : Prop := ∀ s H sd m (Qd : Bool → Mu → Prop) (Q : Bool → Hp → Prop), RS K H sd s → RM K H m → d sd m Qd →
  (∀ b H' m', TX H H' → RM K H' m' → Qd b m' → Q b H') → t s H Q
def LA (K : PySem.W.Frag) (t : TA) (d : DA) : Prop := ∀ s H sd m (Qd : List D → Mu → Prop) (Q : List V → Hp → Prop), RS K H sd s → RM K H m → d sd m Qd →
  (∀ vs H' ds m', TX H H' → RM K H' m' → RepL K H' ds vs → Qd ds m' → Q vs H') → t s H Q
def LS (K : PySem.W.Frag) (t : TS) (d : DS) : Prop := ∀ s H sd m (Ed : DEnds) (E : Ends), RS K H sd s → RM K H m → d Ed sd m →
  (∀ s' H' sd' m', TX H H' → RS K H' sd' s' → RM K H' m' → Ed.nx sd' m' → E.nx s' H') →
  (∀ v H' dv m', TX H H' → RM K H' m' → Rep K H' dv v → Ed.rt dv m' → E.rt v H') →
  (∀ s' H' sd' m', TX H H' → RS K H' sd' s' → RM K H' m' → Ed.bk sd' m' → E.bk s' H') →
  (∀ s' H' sd' m', TX H H' → RS K H' sd' s' → RM K H' m' → Ed.ct sd' m' → E.ct s' H') → t E s H

def liftE (K : PySem.W.Frag) (d : DE) : TE := fun s H Q => ∃ sd m Qd, RS K H sd s ∧ RM K H m ∧ d sd m Qd ∧ ∀ v H' dv m', TX H H' → RM K H' m' → Rep K H' dv v → Qd dv m' → Q v H'
def liftT (K : PySem.W.Frag) (d : DT) : TT := fun s H Q => ∃ sd m Qd, RS K H sd s ∧ RM K H m ∧ d sd m Qd ∧ ∀ b H' m', TX H H' → RM K H' m' → Qd b m' → Q b H'
theorem liftE_le (K : PySem.W.Frag) (d : DE) : LE K (liftE K d) d := fun s H sd m Qd Q rs rm h k => ⟨sd, m, Qd, rs, rm, h, k⟩
theorem liftT_le (K : PySem.W.Frag) (d : DT) : LT K (liftT K d) d := fun s H sd m Qd Q rs rm h k => ⟨sd, m, Qd, rs, rm, h, k⟩
structure GE (X : Cx) (e : Expr) (d : DE) : Prop where
  mk ::
  pe : PE X e (liftE X.K d)
structure GT (X : Cx) (e : Expr) (d : DT) : Prop where
  mk ::
  pt : PT X e (liftT X.K d)
theorem GE.ex {X : Cx} {e : Expr} {d : DE} (h : GE X e d) : ∃ t, PE X e t ∧ LE X.K t d := ⟨_, h.pe, liftE_le _ _⟩
theorem GT.ex {X : Cx} {e : Expr} {d : DT} (h : GT X e d) : ∃ t, PT X e t ∧ LT X.K t d := ⟨_, h.pt, liftT_le _ _⟩
theorem GE.of {X : Cx} {e : Expr} {d : DE} (h : ∃ t, PE X e t ∧ LE X.K t d) : GE X e d :=
  let ⟨t, p, l⟩ := h
  ⟨⟨fun pz s τ H Q I ⟨sd, m, Qd, rs, rm, hd, k⟩ => p.run pz s τ H Q I (l τ H sd m Qd Q rs rm hd k)⟩⟩
theorem GT.of {X : Cx} {e : Expr} {d : DT} (h : ∃ t, PT X e t ∧ LT X.K t d) : GT X e d :=
  let ⟨t, p, l⟩ := h
  ⟨⟨fun pz s τ H Q I ⟨sd, m, Qd, rs, rm, hd, k⟩ => p.run pz s τ H Q I (l τ H sd m Qd Q rs rm hd k)⟩⟩
structure GW (X : Cx) (e : Expr) (d : DT) : Prop where
  ex : ∃ t, PW X e t ∧ LT X.K t d
structure GA (X : Cx) (es : List Expr) (d : DA) : Prop where
  ex : ∃ t, PA X es t ∧ LA X.K t d
structure GS (X : Cx) (st : Stmt) (d : DS) : Prop where
  ex : ∃ t, PS X st t ∧ LS X.K t d
structure GSs (X : Cx) (st : List Stmt) (d : DS) : Prop where
  ex : ∃ t, PSs X st t ∧ LS X.K t d
theorem GW.gt {X : Cx} {e : Expr} {d : DT} (h : GW X e d) : GT X e d := let ⟨t, p, l⟩ := h.ex; .of ⟨t, p.pt, l⟩

section
variable {X : Cx}
/-! ### names, constants -/
def dVar (i : Nat) : DE := fun s m Q => match s[i]? with | some (some d) => Q d m | _ => False
def dC (d : D) : DE := fun _ m Q => Q d m
theorem gv (i : Nat) {x : Str} {pos : Pos} (hN : X.N[i]? = some x := by rfl) (hv : Vis X.env.scope x := by first | exact Or.inl rfl | exact Or.inr (Or.inl rfl) | exact Or.inr (Or.inr rfl)) (hd : (x == ("__debug__" : Str)) = false := by decide)
    (hcd : (x == ("__classdict__" : Str)) = false := by decide) : GE X (.Name x pos) (dVar i) :=
  .of ⟨_, pv i hN hv hd hcd, fun s H sd m Qd Q rs rm h k => by
    unfold dVar at h
    split at h
    · rename_i d e
      obtain ⟨v, e2, r⟩ := rs.at_ i d e
      exact ⟨v, e2, k v H d m (.refl H) rm r h⟩
    · exact h.elim⟩
theorem ge_c {e : Expr} {v : V} {d : D} (p : PE X e (tC v)) (r : ∀ H, Rep X.K H d v) : GE X e (dC d) :=
  .of ⟨_, p, fun _ H _ m _ _ _ rm h k => k v H d m (.refl H) rm (r H) h⟩
theorem ge_int {i j pos} : GE X (.Constant (.int i) j pos) (dC (.int i)) := ge_c pe_int fun _ => .int i
theorem ge_str {x j pos} : GE X (.Constant (.str x) j pos) (dC (.str x)) := ge_c pe_str fun _ => .str x
theorem ge_bl {b j pos} : GE X (.Constant (.bool b) j pos) (dC (.bl b)) := ge_c pe_bl fun _ => .bl b
theorem ge_non {j pos} : GE X (.Constant .none j pos) (dC .non) := ge_c pe_non fun _ => .non
/-! ### arguments -/
def dNil : DA := fun _ m Q => Q [] m
def dCons (a : DE) (r : DA) : DA := fun s m Q => a s m fun x m1 => r s m1 fun xs m2 => Q (x :: xs) m2
theorem ga_nil : GA X [] dNil := ⟨_, pa_nil, fun _ H _ m _ _ _ rm h k => k [] H [] m (.refl H) rm .nil h⟩
theorem ga_cons {e : Expr} {es : List Expr} {de : DE} {dr : DA} (ha : GE X e de) (hr : GA X es dr) (hs : starEach (e :: es) X.env = (false, eval e X.env) :: starEach es X.env := by rfl) : GA X (e :: es) (dCons de dr) := by
  obtain ⟨te, p, l⟩ := ha.ex
  obtain ⟨tr, q, l2⟩ := hr.ex
  refine ⟨_, pa_cons p q hs, fun s H sd m Qd Q rs rm h k => ?_⟩
  refine l s H sd m _ _ rs rm h fun v H1 dv m1 t1 rm1 r1 h1 => ?_
  exact l2 s H1 sd m1 _ _ (rs.mono t1) rm1 h1 fun vs H2 ds m2 t2 rm2 r2 h2 => k _ H2 _ m2 (t1.trans t2) rm2 (.cons (r1.mono t2) r2) h2
/-! ### operators -/
abbrev D2 := D → D → Mu → DK → Prop
def LR (K : PySem.W.Frag) (r : R2) (d : D2) : Prop := ∀ x y H dx dy m (Qd : DK) (Q : VK), RM K H m → Rep K H dx x → Rep K H dy y → d dx dy m Qd →
  (∀ v H' dv m', TX H H' → RM K H' m' → Rep K H' dv v → Qd dv m' → Q v H') → r x y H Q
def dOp (r : D2) (a b : DE) : DE := fun s m Q => a s m fun x m1 => b s m1 fun y m2 => r x y m2 Q
theorem LE.op {K : PySem.W.Frag} {ta tb : TE} {da db : DE} {r : R2} {d : D2} (l : LE K ta da) (l2 : LE K tb db) (lr : LR K r d) : LE K (tOp r ta tb) (dOp d da db) := fun s H sd m Qd Q rs rm h k => by
  refine l s H sd m _ _ rs rm h fun v H1 dv m1 t1 rm1 r1 h1 => ?_
  refine l2 s H1 sd m1 _ _ (rs.mono t1) rm1 h1 fun w H2 dw m2 t2 rm2 r2 h2 => ?_
  exact lr v w H2 dv dw m2 Qd Q rm2 (r1.mono t2) r2 h2 fun v' H' dv' m' t' a b c => k v' H' dv' m' (t1.trans (t2.trans t')) a b c
theorem ge_op {a b : Expr} {pos : Pos} {da db : DE} {op : Operator} {r : R2} {d : D2} (ho : OpR X (binaryOp op) r) (lr : LR X.K r d) (ha : GE X a da) (hb : GE X b db) : GE X (.BinOp a op b pos) (dOp d da db) := by
  obtain ⟨ta, p, l⟩ := ha.ex
  obtain ⟨tb, q, l2⟩ := hb.ex
  exact .of ⟨_, pe_op ho p q, l.op l2 lr⟩
theorem ge_cmpR {a b : Expr} {pos : Pos} {da db : DE} {op : CmpOp} {r : R2} {d : D2} (ho : OpR X (compareOp op) r) (lr : LR X.K r d) (ha : GE X a da) (hb : GE X b db) (hm : behindInMarks op b = false) : GE X (.Compare a [op] [b] pos) (dOp d da db) := by
  obtain ⟨ta, p, l⟩ := ha.ex
  obtain ⟨tb, q, l2⟩ := hb.ex
  exact .of ⟨_, pe_cmpR ho p q hm, l.op l2 lr⟩
def dTest (a : DE) : DT := fun s m Q => a s m fun x m1 => match x with | .bl b => Q b m1 | _ => False
theorem LE.test {K : PySem.W.Frag} {t : TE} {d : DE} (l : LE K t d) : LT K (tTest t) (dTest d) := fun s H sd m Qd Q rs rm h k => by
  refine l s H sd m _ _ rs rm h fun v H1 dv m1 t1 rm1 r1 h1 => ?_
  cases r1 with
  | bl b => exact ⟨b, rfl, k b H1 m1 t1 rm1 h1⟩
  | _ => exact h1.elim
theorem LE.testB {K : PySem.W.Frag} {t : TE} {d : DE} (l : LE K t d) : LT K (tB t) (dTest d) := fun s H sd m Qd Q rs rm h k => by
  refine l s H sd m _ _ rs rm h fun v H1 dv m1 t1 rm1 r1 h1 => ?_
  cases r1 with
  | bl b => exact ⟨b, rfl, k b H1 m1 t1 rm1 h1⟩
  | _ => exact h1.elim
theorem gt_cmpR {a b : Expr} {pos : Pos} {da db : DE} {op : CmpOp} {r : R2} {d : D2} (ho : OpR X (compareOp op) r) (lr : LR X.K r d) (ha : GE X a da) (hb : GE X b db) (hm : behindInMarks op b = false) : GT X (.Compare a [op] [b] pos) (dTest (dOp d da db)) := by
  obtain ⟨ta, p, l⟩ := ha.ex
  obtain ⟨tb, q, l2⟩ := hb.ex
  exact .of ⟨_, pt_cmpR ho p q hm, (l.op l2 lr).test⟩
theorem gt_val {e : Expr} {d : DE} (h : GE X e d) (he : ∀ whole, isTrue e X.env whole = (do let v ← whole; standAt e.pos; holding [v] (truthy v)) := by intro _; rfl) : GT X e (dTest d) := by
  obtain ⟨t, p, l⟩ := h.ex
  exact .of ⟨_, pt_val p he, l.testB⟩
end
end PD

set_option Elab.async false
set_option linter.all false
set_option maxRecDepth 100000
set_option maxHeartbeats 4000000
namespace PD
open PySem PySem.Spec PyProof.Rows L2
/-! ### by kinds -/
def seqOf (m : Mu) : D → Option (List D)
  | .tup ds => some ds
  | .rol ds => some ds
  | .ref a => match m a with | some (.lst ds) => some ds | none => none
  | _ => none
theorem seq_rep {K : PySem.W.Frag} {H : Hp} {m : Mu} {d : D} {v : V} {ds : List D} (rm : RM K H m) (r : Rep K H d v) (h : seqOf m d = some ds) :
    ∃ a vs, v = .ref a ∧ (SqL K H a vs ∨ SqT K H a vs) ∧ RepL K H ds vs := by
  cases r with
  | tup s q => unfold seqOf at h; cases h; exact ⟨_, _, rfl, .inr s, q⟩
  | rol s q => unfold seqOf at h; cases h; exact ⟨_, _, rfl, .inl s.sq, q⟩
  | ref a =>
    unfold seqOf at h
    cases e : m a with
    | none => simp only [e] at h; cases h
    | some o =>
      have q := rm a o e
      cases o with
      | lst es => simp only [e] at h; cases h; obtain ⟨vs, e2, r⟩ := q; exact ⟨a, vs, rfl, .inl (SqL.of e2), r⟩
  | _ => unfold seqOf at h; cases h
theorem ref_rep {K : PySem.W.Frag} {H : Hp} {m : Mu} {a : Addr} {ds : List D} (rm : RM K H m) (h : seqOf m (.ref a) = some ds) : ∃ vs, SqL K H a vs ∧ RepL K H ds vs := by
  unfold seqOf at h
  cases e : m a with
  | none => simp only [e] at h; cases h
  | some o =>
    have q := rm a o e
    cases o with
    | lst es => simp only [e] at h; cases h; obtain ⟨vs, e2, r⟩ := q; exact ⟨vs, SqL.of e2, r⟩
def lstOf (m : Mu) : D → Option (Addr × List D)
  | .ref a => match m a with | some (.lst ds) => some (a, ds) | _ => none
  | _ => none
theorem lst_rep {K : PySem.W.Frag} {H : Hp} {m : Mu} {d : D} {v : V} {a : Addr} {ds : List D} (rm : RM K H m) (r : Rep K H d v) (h : lstOf m d = some (a, ds)) :
    v = .ref a ∧ d = .ref a ∧ m a = some (.lst ds) ∧ ∃ vs, H a = some (.lst vs) ∧ RepL K H ds vs := by
  cases r with
  | ref b =>
    unfold lstOf at h
    cases e : m b with
    | none => simp only [e] at h; cases h
    | some o =>
      cases o with
      | lst es => simp only [e] at h; cases h; exact ⟨rfl, rfl, e, rm _ _ e⟩
  | _ => unfold lstOf at h; cases h
def flatD : D → Bool
  | .non => true
  | .bl _ => true
  | .int _ => true
  | .str _ => true
  | _ => false
def eqF : D → D → Bool
  | .non, .non => true
  | .bl a, .bl b => a == b
  | .bl a, .int b => (if a then 1 else 0) == b
  | .int a, .bl b => a == (if b then 1 else 0)
  | .int a, .int b => a == b
  | .str a, .str b => a == b
  | _, _ => false
theorem Rep.flat {K : PySem.W.Frag} {H : Hp} {d : D} {v : V} (r : Rep K H d v) (f : flatD d = true) : flatV v = true := by
  cases r <;> first | rfl | exact absurd f Bool.false_ne_true
theorem Rep.eqF {K : PySem.W.Frag} {H : Hp} {d e : D} {v u : V} (r : Rep K H d v) (q : Rep K H e u) (f : flatD d = true) (g : flatD e = true) : eqV v u = eqF d e := by
  cases r <;> first | exact absurd f Bool.false_ne_true | (cases q <;> first | exact absurd g Bool.false_ne_true | rfl)
theorem RepL.flat {K : PySem.W.Frag} {H : Hp} : ∀ {ds : List D} {vs : List V}, RepL K H ds vs → ds.all flatD = true → vs.all flatV = true
  | _, _, .nil, _ => rfl
  | _, _, .cons a b, f => by
    rw [List.all_cons, Bool.and_eq_true] at f
    rw [List.all_cons, a.flat f.1, RepL.flat b f.2]; rfl
theorem RepL.inV {K : PySem.W.Frag} {H : Hp} {d : D} {v : V} (r : Rep K H d v) (f : flatD d = true) : ∀ {ds : List D} {vs : List V}, RepL K H ds vs → ds.all flatD = true → inV v vs = ds.any fun y => PD.eqF y d
  | _, _, .nil, _ => rfl
  | _, _, .cons a b, g => by
    rw [List.all_cons, Bool.and_eq_true] at g
    have := RepL.inV r f b g.2
    unfold L2.inV at this ⊢
    rw [List.any_cons, List.any_cons, this, a.eqF r g.1 f]
/-! plain data -/
mutual
def toP : D → Option PyData
  | .non => some .none
  | .bl b => some (.bool b)
  | .int i => some (.int i)
  | .str x => some (.str x)
  | .tup ds => (toPs ds).map .tuple
  | .ref _ => none
  | .rol _ => none
def toPs : List D → Option (List PyData)
  | [] => some []
  | d :: ds => match toP d, toPs ds with | some p, some ps => some (p :: ps) | _, _ => none
end
mutual
theorem Rep.dp {K : PySem.W.Frag} {H : Hp} : ∀ {d : D} {v : V} {p : PyData}, Rep K H d v → toP d = some p → Dp K H v p
  | _, _, _, .non, h => by unfold toP at h; cases h; exact .non
  | _, _, _, .bl b, h => by unfold toP at h; cases h; exact .bl b
  | _, _, _, .int i, h => by unfold toP at h; cases h; exact .int i
  | _, _, _, .str x, h => by unfold toP at h; cases h; exact .str x
  | _, _, _, .ref a, h => by unfold toP at h; cases h
  | _, _, _, .rol _ _, h => by unfold toP at h; cases h
  | .tup ds, _, _, .tup s r, h => by
    unfold toP at h
    cases e : toPs ds with
    | none => rw [e] at h; cases h
    | some ps => rw [e] at h; cases h; exact .tup s (RepL.dp r e)
theorem RepL.dp {K : PySem.W.Frag} {H : Hp} : ∀ {ds : List D} {vs : List V} {ps : List PyData}, RepL K H ds vs → toPs ds = some ps → DpAll K H vs ps
  | _, _, _, .nil, h => by unfold toPs at h; cases h; exact .nil
  | d :: ds, _, _, .cons a b, h => by
    unfold toPs at h
    cases e : toP d with
    | none => rw [e] at h; cases h
    | some p =>
      cases e2 : toPs ds with
      | none => rw [e, e2] at h; cases h
      | some ps => rw [e, e2] at h; cases h; exact .cons (Rep.dp a e) (RepL.dp b e2)
end
def toPm (m : Mu) : D → Option PyData
  | .ref a => match m a with | some (.lst ds) => (toPs ds).map .list | none => none
  | d => toP d
theorem dpm {K : PySem.W.Frag} {H : Hp} {m : Mu} {d : D} {v : V} {p : PyData} (rm : RM K H m) (r : Rep K H d v) (h : toPm m d = some p) : Dp K H v p := by
  cases r with
  | ref a =>
    unfold toPm at h
    cases e : m a with
    | none => simp only [e] at h; cases h
    | some o =>
      have q := rm a o e
      cases o with
      | lst es =>
        simp only [e] at h
        obtain ⟨vs, e2, r⟩ := q
        cases e3 : toPs es with
        | none => rw [e3] at h; cases h
        | some ps => rw [e3] at h; cases h; exact .lst (SqL.of e2) (r.dp e3)
  | rol s r => exact Rep.dp (.rol s r) h
  | tup s r => exact Rep.dp (.tup s r) h
  | non => exact Rep.dp .non h
  | bl b => exact Rep.dp (.bl b) h
  | int i => exact Rep.dp (.int i) h
  | str x => exact Rep.dp (.str x) h
/-! ### == and != -/
def isSeq (m : Mu) (d : D) : Bool := (seqOf m d).isSome
def eqK (m : Mu) (x y : D) : Option Bool :=
  if flatD x && flatD y then some (eqF x y)
  else if flatD x then (if isSeq m y then some false else none)
  else if flatD y then (if isSeq m x then some false else none)
  else match toPm m x, toPm m y with
    | some p, some q => if SeqAt.shaped p && SeqAt.shaped q then some (PyData.eqv p q) else none
    | _, _ => none
inductive EqS (K : PySem.W.Frag) (H : Hp) : V → V → Bool → Prop
  | flat {x y : V} : flatV x = true → flatV y = true → EqS K H x y (eqV x y)
  | fs {x : V} {a : Addr} {vs : List V} : flatV x = true → (SqL K H a vs ∨ SqT K H a vs) → EqS K H x (.ref a) false
  | sf {y : V} {a : Addr} {vs : List V} : flatV y = true → (SqL K H a vs ∨ SqT K H a vs) → EqS K H (.ref a) y false
  | dat {x y : V} {d e : PyData} : Dp K H x d → Dp K H y e → SeqAt.shaped d = true → SeqAt.shaped e = true → EqS K H x y (PyData.eqv d e)
theorem eqs_of {K : PySem.W.Frag} {H : Hp} {m : Mu} {dx dy : D} {x y : V} {b : Bool} (rm : RM K H m) (rx : Rep K H dx x) (ry : Rep K H dy y) (h : eqK m dx dy = some b) : EqS K H x y b := by
  unfold eqK at h
  split at h
  · rename_i c
    rw [Bool.and_eq_true] at c
    cases h
    rw [← rx.eqF ry c.1 c.2]
    exact .flat (rx.flat c.1) (ry.flat c.2)
  · split at h
    · rename_i c
      split at h
      · rename_i e
        cases h
        obtain ⟨ds, e2⟩ := Option.isSome_iff_exists.mp e
        obtain ⟨a, vs, rfl, s, _⟩ := seq_rep rm ry e2
        exact .fs (rx.flat c) s
      · cases h
    · split at h
      · rename_i c
        split at h
        · rename_i e
          cases h
          obtain ⟨ds, e2⟩ := Option.isSome_iff_exists.mp e
          obtain ⟨a, vs, rfl, s, _⟩ := seq_rep rm rx e2
          exact .sf (ry.flat c) s
        · cases h
      · split at h
        · rename_i p q e1 e2
          split at h
          · rename_i c
            rw [Bool.and_eq_true] at c
            cases h
            exact .dat (dpm rm rx e1) (dpm rm ry e2) c.1 c.2
          · cases h
        · cases h
section
variable {X : Cx}
theorem eqv_flat {A : Around} {s : Shared} {x y : V} {u v : Value} (rx : RelV x u) (ry : RelV y v) (fx : flatV x = true) (fy : flatV y = true) : SeqAt.RcAt A s u v (eqV x y) ∧ SeqAt.RcNeAt A s u v (!(eqV x y)) := by
  cases x with
  | non =>
    cases rx
    cases y with
    | non => cases ry; exact ⟨SeqAt.RcAt.none_none, SeqAt.RcNeAt.none_none⟩
    | bl b => cases ry; exact ⟨SeqAt.RcAt.none_bool b, SeqAt.RcNeAt.none_bool b⟩
    | int b => obtain ⟨t, rfl⟩ := ry; exact ⟨SeqAt.RcAt.none_int b t, SeqAt.RcNeAt.none_int b t⟩
    | str b => obtain ⟨t, rfl⟩ := ry; exact ⟨SeqAt.RcAt.none_str b t, SeqAt.RcNeAt.none_str b t⟩
    | _ => exact absurd fy Bool.false_ne_true
  | bl a =>
    cases rx
    cases y with
    | non => cases ry; exact ⟨SeqAt.RcAt.bool_none a, SeqAt.RcNeAt.bool_none a⟩
    | bl b => cases ry; exact ⟨SeqAt.RcAt.bool_bool a b, SeqAt.RcNeAt.bool_bool a b⟩
    | int b => obtain ⟨t, rfl⟩ := ry; exact ⟨SeqAt.RcAt.bool_int a b t, SeqAt.RcNeAt.bool_int a b t⟩
    | str b => obtain ⟨t, rfl⟩ := ry; exact ⟨SeqAt.RcAt.bool_str a b t, SeqAt.RcNeAt.bool_str a b t⟩
    | _ => exact absurd fy Bool.false_ne_true
  | int a =>
    obtain ⟨t', rfl⟩ := rx
    cases y with
    | non => cases ry; exact ⟨SeqAt.RcAt.int_none a t', SeqAt.RcNeAt.int_none a t'⟩
    | bl b => cases ry; exact ⟨SeqAt.RcAt.int_bool a t' b, SeqAt.RcNeAt.int_bool a t' b⟩
    | int b => obtain ⟨t, rfl⟩ := ry; exact ⟨SeqAt.RcAt.int_int a t' b t, SeqAt.RcNeAt.int_int a t' b t⟩
    | str b => obtain ⟨t, rfl⟩ := ry; exact ⟨SeqAt.RcAt.int_str a t' b t, SeqAt.RcNeAt.int_str a t' b t⟩
    | _ => exact absurd fy Bool.false_ne_true
  | str a =>
    obtain ⟨t', rfl⟩ := rx
    cases y with
    | non => cases ry; exact ⟨SeqAt.RcAt.str_none a t', SeqAt.RcNeAt.str_none a t'⟩
    | bl b => cases ry; exact ⟨SeqAt.RcAt.str_bool a t' b, SeqAt.RcNeAt.str_bool a t' b⟩
    | int b => obtain ⟨t, rfl⟩ := ry; exact ⟨SeqAt.RcAt.str_int a t' b t, SeqAt.RcNeAt.str_int a t' b t⟩
    | str b => obtain ⟨t, rfl⟩ := ry; exact ⟨SeqAt.RcAt.str_str a t' b t, SeqAt.RcNeAt.str_str a t' b t⟩
    | _ => exact absurd fy Bool.false_ne_true
  | _ => exact absurd fx Bool.false_ne_true
theorem rc_fs {A : Around} {s : Shared} {x : V} {u : Value} {a : Addr} {items : Array Value} (rx : RelV x u) (fx : flatV x = true) (h : s.heap.IsList a items ∨ s.heap.IsTuple a items) (hu : A.units < cLine) :
    (SeqAt.RcAt A s u (.ref a) false ∧ SeqAt.RcNeAt A s u (.ref a) true) ∧ SeqAt.RcAt A s (.ref a) u false ∧ SeqAt.RcNeAt A s (.ref a) u true := by
  rcases h with h | h
  · cases x with
    | non => cases rx; exact ⟨⟨SeqAt.RcAt.none_list h hu, SeqAt.RcNeAt.none_list h hu⟩, SeqAt.RcAt.list_none h hu, SeqAt.RcNeAt.list_none h hu⟩
    | bl b => cases rx; exact ⟨⟨SeqAt.RcAt.bool_list b h hu, SeqAt.RcNeAt.bool_list b h hu⟩, SeqAt.RcAt.list_bool b h hu, SeqAt.RcNeAt.list_bool b h hu⟩
    | int b => obtain ⟨t, rfl⟩ := rx; exact ⟨⟨SeqAt.RcAt.int_list b t h hu, SeqAt.RcNeAt.int_list b t h hu⟩, SeqAt.RcAt.list_int b t h hu, SeqAt.RcNeAt.list_int b t h hu⟩
    | str b => obtain ⟨t, rfl⟩ := rx; exact ⟨⟨SeqAt.RcAt.str_list b t h hu, SeqAt.RcNeAt.str_list b t h hu⟩, SeqAt.RcAt.list_str b t h hu, SeqAt.RcNeAt.list_str b t h hu⟩
    | _ => exact absurd fx Bool.false_ne_true
  · cases x with
    | non => cases rx; exact ⟨⟨SeqAt.RcAt.none_tuple h hu, SeqAt.RcNeAt.none_tuple h hu⟩, SeqAt.RcAt.tuple_none h hu, SeqAt.RcNeAt.tuple_none h hu⟩
    | bl b => cases rx; exact ⟨⟨SeqAt.RcAt.bool_tuple b h hu, SeqAt.RcNeAt.bool_tuple b h hu⟩, SeqAt.RcAt.tuple_bool b h hu, SeqAt.RcNeAt.tuple_bool b h hu⟩
    | int b => obtain ⟨t, rfl⟩ := rx; exact ⟨⟨SeqAt.RcAt.int_tuple b t h hu, SeqAt.RcNeAt.int_tuple b t h hu⟩, SeqAt.RcAt.tuple_int b t h hu, SeqAt.RcNeAt.tuple_int b t h hu⟩
    | str b => obtain ⟨t, rfl⟩ := rx; exact ⟨⟨SeqAt.RcAt.str_tuple b t h hu, SeqAt.RcNeAt.str_tuple b t h hu⟩, SeqAt.RcAt.tuple_str b t h hu, SeqAt.RcNeAt.tuple_str b t h hu⟩
    | _ => exact absurd fx Bool.false_ne_true
theorem seq_is {pz : List (Addr × Obj)} {τ : L2.St} {H : Hp} {s : Shared} {a : Addr} {vs : List V} (I : Inv X pz τ H s) (h : SqL X.K H a vs ∨ SqT X.K H a vs) : ∃ items, s.heap.IsList a items ∨ s.heap.IsTuple a items := by
  rcases h with h | h
  · obtain ⟨xs9, _, p, _⟩ := I.list h
    exact ⟨_, .inl p.isList⟩
  · obtain ⟨xs9, _, p, _⟩ := I.tuple h
    exact ⟨_, .inr p⟩
theorem eqs_run {pz : List (Addr × Obj)} {τ : L2.St} {H : Hp} {s : Shared} {x y : V} {u v : Value} {b : Bool} (I : Inv X pz τ H s) (hu : X.A.units + 64 < cLine) (rx : RelV x u) (ry : RelV y v) (h : EqS X.K H x y b) :
    SeqAt.RcAt X.A s u v b ∧ SeqAt.RcNeAt X.A s u v (!b) := by
  cases h with
  | flat f g => exact eqv_flat rx ry f g
  | fs f q =>
    cases ry
    obtain ⟨items, h⟩ := seq_is I q
    exact (rc_fs rx f h (by omega)).1
  | sf f q =>
    cases rx
    obtain ⟨items, h⟩ := seq_is I q
    exact (rc_fs ry f h (by omega)).2
  | dat p q tA tB =>
    obtain ⟨as, r1⟩ := Dp.reads I _ _ u p rx
    obtain ⟨bs, r2⟩ := Dp.reads I _ _ v q ry
    exact ⟨SeqAt.rcAt_reads r1 r2 (SeqAt.canLay_of_shaped tA) (SeqAt.canLay_of_shaped tB) (SeqAt.room_of_shaped tA hu), SeqAt.rcNeAt_reads r1 r2 (SeqAt.canLay_of_shaped tA) (SeqAt.canLay_of_shaped tB) (SeqAt.room_of_shaped tA hu)⟩
def rEqS (K : PySem.W.Frag) : R2 := fun x y H Q => ∃ b, EqS K H x y b ∧ Q (.bl b) H
def rNeS (K : PySem.W.Frag) : R2 := fun x y H Q => ∃ b, EqS K H x y b ∧ Q (.bl (!b)) H
theorem op_eqS (hu : X.A.units + 64 < cLine) : OpR X (compareOp .Eq) (rEqS X.K) := fun pz s τ H x y v u Q I rx ry ⟨b, h, q⟩ => (eqs_run I hu rx ry h).1 X.prog X.w _ _ ⟨.bl b, H, I, rfl, q⟩
theorem op_neS (hu : X.A.units + 64 < cLine) : OpR X (compareOp .NotEq) (rNeS X.K) := fun pz s τ H x y v u Q I rx ry ⟨b, h, q⟩ => (eqs_run I hu rx ry h).2 X.prog X.w _ _ ⟨.bl (!b), H, I, rfl, q⟩
def dEq : D2 := fun x y m Q => ∃ b, eqK m x y = some b ∧ Q (.bl b) m
def dNe : D2 := fun x y m Q => ∃ b, eqK m x y = some b ∧ Q (.bl (!b)) m
theorem lr_eq {K : PySem.W.Frag} : LR K (rEqS K) dEq := fun x y H dx dy m Qd Q rm rx ry ⟨b, h, q⟩ k => ⟨b, eqs_of rm rx ry h, k _ H _ m (.refl H) rm (.bl b) q⟩
theorem lr_ne {K : PySem.W.Frag} : LR K (rNeS K) dNe := fun x y H dx dy m Qd Q rm rx ry ⟨b, h, q⟩ k => ⟨b, eqs_of rm rx ry h, k _ H _ m (.refl H) rm (.bl _) q⟩
end
end PD

set_option Elab.async false
set_option linter.all false
set_option maxRecDepth 100000
set_option maxHeartbeats 4000000
namespace PD
open PySem PySem.Spec PyProof.Rows L2
theorem rep_int {K : PySem.W.Frag} {H : Hp} {d : D} {v : V} {i : Int} (r : Rep K H d v) (h : d = .int i) : v = .int i := by subst h; cases r; rfl
theorem rep_str {K : PySem.W.Frag} {H : Hp} {d : D} {v : V} {i : Str} (r : Rep K H d v) (h : d = .str i) : v = .str i := by subst h; cases r; rfl
section
variable {X : Cx}
/-! ### + - * // % -/
def dAdd : D2 := fun x y m Q => match x, y with
  | .int i, .int j => Q (.int (i + j)) m
  | .str i, .str j => i.length + j.length ≤ sizeLine ∧ Q (.str (i ++ j)) m
  | .tup a, .tup b => a.length + b.length ≤ sizeLine ∧ Q (.tup (a ++ b)) m
  | .ref a, .ref b => ∃ xs ys, m a = some (.lst xs) ∧ m b = some (.lst ys) ∧ xs.length + ys.length ≤ sizeLine ∧ ∀ p, m p = none → Q (.ref p) (mset m p (.lst (xs ++ ys)))
  | _, _ => False
def rAddU (K : PySem.W.Frag) : R2 := fun x y H Q => rI0 (fun i j => .int (i + j)) x y H Q ∨ (∃ i j, x = .str i ∧ y = .str j ∧ i.length + j.length ≤ sizeLine ∧ Q (.str (i ++ j)) H) ∨ rCatA K x y H Q ∨ rCat x y H Q
theorem op_addU : OpR X (binaryOp .Add) (rAddU X.K) := op_add.or (op_add_str.or (op_catA.or op_cat))
theorem lr_add {K : PySem.W.Frag} : LR K (rAddU K) dAdd := fun x y H dx dy m Qd Q rm rx ry h k => by
  cases rx with
  | int i =>
    cases ry with
    | int j => exact .inl ⟨i, j, rfl, rfl, k _ H _ m (.refl H) rm (.int _) h⟩
    | _ => exact h.elim
  | str i =>
    cases ry with
    | str j => exact .inr (.inl ⟨i, j, rfl, rfl, h.1, k _ H _ m (.refl H) rm (.str _) h.2⟩)
    | _ => exact h.elim
  | @tup ds a vs sa ra =>
    cases ry with
    | @tup es b ws sb rb =>
      obtain ⟨hs9, h⟩ := h
      refine .inr (.inr (.inl ⟨a, b, vs, ws, rfl, rfl, sa, sb, by rw [← ra.length, ← rb.length]; exact hs9, fun e => ?_, fun e1 e2 => ?_, fun e1 e2 p hp => ?_⟩))
      · have : ds = [] := ra.nil_iff.mpr e
        subst this
        exact k _ H _ m (.refl H) rm (.tup sb rb) h
      · have : es = [] := rb.nil_iff.mpr e2
        subst this
        rw [List.append_nil] at h
        exact k _ H _ m (.refl H) rm (.tup sa ra) h
      · exact k _ _ _ m (.new hp) (rm.skip hp) (.tup (SqT.of upd_same) ((ra.append rb).mono (.new hp))) h
    | _ => exact h.elim
  | ref a =>
    cases ry with
    | ref b =>
      obtain ⟨xs, ys, h1, h2, hs9, h⟩ := h
      obtain ⟨vs, e1, r1⟩ := rm _ _ h1
      obtain ⟨ws, e2, r2⟩ := rm _ _ h2
      exact .inr (.inr (.inr ⟨a, b, vs, ws, rfl, rfl, e1, e2, by rw [← r1.length, ← r2.length]; exact hs9, fun p hp => k _ _ _ _ (.new hp) (rm.newL hp (r1.append r2)) (.ref p) (h p (rm.fresh hp))⟩))
    | _ => exact h.elim
  | _ => exact h.elim
def dInt2 (C : Int → Int → Prop) (g : Int → Int → Int) : D2 := fun x y m Q => match x, y with
  | .int i, .int j => C i j ∧ Q (.int (g i j)) m
  | _, _ => False
theorem lr_int2 {K : PySem.W.Frag} {C : Int → Int → Prop} {g : Int → Int → Int} : LR K (rI C fun i j => .int (g i j)) (dInt2 C g) := fun x y H dx dy m Qd Q rm rx ry h k => by
  cases rx with
  | int i =>
    cases ry with
    | int j => exact ⟨i, j, rfl, rfl, h.1, k _ H _ m (.refl H) rm (.int _) h.2⟩
    | _ => exact h.elim
  | _ => exact h.elim
def dSub : D2 := fun x y m Q => match x, y with
  | .int i, .int j => Q (.int (i - j)) m
  | _, _ => False
theorem lr_sub {K : PySem.W.Frag} : LR K (rI0 fun i j => .int (i - j)) dSub := fun x y H dx dy m Qd Q rm rx ry h k => by
  cases rx with
  | int i =>
    cases ry with
    | int j => exact ⟨i, j, rfl, rfl, k _ H _ m (.refl H) rm (.int _) h⟩
    | _ => exact h.elim
  | _ => exact h.elim
abbrev dFdiv : D2 := dInt2 CDiv fun i j => i / j
abbrev dMod : D2 := dInt2 (fun _ j => 0 < j) fun i j => i % j
/-! a text times a number -/
def repS (x : Str) (n : Nat) : Str := ⟨(List.replicate n x.cps).foldl (· ++ ·) #[]⟩
def rMulS : R2 := fun x y H Q => ∃ z n, x = .str z ∧ y = .int n ∧ 0 ≤ n ∧ n ≤ 1000 ∧ z.length ≤ 1000 ∧ Q (.str (repS z n.toNat)) H
theorem repS_zero (x : Str) : repS x 0 = Str.empty := rfl
theorem repS_one (x : Str) : repS x 1 = x := by
  unfold repS
  show (⟨#[] ++ x.cps⟩ : Str) = x
  rw [Array.empty_append]
theorem repS_nil (x : Str) (h : x.length = 0) : ∀ n, repS x n = x
  | 0 => by
    have e : x.cps = #[] := Array.size_eq_zero_iff.mp h
    show (⟨#[]⟩ : Str) = x
    rw [← e]
  | n + 1 => by
    have e : x.cps = #[] := Array.size_eq_zero_iff.mp h
    have ih := repS_nil x h n
    unfold repS at ih ⊢
    rw [List.replicate_succ, List.foldl_cons, e, Array.append_empty]
    rw [e] at ih
    exact ih
theorem rep_size (c : Array Nat) : ∀ (n : Nat) (acc : Array Nat), ((List.replicate n c).foldl (· ++ ·) acc).size = acc.size + n * c.size
  | 0, acc => by rw [Nat.zero_mul]; rfl
  | n + 1, acc => by
    rw [List.replicate_succ, List.foldl_cons, rep_size c n (acc ++ c), Array.size_append, Nat.succ_mul]
    omega
theorem repS_len (x : Str) (n : Nat) : (repS x n).length = n * x.length := by
  show ((List.replicate n x.cps).foldl (· ++ ·) #[]).size = _
  rw [rep_size]
  show 0 + n * x.cps.size = n * x.cps.size
  omega
theorem op_mulS : OpR X (binaryOp .Mult) rMulS := by
  intro pz s τ H x y v u Q I rx ry h
  obtain ⟨z, n, rfl, rfl, h0, h1, hs9, q⟩ := h
  obtain ⟨t, rfl⟩ := rx
  obtain ⟨t', rfl⟩ := ry
  have le9 : z.length * n.toNat ≤ 1000000 := Nat.mul_le_mul hs9 (show n.toNat ≤ 1000 by omega)
  refine PySem.P.mul_str ?_ ?_ ?_ ?_
  · rw [decide_eq_false (by omega), decide_eq_false (by omega)]; rfl
  · intro g _ hgt
    have g2 : (1000 : Int) ≤ (2 ^ 63 - 1) / n := by
      rw [Int.le_ediv_iff_mul_le (by omega)]
      omega
    omega
  · intro _ _
    unfold Builtin.Str.tooLong
    rw [decide_eq_false]
    rw [sizeLine_eq]
    omega
  · by_cases h2 : n < 1
    · rw [if_pos h2]
      have e : n.toNat = 0 := by omega
      rw [e] at q
      exact ⟨by decide, .str _, H, I.tok _, ⟨_, rfl⟩, q⟩
    · rw [if_neg h2]
      by_cases h3 : (n == 1 || z.length == 0) = true
      · rw [if_pos h3]
        have e : repS z n.toNat = z := by
          rw [Bool.or_eq_true, beq_iff_eq, beq_iff_eq] at h3
          rcases h3 with e | e
          · subst e; exact repS_one z
          · exact repS_nil z e _
        rw [e] at q
        exact ⟨.str _, H, I, ⟨_, rfl⟩, q⟩
      · rw [if_neg h3]
        refine ⟨?_, .str _, H, I.tok _, ⟨_, rfl⟩, q⟩
        show (repS z n.toNat).length ≤ sizeLine
        rw [repS_len, sizeLine_eq, Nat.mul_comm]
        omega
def dMul : D2 := fun x y m Q => match x, y with
  | .int i, .int j => CMul i j ∧ Q (.int (i * j)) m
  | .str z, .int n => 0 ≤ n ∧ n ≤ 1000 ∧ z.length ≤ 1000 ∧ Q (.str (repS z n.toNat)) m
  | _, _ => False
def rMulU : R2 := fun x y H Q => rI CMul (fun i j => .int (i * j)) x y H Q ∨ rMulS x y H Q
theorem op_mulU : OpR X (binaryOp .Mult) rMulU := op_mul.or op_mulS
theorem lr_mul {K : PySem.W.Frag} : LR K rMulU dMul := fun x y H dx dy m Qd Q rm rx ry h k => by
  cases rx with
  | int i =>
    cases ry with
    | int j => exact .inl ⟨i, j, rfl, rfl, h.1, k _ H _ m (.refl H) rm (.int _) h.2⟩
    | _ => exact h.elim
  | str i =>
    cases ry with
    | int j => exact .inr ⟨i, j, rfl, rfl, h.1, h.2.1, h.2.2.1, k _ H _ m (.refl H) rm (.str _) h.2.2.2⟩
    | _ => exact h.elim
  | _ => exact h.elim
end
end PD

set_option Elab.async false
set_option linter.all false
set_option maxRecDepth 100000
set_option maxHeartbeats 4000000
namespace PD
open PySem PySem.Spec PyProof.Rows L2
section
variable {X : Cx}
/-! ### - x; orders; is None -/
def LU (K : PySem.W.Frag) (r : V → Hp → VK → Prop) (d : D → Mu → DK → Prop) : Prop := ∀ x H dx m (Qd : DK) (Q : VK), RM K H m → Rep K H dx x → d dx m Qd →
  (∀ v H' dv m', TX H H' → RM K H' m' → Rep K H' dv v → Qd dv m' → Q v H') → r x H Q
def dUn (r : D → Mu → DK → Prop) (a : DE) : DE := fun s m Q => a s m fun x m1 => r x m1 Q
theorem ge_un {a : Expr} {pos : Pos} {da : DE} {op : UnaryOp} {r : V → Hp → VK → Prop} {d : D → Mu → DK → Prop} (ho : UnR X (unaryOp op) r) (lr : LU X.K r d) (ha : GE X a da) : GE X (.UnaryOp op a pos) (dUn d da) := by
  obtain ⟨ta, p, l⟩ := ha.ex
  refine .of ⟨_, pe_un ho p, fun s H sd m Qd Q rs rm h k => ?_⟩
  refine l s H sd m _ _ rs rm h fun v H1 dv m1 t1 rm1 r1 h1 => ?_
  exact lr v H1 dv m1 Qd Q rm1 r1 h1 fun v' H' dv' m' t' a b c => k v' H' dv' m' (t1.trans t') a b c
def dNeg : D → Mu → DK → Prop := fun x m Q => match x with | .int i => Q (.int (-i)) m | _ => False
theorem lu_neg {K : PySem.W.Frag} : LU K (rU fun i => .int (-i)) dNeg := fun x H dx m Qd Q rm rx h k => by
  cases rx with
  | int i => exact ⟨i, rfl, k _ H _ m (.refl H) rm (.int _) h⟩
  | _ => exact h.elim
def dCmp (g : Int → Int → Bool) : D2 := fun x y m Q => match x, y with
  | .int i, .int j => Q (.bl (g i j)) m
  | _, _ => False
theorem lr_cmp {K : PySem.W.Frag} {g : Int → Int → Bool} : LR K (rI0 fun i j => .bl (g i j)) (dCmp g) := fun x y H dx dy m Qd Q rm rx ry h k => by
  cases rx with
  | int i =>
    cases ry with
    | int j => exact ⟨i, j, rfl, rfl, k _ H _ m (.refl H) rm (.bl _) h⟩
    | _ => exact h.elim
  | _ => exact h.elim
abbrev dLt : D2 := dCmp fun i j => decide (i < j)
abbrev dLe : D2 := dCmp fun i j => decide (i ≤ j)
abbrev dGt : D2 := dCmp fun i j => decide (j < i)
abbrev dGe : D2 := dCmp fun i j => decide (j ≤ i)
def isNon : D → Bool
  | .non => true
  | _ => false
def dIsN : D2 := fun x y m Q => match y with | .non => Q (.bl (isNon x)) m | _ => False
def dNotN : D2 := fun x y m Q => match y with | .non => Q (.bl (!isNon x)) m | _ => False
theorem Rep.isNon {K : PySem.W.Frag} {H : Hp} {d : D} {v : V} (r : Rep K H d v) : decide (v = .non) = isNon d := by
  cases r <;> first | rfl | exact decide_eq_false (fun z => nomatch z)
theorem lr_isN {K : PySem.W.Frag} : LR K (fun x y H Q => y = .non ∧ Q (.bl (decide (x = .non))) H) dIsN := fun x y H dx dy m Qd Q rm rx ry h k => by
  cases ry with
  | non => exact ⟨rfl, k _ H _ m (.refl H) rm (by rw [rx.isNon]; exact .bl _) h⟩
  | _ => exact h.elim
theorem lr_notN {K : PySem.W.Frag} : LR K (fun x y H Q => y = .non ∧ Q (.bl (!decide (x = .non))) H) dNotN := fun x y H dx dy m Qd Q rm rx ry h k => by
  cases ry with
  | non => exact ⟨rfl, k _ H _ m (.refl H) rm (by rw [rx.isNon]; exact .bl _) h⟩
  | _ => exact h.elim
/-! ### in, not in: flat items; texts -/
def inF (x : D) (ds : List D) : Bool := ds.any fun y => eqF y x
def dInG (f : Bool → Bool) : D2 := fun x y m Q => match y with
  | .str z => match x with
    | .str w => Q (.bl (f (!(Builtin.Str.occurrences z w 0 z.length 1).isEmpty))) m
    | _ => False
  | y => ∃ ds, seqOf m y = some ds ∧ flatD x = true ∧ ds.all flatD = true ∧ Q (.bl (f (inF x ds))) m
abbrev dIn : D2 := dInG fun b => b
abbrev dNotIn : D2 := dInG fun b => !b
def rInU (K : PySem.W.Frag) : R2 := fun x y H Q => (∃ i j, x = .str i ∧ y = .str j ∧ Q (.bl (!(Builtin.Str.occurrences j i 0 j.length 1).isEmpty)) H) ∨ rIn K false x y H Q
def rNotInU (K : PySem.W.Frag) : R2 := fun x y H Q => (∃ i j, x = .str i ∧ y = .str j ∧ Q (.bl (!(!(Builtin.Str.occurrences j i 0 j.length 1).isEmpty))) H) ∨ rIn K true x y H Q
theorem op_inU : OpR X (compareOp .In) (rInU X.K) := op_in_str.or op_in_seq
theorem op_notInU : OpR X (compareOp .NotIn) (rNotInU X.K) := op_notIn_str.or op_notIn_seq
theorem in_seq {K : PySem.W.Frag} {f : Bool → Bool} {neg : Bool} (hf : ∀ b, f b = if neg then !b else b) {x y : V} {H : Hp} {dx dy : D} {m : Mu} {Qd : DK} {Q : VK} (rm : RM K H m) (rx : Rep K H dx x) (ry : Rep K H dy y)
    (h : ∃ ds, seqOf m dy = some ds ∧ flatD dx = true ∧ ds.all flatD = true ∧ Qd (.bl (f (inF dx ds))) m)
    (k : ∀ v H' dv m', TX H H' → RM K H' m' → Rep K H' dv v → Qd dv m' → Q v H') : rIn K neg x y H Q := by
  obtain ⟨ds, e, fx, g, q⟩ := h
  obtain ⟨a, vs, rfl, s, r⟩ := seq_rep rm ry e
  refine ⟨a, vs, rfl, s, rx.flat fx, r.flat g, ?_⟩
  rw [RepL.inV rx fx r g, ← hf]
  exact k _ H _ m (.refl H) rm (.bl _) q
theorem lr_in {K : PySem.W.Frag} : LR K (rInU K) dIn := fun x y H dx dy m Qd Q rm rx ry h k => by
  have hf : ∀ b : Bool, (fun b : Bool => b) b = if false then !b else b := fun b => rfl
  cases ry with
  | str z =>
    cases rx with
    | str w => exact .inl ⟨w, z, rfl, rfl, k _ H _ m (.refl H) rm (.bl _) h⟩
    | _ => exact h.elim
  | ref a => exact .inr (in_seq hf rm rx (.ref a) h k)
  | tup s r => exact .inr (in_seq hf rm rx (.tup s r) h k)
  | rol s r => exact .inr (in_seq hf rm rx (.rol s r) h k)
  | non => exact .inr (in_seq hf rm rx .non h k)
  | bl b => exact .inr (in_seq hf rm rx (.bl b) h k)
  | int b => exact .inr (in_seq hf rm rx (.int b) h k)
theorem lr_notIn {K : PySem.W.Frag} : LR K (rNotInU K) dNotIn := fun x y H dx dy m Qd Q rm rx ry h k => by
  have hf : ∀ b : Bool, (fun b : Bool => !b) b = if true then !b else b := fun b => rfl
  cases ry with
  | str z =>
    cases rx with
    | str w => exact .inl ⟨w, z, rfl, rfl, k _ H _ m (.refl H) rm (.bl _) h⟩
    | _ => exact h.elim
  | ref a => exact .inr (in_seq hf rm rx (.ref a) h k)
  | tup s r => exact .inr (in_seq hf rm rx (.tup s r) h k)
  | rol s r => exact .inr (in_seq hf rm rx (.rol s r) h k)
  | non => exact .inr (in_seq hf rm rx .non h k)
  | bl b => exact .inr (in_seq hf rm rx (.bl b) h k)
  | int b => exact .inr (in_seq hf rm rx (.int b) h k)
/-! ### x[i] -/
def dIx : D2 := fun x y m Q => match x with
  | .str z => match y with
    | .int i => z.length ≤ sizeLine ∧ ∃ c, atI z.cps.toList i = some c ∧ Q (.str ⟨#[c]⟩) m
    | _ => False
  | x => match y with
    | .int i => ∃ ds, seqOf m x = some ds ∧ ∃ d, atI ds i = some d ∧ Q d m
    | _ => False
theorem RepL.atI {K : PySem.W.Frag} {H : Hp} {ds : List D} {vs : List V} {i : Int} {d : D} (r : RepL K H ds vs) (h : L2.atI ds i = some d) : ∃ v, L2.atI vs i = some v ∧ Rep K H d v := by
  unfold L2.atI at h ⊢
  rw [← r.length]
  cases e : ixN ds.length i with
  | none => rw [e] at h; cases h
  | some j => rw [e] at h; exact r.get h
theorem ge_ix {a b : Expr} {pos : Pos} {da db : DE} (ha : GE X a da) (hb : GE X b db) (hs : PlainIx b := by exact fun _ _ => rfl) : GE X (.Subscript a b pos) (dOp dIx da db) := by
  obtain ⟨ta, p, l⟩ := ha.ex
  obtain ⟨tb, q, l2⟩ := hb.ex
  refine .of ⟨_, pe_ix ix_seq p q hs, l.op l2 fun x y H dx dy m Qd Q rm rx ry h k => ?_⟩
  have go : ∀ {dx : D} {i : Int}, Rep X.K H dx x → (∃ ds, seqOf m dx = some ds ∧ ∃ d, L2.atI ds i = some d ∧ Qd d m) → rIx X.K x (.int i) H Q := fun {dx i} rx h => by
    obtain ⟨ds, e, d, e2, q⟩ := h
    obtain ⟨a, vs, rfl, s, r⟩ := seq_rep rm rx e
    obtain ⟨v, e3, ra9⟩ := r.atI e2
    rcases s with s | s
    · exact .inl ⟨a, vs, i, v, rfl, rfl, s, e3, k v H d m (.refl H) rm ra9 q⟩
    · exact .inr (.inl ⟨a, vs, i, v, rfl, rfl, s, e3, k v H d m (.refl H) rm ra9 q⟩)
  cases ry with
  | int i =>
    cases rx with
    | str z =>
      obtain ⟨hs9, c, e, q⟩ := h
      exact .inr (.inr ⟨z, i, c, rfl, rfl, hs9, e, k _ H _ m (.refl H) rm (.str _) q⟩)
    | non => exact go .non h
    | bl b => exact go (.bl b) h
    | int b => exact go (.int b) h
    | ref a => exact go (.ref a) h
    | tup s r => exact go (.tup s r) h
    | rol s r => exact go (.rol s r) h
  | _ => cases rx <;> exact h.elim
/-! ### slices -/
abbrev DO := Sd → Mu → (Option Int → Mu → Prop) → Prop
structure GO (X : Cx) (e : Option Expr) (d : DO) : Prop where
  ex : ∃ t, PO X e t ∧ ∀ s H sd m (Qd : Option Int → Mu → Prop) (Q : Option Int → Hp → Prop), RS X.K H sd s → RM X.K H m → d sd m Qd → (∀ o H' m', TX H H' → RM X.K H' m' → Qd o m' → Q o H') → t s H Q
def dNoPart : DO := fun _ m Q => Q none m
def dPart (d : DE) : DO := fun s m Q => d s m fun x m1 => match x with | .int i => Q (some i) m1 | _ => False
theorem go_none : GO X none dNoPart := ⟨_, po_none, fun _ H _ m _ _ _ rm h k => k none H m (.refl H) rm h⟩
theorem go_some {e : Expr} {d : DE} (h : GE X e d) : GO X (some e) (dPart d) := by
  obtain ⟨t, p, l⟩ := h.ex
  refine ⟨_, po_some p, fun s H sd m Qd Q rs rm h k => ?_⟩
  refine l s H sd m _ _ rs rm h fun v H1 dv m1 t1 rm1 r1 h1 => ?_
  cases r1 with
  | int i => exact ⟨i, rfl, k _ H1 m1 t1 rm1 h1⟩
  | _ => exact h1.elim
def cutD {α : Type} (xs : List α) (lo hi : Option Int) : List α := (xs.drop (HT.sIx xs.length 0 lo)).take (HT.sIx xs.length xs.length hi - HT.sIx xs.length 0 lo)
theorem RepL.cut {K : PySem.W.Frag} {H : Hp} {ds : List D} {vs : List V} (r : RepL K H ds vs) (lo hi : Option Int) : RepL K H (cutD ds lo hi) (cutV vs lo hi) := by
  unfold cutD cutV
  rw [r.length]
  exact (r.drop _).take _
def dSl (de : DE) (dl dh : DO) : DE := fun s m Q => de s m fun x m1 => dl s m1 fun lo m2 => dh s m2 fun hi m3 => match x with
  | .tup ds => Q (.tup (cutD ds lo hi)) m3
  | .ref a => ∃ ds, seqOf m3 (.ref a) = some ds ∧ ∀ p, m3 p = none → Q (.ref p) (mset m3 p (.lst (cutD ds lo hi)))
  | _ => False
theorem ge_slice {e : Expr} {lo hi : Option Expr} {pos p2 : Pos} {de : DE} {dl dh : DO} (he : GE X e de) (hl : GO X lo dl) (hh : GO X hi dh) : GE X (.Subscript e (.Slice lo hi none p2) pos) (dSl de dl dh) := by
  obtain ⟨te, p, l⟩ := he.ex
  obtain ⟨tl, q, l2⟩ := hl.ex
  obtain ⟨th, q2, l3⟩ := hh.ex
  refine .of ⟨_, pe_slice (sl_tupA.or sl_list) p q q2, fun s H sd m Qd Q rs rm h k => ?_⟩
  refine l s H sd m _ _ rs rm h fun v H1 dv m1 t1 rm1 r1 h1 => ?_
  refine l2 s H1 sd m1 _ _ (rs.mono t1) rm1 h1 fun lo H2 m2 t2 rm2 h2 => ?_
  refine l3 s H2 sd m2 _ _ (rs.mono (t1.trans t2)) rm2 h2 fun hi H3 m3 t3 rm3 h3 => ?_
  have r3 := r1.mono (t2.trans t3)
  have t13 := t1.trans (t2.trans t3)
  cases r3 with
  | @tup ds a vs sa ra =>
    refine .inl ⟨a, vs, rfl, sa, fun e => ?_, fun e p hp => ?_⟩
    · have e2 : cutD ds lo hi = ds := by
        unfold cutD
        rw [ra.length, e.1, e.2, List.drop_zero, Nat.sub_zero, ← ra.length, List.take_length]
      have h4 : Qd (.tup (cutD ds lo hi)) m3 := h3
      rw [e2] at h4
      exact k _ H3 _ m3 t13 rm3 (.tup sa ra) h4
    · exact k _ _ _ m3 (t13.trans (.new hp)) (rm3.skip hp) (.tup (SqT.of upd_same) ((ra.cut lo hi).mono (.new hp))) h3
  | ref a =>
    obtain ⟨ds, e, q⟩ := h3
    obtain ⟨vs, sl, r⟩ := ref_rep rm3 e
    exact .inr ⟨a, vs, rfl, sl, fun p hp => k _ _ _ _ (t13.trans (.new hp)) (rm3.newL hp (r.cut lo hi)) (.ref p) (q p (rm3.fresh hp))⟩
  | _ => exact h3.elim
end
end PD

set_option Elab.async false
set_option linter.all false
set_option maxRecDepth 100000
set_option maxHeartbeats 4000000
/-! enumerate(tuple) -/
namespace PySem
open Sem (wp)
open AutoSeq1 (wpAny_loadPart')
theorem pd_meets_enumT (l : Addr) (gs9 : Array Value) (n : Nat) (dc9 : Option Addr) (sl : Array (Option Value)) :
    Meets (Builtin.«enumerate.__new__» ⟨[.type "enumerate", .ref l], []⟩) (fun _ R s => s.heap.get? l = some { cls := .type "tuple", dict := dc9, data := .seq gs9 n, slots := sl } ∧
      R (.ok (.ret (.ref (s.heap.push { cls := .type "tuple_iterator", data := .fields #[.ref l, .int 0 0] }).objs.size)))
        { s with heap := (s.heap.push { cls := .type "tuple_iterator", data := .fields #[.ref l, .int 0 0] }).push { cls := .type "enumerate", data := .fields #[.none, .bool false, .ref s.heap.objs.size, rawInt 0, .none, .none] } }) :=
  .of_wp fun pg9 w A R s h => by
    obtain ⟨hp, g, d, tk9, os9⟩ := s; obtain ⟨ha9, h⟩ := h
    have hsub := sub_enumerate
    have hL : Heap.IsTuple (Shared.heap ⟨hp, g, d, tk9, os9⟩) l gs9 := ⟨_, ha9, rfl, n, rfl⟩
    wp_walk using wpAny_loadPart' ha9
    refine wpAny_stack_any fun st => wpAny_pure ?_
    split
    · rename_i c _ _ _ _ _
      cases (c == Value.type "enumerate")
      · wp_walk using wpAny_loadPart' ha9, wpAny_pyIter_tuple hL
        exact ⟨_, rfl, h⟩
      · wp_walk using wpAny_loadPart' ha9, wpAny_pyIter_tuple hL
        exact ⟨_, rfl, h⟩
    · wp_walk using wpAny_loadPart' ha9, wpAny_pyIter_tuple hL
      exact ⟨_, rfl, h⟩
section
variable {pg9 : Program} {w : World} {A : Around} {E : Value → Shared → Prop} {s : Shared}
theorem pd_call_enumT {l : Addr} {gs9 : Array Value} {Q : Value → Shared → Prop} (hL : s.heap.IsTuple l gs9)
    (h : ∀ h', IsEnum h' (s.heap.objs.size + 1) s.heap.objs.size 0 .none → h'.IsTupleIter s.heap.objs.size l 0 → h'.objs.size = s.heap.objs.size + 2 →
      (∀ b o, s.heap.get? b = some o → h'.get? b = some o) → Q (.ref (s.heap.objs.size + 1)) { s with heap := h' }) :
    wpAny (model pg9 w) A (call (.type "enumerate") [.ref l]) Q E s := by
  obtain ⟨⟨c, dc9, dt9, sl⟩, ha9, ca9, n, da9⟩ := hL
  replace ca9 : c = .type "tuple" := ca9
  replace da9 : dt9 = .seq gs9 n := da9
  subst ca9 da9
  refine callType_new F.called_enumerate (by decide) (F.typeCall_enumerate_1 _) (F.newCall_enumerate_1 _) (fun obj => F.args_object_init_2 obj _) F.entry_enumerate_new
    (pd_meets_enumT l gs9 n dc9 sl) ⟨ha9, ?_⟩
  have hs9 : (s.heap.push { cls := .type "tuple_iterator", data := .fields #[.ref l, .int 0 0] }).objs.size = s.heap.objs.size + 1 := Heap.size_push ..
  show _ ∧ _
  rw [hs9]
  have ea9 : IsEnum ((s.heap.push { cls := .type "tuple_iterator", data := .fields #[.ref l, .int 0 0] }).push
      { cls := .type "enumerate", data := .fields #[.none, .bool false, .ref s.heap.objs.size, rawInt 0, .none, .none] }) (s.heap.objs.size + 1) s.heap.objs.size 0 .none := by
    have := Heap.get?_push_size (s.heap.push { cls := .type "tuple_iterator", data := .fields #[.ref l, .int 0 0] })
      (o := { cls := .type "enumerate", data := .fields #[.none, .bool false, .ref s.heap.objs.size, rawInt 0, .none, .none] }) rfl
    rw [hs9] at this; exact this
  refine ⟨⟨_, ea9, rfl⟩, h _ ea9 ⟨_, Heap.get?_push_of_some _ (Heap.get?_push_size _ rfl), rfl, rfl⟩ (by rw [Heap.size_push, hs9]) fun b o x => Heap.get?_push_of_some _ (Heap.get?_push_of_some _ x)⟩
end
end PySem
namespace PD
open PySem PySem.Spec PyProof.Rows L2
def Itet (K : PySem.W.Frag) (a : Addr) : It :=
  ⟨fun i H => ∃ (xs : List V) (x : V), SqT K H a xs ∧ xs[i]? = some x, fun i H v H' => ∃ T x, v = .ref T ∧ H T = none ∧ H' = upd H T (.tup [.int (i : Nat), x]) ∧ ∀ xs, SqT K H a xs → xs[i]? = some x, fun i H => ∃ xs : List V, SqT K H a xs ∧ xs.length ≤ i⟩
theorem turn_enumT {P : Program} {w : World} {K : PySem.W.Frag} {elts : List Expr} {kk : Nat} {tpos : Pos} (a e jt9 : Addr) :
    Turn P w K (.Tuple elts kk tpos) (Itet K a) [e, jt9] e (fun i h => (∃ ol9, IsEnum h e jt9 ((i : Nat) : Int) ol9) ∧ h.IsTupleIter jt9 a i ∧ e ≠ jt9) where
  mem := by simp
  obj := fun i h st b hb => by
    obtain ⟨⟨ol9, ea9⟩, ⟨o, oa9, ca9, da9⟩, _⟩ := st
    have ee9 : b = e ∨ b = jt9 := by simpa using hb
    rcases ee9 with z | z
    · rw [z]; exact ⟨_, ea9, fun v q => nomatch q⟩
    · rw [z]; exact ⟨o, oa9, fun v q => by rw [da9] at q; cases q⟩
  keep := fun i h h' st k => let ⟨⟨ol9, ea9⟩, hi, na9⟩ := st; ⟨⟨ol9, k e (by simp) _ ea9⟩, hi.at fun o q => k jt9 (by simp) o q, na9⟩
  item := by
    intro X hP hw hK ca9 i pz s τ H E I fa9 st hg
    subst hP hw hK
    obtain ⟨⟨ol9, ea9⟩, ia9, na9⟩ := st
    obtain ⟨xs, x, hq, hx⟩ := hg
    obtain ⟨xs9, ra9, pp9, hs9⟩ := I.tuple hq
    obtain ⟨u, hu, ru⟩ := ra9.get hx
    have ka9 : e < s.heap.objs.size := Heap.lt_size ea9
    have la9 : jt9 < s.heap.objs.size := by obtain ⟨_, q, _⟩ := ia9; exact Heap.lt_size q
    have hta : a ≠ jt9 := fun z => by
      obtain ⟨o1, q1, c1, _⟩ := ia9
      obtain ⟨o2, q2, c2, _⟩ := id pp9
      rw [z, q1] at q2; cases q2
      rw [c1] at c2; exact absurd c2 (by decide)
    have hte : e ≠ a := fun z => by
      obtain ⟨o2, q2, c2, _⟩ := id pp9
      have he' : s.heap.get? e = some _ := ea9
      rw [z, q2] at he'; cases he'
      have c3 : Value.type "enumerate" = Value.type "tuple" := c2
      exact absurd c3 (by decide)
    have hd1 : X.A.in1.handled = none := I.ok.hd ca9
    have Dr := Draws.tuple (prog := X.prog) (w := X.w) (A := X.A.in1) hd1 jt9 a hta xs9.toArray
    refine wpAny_pyNext_enum_itemD Dr ea9 ⟨ia9, pp9⟩ (by have := (List.getElem?_eq_some_iff.mp hu).1; simpa using this) na9 (fun z => by
      have ee9 : e = jt9 ∨ e = a := by simpa using z
      rcases ee9 with q | q
      · exact na9 q
      · exact hte q) fun y h' tk9 hy oa9 st' hT za9 ga9 => ?_
    have hyu : y = u := by
      have hy' : xs9.toArray[i]? = some y := hy
      have hu' : xs9.toArray[i]? = some u := by simpa using hu
      rw [hu'] at hy'; cases hy'; rfl
    subst hyu
    obtain ⟨hit', hta'⟩ := st'
    refine ⟨_, rfl, wpAny_letOwnedTupleGo_enum (s := { s with heap := h', toks := tk9 + 1 }) oa9 fun h'' he' sb => ?_⟩
    have hT2 : h''.get? s.heap.objs.size = some { cls := .type "tuple", data := .seq #[.int i tk9, y] } := (sb.2 _ (Nat.ne_of_gt ka9)).trans hT
    have nw9 : ObjOk X.prog X.w (upd H s.heap.objs.size (.tup [.int (i : Nat), x])) h'' s.heap.objs.size (.tup [.int (i : Nat), x]) :=
      ⟨by show 2 ≤ sizeLine; decide, [.int i tk9, y], .cons ⟨_, rfl⟩ (.cons ru .nil), ⟨_, hT2, rfl, _, rfl⟩⟩
    have iA : Inv X pz τ (upd H s.heap.objs.size (.tup [.int (i : Nat), x])) { s with heap := h'', toks := tk9 + 1 } :=
      I.turnedNew (ch := [e, jt9]) (fun b ob hb q => (sb.2 b (fun z => hb (by simp [z]))).trans (ga9 b ob (fun z => hb (by simp [z])) (fun z => hb (by simp [z])) q)) fa9 (Nat.le_refl _) nw9
    refine ⟨.ref s.heap.objs.size, _, iA, rfl, ⟨_, x, rfl, I.hok.fresh (Nat.le_refl _), rfl, fun ys hy => by rw [I.tuple_inj hy hq]; exact hx⟩, ⟨⟨y, ?_⟩, hit'.at fun o q => (sb.2 jt9 (Ne.symm na9)).trans q, na9⟩, fun b hb => ?_⟩
    · have e1 : ((i + 1 : Nat) : Int) = (i : Int) + 1 := by omega
      rw [e1]; exact he'
    · have bb9 : b < s.heap.objs.size := by
        have ee9 : b = e ∨ b = jt9 := by simpa using hb
        rcases ee9 with z | z
        · rw [z]; exact ka9
        · rw [z]; exact la9
      rw [upd_ne (Nat.ne_of_lt bb9)]
      exact (fa9 b hb).1
  done := by
    intro X hP hw hK ca9 i pz s τ H E I fa9 st hg
    subst hP hw hK
    obtain ⟨⟨ol9, ea9⟩, ia9, na9⟩ := st
    obtain ⟨xs, hq, hx⟩ := hg
    obtain ⟨xs9, ra9, pp9, hs9⟩ := I.tuple hq
    obtain ⟨f0, f1, f2, f3, f4, f5⟩ := fa9 jt9 (by simp)
    have ha9 := ra9.length
    have hta : a ≠ jt9 := fun z => by
      obtain ⟨o1, q1, c1, _⟩ := ia9
      obtain ⟨o2, q2, c2, _⟩ := id pp9
      rw [z, q1] at q2; cases q2
      rw [c1] at c2; exact absurd c2 (by decide)
    have hd1 : X.A.in1.handled = none := I.ok.hd ca9
    unfold pyNext
    refine wpAny_bind (wpAny_attempt (wpAny_callSpecial?_slot (name := Str.ofString "__next__") ⟨_, ea9, rfl⟩ F.slot_enumerate_next
      (wpAny_call_entry F.slot_enumerate_next ⟨_, ea9, rfl⟩ F.entry_enumerate_next ?_ (F.args_enumerate_next_1 _))))
    show wpAny _ _ (field (.ref e) 2 >>= _) _ _ _
    refine wpAny_bind (wpAny_field ea9 rfl (x := .ref jt9) rfl ?_)
    refine wpAny_bind (wpAny_nextOf_tuple_end hd1 ia9 pp9 (by simp; omega) fun h' x he' hx' => ?_)
    obtain ⟨o, oa9, ca9⟩ := hx'
    refine wpAny_bind (wpAny_isInstance (T := "StopIteration") (b := true) ⟨o, oa9, ca9⟩ isSubtype_stop ?_)
    exact wpAny_pure ⟨rfl, I.turned (t' := s.toks) (fun b o hb q => he' b o hb q) f0 f1 f3 f4 f5⟩
  self := fun A i s Q E st h => let ⟨⟨_, ea9⟩, _⟩ := st; wpAny_pyIter_enum ea9 h
def iEnumT (K : PySem.W.Frag) (ta : TA) : TI := fun τ H R => ta τ H fun vs H1 => ∃ a, vs = [.ref a] ∧ ((∃ xs, SqL K H1 a xs ∧ R (Ite K a) H1) ∨ (∃ xs, SqT K H1 a xs ∧ R (Itet K a) H1))
theorem pi_enumT {X : Cx} {e : Expr} {ta : TA} {pp9 pos tpos : Pos} {elts : List Expr} {kk : Nat} (hg : Gl X "enumerate") (hm : X.mg "enumerate" = none) (ha : PA X [e] ta) (hs : starEach [e] X.env = [(false, eval e X.env)] := by rfl) :
    PI X (.Tuple elts kk tpos) (.Call (.Name "enumerate" pp9) [e] [] pos) (iEnumT X.K ta) := by
  refine ⟨fun pz s τ H R I h => ?_⟩
  refine Call_ (ld_blt I hg hm boot_enumerate (PyProof.Rows.callWith_type1 (thn (ha.run pos pz s τ H _ I h) fun us tA ⟨vs, H1, iA, r1, q1⟩ => ?_) hs rfl))
  obtain ⟨a, ex, q⟩ := q1
  subst ex
  cases r1 with
  | cons r rr =>
    cases rr
    cases r
    have fin : ∀ b ∈ [tA.heap.objs.size + 1, tA.heap.objs.size], FpOk X pz H1 b := fun b hb => by
      have ee9 : b = tA.heap.objs.size + 1 ∨ b = tA.heap.objs.size := by simpa using hb
      have le9 : tA.heap.objs.size ≤ b := by
        rcases ee9 with z | z
        · rw [z]; exact Nat.le_add_right _ _
        · rw [z]; exact Nat.le_refl _
      exact iA.fpOk le9 (iA.hok.fresh le9)
    rcases q with ⟨xs, hq, q⟩ | ⟨xs, hq, q⟩
    · obtain ⟨xs9, ra9, p', hs9⟩ := iA.list hq
      refine call_enumerate_list p'.isList fun h' ea9 ia9 za9 ga9 => wpAny_pyIter_enum ea9 ?_
      have iB : Inv X pz τ H1 { tA with heap := h' } := iA.kept (t' := tA.toks) ga9
      exact ⟨tA.heap.objs.size + 1, [tA.heap.objs.size + 1, tA.heap.objs.size], _, _, H1, rfl, iB, turn_enum a (tA.heap.objs.size + 1) tA.heap.objs.size, ⟨⟨.none, ea9⟩, ia9, Nat.succ_ne_self _⟩, fin, q⟩
    · obtain ⟨xs9, ra9, p', hs9⟩ := iA.tuple hq
      refine pd_call_enumT (show tA.heap.IsTuple a xs9.toArray from p') fun h' ea9 ia9 za9 ga9 => wpAny_pyIter_enum ea9 ?_
      have iB : Inv X pz τ H1 { tA with heap := h' } := iA.kept (t' := tA.toks) ga9
      exact ⟨tA.heap.objs.size + 1, [tA.heap.objs.size + 1, tA.heap.objs.size], _, _, H1, rfl, iB, turn_enumT a (tA.heap.objs.size + 1) tA.heap.objs.size, ⟨⟨.none, ea9⟩, ia9, Nat.succ_ne_self _⟩, fin, q⟩
def iSeq (K : PySem.W.Frag) (tl : TE) : TI := fun τ H R => tl τ H fun x H1 => ∃ a, x = .ref a ∧ ((∃ xs, SqL K H1 a xs ∧ R (Itl K a) H1) ∨ (∃ xs, SqT K H1 a xs ∧ R (Itt K a) H1))
theorem pi_seq {X : Cx} {tg l : Expr} {tl : TE} (ha9 : PE X l tl) : PI X tg l (iSeq X.K tl) := by
  refine ⟨fun pz s τ H R I h => ?_⟩
  refine thn (ha9.run pz s τ H _ I h) fun v tA ⟨x, H1, iA, r1, q1⟩ => ?_
  obtain ⟨a, e, q⟩ := q1
  subst e
  cases r1
  rcases q with ⟨xs, hq, q⟩ | ⟨xs, hq, q⟩
  · obtain ⟨xs9, ra9, pp9, hs9⟩ := iA.list hq
    refine wpAny_pyIter_list pp9.isList ?_
    refine ⟨tA.heap.objs.size, [tA.heap.objs.size], _, _, H1, rfl, iA.kept (t' := tA.toks) fun b o e => Heap.get?_push_of_some _ e, turn_list a _, ⟨_, Heap.get?_push_size _ rfl, rfl, rfl⟩, fun b hb => ?_, q⟩
    have e : b = tA.heap.objs.size := by simpa using hb
    subst e
    exact iA.fpOk (Nat.le_refl _) (iA.hok.fresh (Nat.le_refl _))
  · obtain ⟨xs9, ra9, pp9, hs9⟩ := iA.tuple hq
    refine wpAny_pyIter_tuple (show tA.heap.IsTuple a xs9.toArray from pp9) ?_
    refine ⟨tA.heap.objs.size, [tA.heap.objs.size], _, _, H1, rfl, iA.kept (t' := tA.toks) fun b o e => Heap.get?_push_of_some _ e, turn_tuple a _, ⟨_, Heap.get?_push_size _ rfl, rfl, rfl⟩, fun b hb => ?_, q⟩
    have e : b = tA.heap.objs.size := by simpa using hb
    subst e
    exact iA.fpOk (Nat.le_refl _) (iA.hok.fresh (Nat.le_refl _))
end PD

set_option Elab.async false
set_option linter.all false
set_option maxRecDepth 100000
set_option maxHeartbeats 4000000
namespace PD
open PySem PySem.Spec PyProof.Rows L2
section
variable {X : Cx}
/-! ### displays -/
def dTup (a : DA) : DE := fun s m Q => a s m fun ds m1 => ds.length ≤ sizeLine ∧ Q (.tup ds) m1
def dLst (a : DA) : DE := fun s m Q => a s m fun ds m1 => ds.length ≤ sizeLine ∧ ∀ p, m1 p = none → Q (.ref p) (mset m1 p (.lst ds))
theorem ge_tup {es : List Expr} {pos : Pos} {x1} {da : DA} (h : GA X es da) : GE X (.Tuple es x1 pos) (dTup da) := by
  obtain ⟨ta, p, l⟩ := h.ex
  refine .of ⟨_, pe_tup p, fun s H sd m Qd Q rs rm h k => ?_⟩
  refine l s H sd m _ _ rs rm h fun vs H1 ds m1 t1 rm1 r1 h1 => ?_
  exact ⟨by rw [← r1.length]; exact h1.1, fun p hp => k _ _ _ m1 (t1.trans (.new hp)) (rm1.skip hp) (.tup (SqT.of upd_same) (r1.mono (.new hp))) h1.2⟩
theorem ge_lst {es : List Expr} {pos : Pos} {da : DA} (h : GA X es da) : GE X (.List es pos) (dLst da) := by
  obtain ⟨ta, p, l⟩ := h.ex
  refine .of ⟨_, pe_lst p, fun s H sd m Qd Q rs rm h k => ?_⟩
  refine l s H sd m _ _ rs rm h fun vs H1 ds m1 t1 rm1 r1 h1 => ?_
  exact ⟨by rw [← r1.length]; exact h1.1, fun p hp => k _ _ _ _ (t1.trans (.new hp)) (rm1.newL hp r1) (.ref p) (h1.2 p (rm1.fresh hp))⟩
/-! ### calls of built-ins -/
abbrev DC := List D → Mu → DK → Prop
def LC (K : PySem.W.Frag) (r : List V → Hp → VK → Prop) (d : DC) : Prop := ∀ vs H ds m (Qd : DK) (Q : VK), RM K H m → RepL K H ds vs → d ds m Qd →
  (∀ v H' dv m', TX H H' → RM K H' m' → Rep K H' dv v → Qd dv m' → Q v H') → r vs H Q
def dCB (d : DC) (a : DA) : DE := fun s m Q => a s m fun ds m1 => d ds m1 Q
theorem ge_callB {id : String} {x : Str} {p pos : Pos} {e : Expr} {es : List Expr} {r : List V → Hp → VK → Prop} {d : DC} {da : DA} (ca9 : CallR X (.builtin id) r) (lc : LC X.K r d) (hg : Gl X x) (ma9 : X.mg x = none) (hv : bootBuiltins x = some (.builtin id)) (ha : GA X (e :: es) da)
    (hn : x ≠ "__name__" := by decide) (hdb : (x == ("__debug__" : Str)) = false := by decide) (he : starEach (e :: es) X.env = (false, eval e X.env) :: starEach es X.env := by rfl) (hpl : (backTo pos (starEach es X.env)).any (·.1) = false := by rfl) :
    GE X (.Call (.Name x p) (e :: es) [] pos) (dCB d da) := by
  obtain ⟨ta, q, l⟩ := ha.ex
  refine .of ⟨_, pe_callB ca9 hg ma9 hv q hn hdb he hpl, fun s H sd m Qd Q rs rm h k => ?_⟩
  refine l s H sd m _ _ rs rm h fun vs H1 ds m1 t1 rm1 r1 h1 => ?_
  exact lc vs H1 ds m1 Qd Q rm1 r1 h1 fun v' H' dv' m' t' a b c => k v' H' dv' m' (t1.trans t') a b c
theorem ge_callTy {T : String} {x : Str} {p pos : Pos} {e : Expr} {es : List Expr} {r : List V → Hp → VK → Prop} {d : DC} {da : DA} (ca9 : CallR X (.type T) r) (lc : LC X.K r d) (hg : Gl X x) (ma9 : X.mg x = none) (hv : bootBuiltins x = some (.type T)) (ha : GA X (e :: es) da)
    (hn : x ≠ "__name__" := by decide) (hdb : (x == ("__debug__" : Str)) = false := by decide) (he : starEach (e :: es) X.env = (false, eval e X.env) :: starEach es X.env := by rfl) (hpl : (backTo pos (starEach es X.env)).any (·.1) = false := by rfl) :
    GE X (.Call (.Name x p) (e :: es) [] pos) (dCB d da) := by
  obtain ⟨ta, q, l⟩ := ha.ex
  refine .of ⟨_, pe_callTy ca9 hg ma9 hv q hn hdb he hpl, fun s H sd m Qd Q rs rm h k => ?_⟩
  refine l s H sd m _ _ rs rm h fun vs H1 ds m1 t1 rm1 r1 h1 => ?_
  exact lc vs H1 ds m1 Qd Q rm1 r1 h1 fun v' H' dv' m' t' a b c => k v' H' dv' m' (t1.trans t') a b c
theorem repL1 {K : PySem.W.Frag} {H : Hp} {d : D} {vs : List V} (r : RepL K H [d] vs) : ∃ v, vs = [v] ∧ Rep K H d v := by
  cases r with
  | cons a b => cases b; exact ⟨_, rfl, a⟩
theorem repL2 {K : PySem.W.Frag} {H : Hp} {d e : D} {vs : List V} (r : RepL K H [d, e] vs) : ∃ v u, vs = [v, u] ∧ Rep K H d v ∧ Rep K H e u := by
  cases r with
  | cons a b =>
    obtain ⟨u, rfl, q⟩ := repL1 b
    exact ⟨_, _, rfl, a, q⟩
def dLen : DC := fun ds m Q => match ds with
  | [.str z] => z.length ≤ sizeLine ∧ Q (.int z.length) m
  | [d] => ∃ es, seqOf m d = some es ∧ Q (.int es.length) m
  | _ => False
theorem call_lenU : CallR X (.builtin "len") (fun xs H Q => (∃ p ys, xs = [.ref p] ∧ (SqL X.K H p ys ∨ SqT X.K H p ys) ∧ Q (.int ys.length) H) ∨ ∃ z, xs = [.str z] ∧ z.length ≤ sizeLine ∧ Q (.int z.length) H) := call_len_seq.or call_len_str
theorem lc_len {K : PySem.W.Frag} : LC K (fun xs H Q => (∃ p ys, xs = [.ref p] ∧ (SqL K H p ys ∨ SqT K H p ys) ∧ Q (.int ys.length) H) ∨ ∃ z, xs = [.str z] ∧ z.length ≤ sizeLine ∧ Q (.int z.length) H) dLen := fun vs H ds m Qd Q rm r h k => by
  have go : ∀ {d : D}, RepL K H [d] vs → (∃ es, seqOf m d = some es ∧ Qd (.int es.length) m) → ∃ p ys, vs = [.ref p] ∧ (SqL K H p ys ∨ SqT K H p ys) ∧ Q (.int ys.length) H := fun {d} r h => by
    obtain ⟨es, e, q⟩ := h
    obtain ⟨v, rfl, ra9⟩ := repL1 r
    obtain ⟨a, ws, rfl, s, r2⟩ := seq_rep rm ra9 e
    exact ⟨a, ws, rfl, s, k _ H _ m (.refl H) rm (by rw [← r2.length]; exact .int _) q⟩
  match ds, r, h with
  | [.str z], r, h =>
    obtain ⟨v, rfl, ra9⟩ := repL1 r
    cases ra9
    exact .inr ⟨z, rfl, h.1, k _ H _ m (.refl H) rm (.int _) h.2⟩
  | [.non], r, h => exact .inl (go r h)
  | [.bl _], r, h => exact .inl (go r h)
  | [.int _], r, h => exact .inl (go r h)
  | [.ref _], r, h => exact .inl (go r h)
  | [.tup _], r, h => exact .inl (go r h)
  | [.rol _], r, h => exact .inl (go r h)
def dTuple : DC := fun ds m Q => match ds with
  | [d] => ∃ es, seqOf m d = some es ∧ Q (.tup es) m
  | _ => False
theorem lc_tuple {K : PySem.W.Frag} : LC K (fun xs H Q => ∃ p ys, xs = [.ref p] ∧ ((SqL K H p ys ∧ ∀ l, H l = none → Q (.ref l) (upd H l (.tup ys))) ∨ (SqT K H p ys ∧ Q (.ref p) H))) dTuple := fun vs H ds m Qd Q rm r h k => by
  match ds, r, h with
  | [d], r, h =>
    obtain ⟨es, e, q⟩ := h
    obtain ⟨v, rfl, ra9⟩ := repL1 r
    obtain ⟨a, ws, rfl, s, r2⟩ := seq_rep rm ra9 e
    rcases s with s | s
    · exact ⟨a, ws, rfl, .inl ⟨s, fun l hl => k _ _ _ m (.new hl) (rm.skip hl) (.tup (SqT.of upd_same) (r2.mono (.new hl))) q⟩⟩
    · exact ⟨a, ws, rfl, .inr ⟨s, k _ H _ m (.refl H) rm (.tup s r2) q⟩⟩
def dList : DC := fun ds m Q => match ds with
  | [d] => ∃ es, seqOf m d = some es ∧ ∀ p, m p = none → Q (.ref p) (mset m p (.lst es))
  | _ => False
theorem lc_list {K : PySem.W.Frag} : LC K (fun xs H Q => ∃ p ys, xs = [.ref p] ∧ (SqL K H p ys ∨ SqT K H p ys) ∧ ∀ l, H l = none → Q (.ref l) (upd H l (.lst ys))) dList := fun vs H ds m Qd Q rm r h k => by
  match ds, r, h with
  | [d], r, h =>
    obtain ⟨es, e, q⟩ := h
    obtain ⟨v, rfl, ra9⟩ := repL1 r
    obtain ⟨a, ws, rfl, s, r2⟩ := seq_rep rm ra9 e
    exact ⟨a, ws, rfl, s, fun l hl => k _ _ _ _ (.new hl) (rm.newL hl r2) (.ref l) (q l (rm.fresh hl))⟩
def dInt1 : DC := fun ds m Q => match ds with
  | [.int i] => Q (.int i) m
  | [.bl b] => Q (.int (if b then 1 else 0)) m
  | _ => False
theorem lc_int {K : PySem.W.Frag} : LC K (fun xs H Q => (∃ i, xs = [.int i] ∧ Q (.int i) H) ∨ ∃ k, xs = [.bl k] ∧ Q (.int (if k then 1 else 0)) H) dInt1 := fun vs H ds m Qd Q rm r h k => by
  match ds, r, h with
  | [.int i], r, h => obtain ⟨v, rfl, ra9⟩ := repL1 r; cases ra9; exact .inl ⟨i, rfl, k _ H _ m (.refl H) rm (.int _) h⟩
  | [.bl i], r, h => obtain ⟨v, rfl, ra9⟩ := repL1 r; cases ra9; exact .inr ⟨i, rfl, k _ H _ m (.refl H) rm (.int _) h⟩
def dTwo (g : Int → Int → Int) : DC := fun ds m Q => match ds with
  | [.int i, .int j] => Q (.int (g i j)) m
  | _ => False
theorem lc_two {K : PySem.W.Frag} {g : Int → Int → Int} : LC K (fun xs H Q => ∃ i j, xs = [.int i, .int j] ∧ Q (.int (g i j)) H) (dTwo g) := fun vs H ds m Qd Q rm r h k => by
  match ds, r, h with
  | [.int i, .int j], r, h => obtain ⟨v, u, rfl, ra9, ru9⟩ := repL2 r; cases ra9; cases ru9; exact ⟨i, j, rfl, k _ H _ m (.refl H) rm (.int _) h⟩
abbrev dMin2 : DC := dTwo fun i j => if j < i then j else i
abbrev dMax2 : DC := dTwo fun i j => if j > i then j else i
/-! isinstance(x, T) -/
def tyD (m : Mu) : D → Option String
  | .non => some "NoneType"
  | .bl _ => some "bool"
  | .int _ => some "int"
  | .str _ => some "str"
  | .tup _ => some "tuple"
  | .rol _ => some "list"
  | .ref a => match m a with | some (.lst _) => some "list" | none => none
def isT (a T : String) : Bool := a == T || (a == "bool" && T == "int")
def knownT (T : String) : Bool := T == "bool" || T == "int" || T == "str" || T == "tuple" || T == "list"
theorem kitB_known : (["NoneType", "bool", "int", "str", "tuple", "list"].all fun a => ["bool", "int", "str", "tuple", "list"].all fun T => kitB a T == some (isT a T)) = true := by decide +kernel
theorem kit_known {m : Mu} {d : D} {a T : String} (h : tyD m d = some a) (hT : knownT T = true) : kitB a T = some (isT a T) := by
  have ha : a ∈ ["NoneType", "bool", "int", "str", "tuple", "list"] := by
    unfold tyD at h
    split at h
    · cases h; simp
    · cases h; simp
    · cases h; simp
    · cases h; simp
    · cases h; simp
    · cases h; simp
    · split at h
      · cases h; simp
      · cases h
  have hT' : T ∈ ["bool", "int", "str", "tuple", "list"] := by
    unfold knownT at hT
    simp only [Bool.or_eq_true, beq_iff_eq] at hT
    simp only [List.mem_cons, List.not_mem_nil, or_false]
    rcases hT with (((h | h) | h) | h) | h <;> simp [h]
  have z := List.all_eq_true.mp (List.all_eq_true.mp kitB_known a ha) T hT'
  exact eq_of_beq z
theorem tyx_of {K : PySem.W.Frag} {H : Hp} {m : Mu} {d : D} {v : V} {a : String} (rm : RM K H m) (r : Rep K H d v) (h : tyD m d = some a) : TyX K H v (.type a) := by
  cases r with
  | non => cases h; exact .base .non
  | bl b => cases h; exact .base (.bl b)
  | int i => cases h; exact .base (.int i)
  | str x => cases h; exact .base (.str x)
  | @tup ds p vs s q =>
    cases h
    rcases s with (s | ⟨o, s⟩) | ⟨o, xs9, n, s, c, _⟩
    · exact .base (.tup s)
    · exact .fTuple s
    · exact .kTuple s c
  | rol s q =>
    cases h
    rcases s with ⟨o, s⟩ | ⟨o, xs9, n, s, c, _⟩
    · exact .base (.frz s)
    · exact .kList s c
  | ref p =>
    unfold tyD at h
    cases e : m p with
    | none => simp only [e] at h; cases h
    | some o =>
      have q := rm p o e
      cases o with
      | lst es => simp only [e] at h; cases h; obtain ⟨vs, e2, _⟩ := q; exact .base (.lst e2)
def dIsi (T : String) (de : DE) : DE := fun s m Q => de s m fun x m1 => ∃ a, tyD m1 x = some a ∧ Q (.bl (isT a T)) m1
theorem ge_isi {T : String} {p q pos : Pos} {e : Expr} {y : Str} {de : DE} (hT : knownT T = true) (hg : Gl X "isinstance") (ma9 : X.mg "isinstance" = none) (he : GE X e de) (hgy : Gl X y) (hmy : X.mg y = none) (hvy : bootBuiltins y = some (.type T))
    (hny : y ≠ "__name__" := by decide) (hdy : (y == ("__debug__" : Str)) = false := by decide)
    (hs1 : starEach [e, .Name y q] X.env = (false, eval e X.env) :: starEach [.Name y q] X.env := by rfl) (hs2 : starEach [.Name y q] X.env = (false, eval (.Name y q) X.env) :: starEach [] X.env := by rfl)
    (hpl : (backTo pos (starEach [.Name y q] X.env)).any (·.1) = false := by rfl) (hv : bootBuiltins "isinstance" = some (.builtin "isinstance") := by decide +kernel) :
    GE X (.Call (.Name "isinstance" p) [e, .Name y q] [] pos) (dIsi T de) := by
  obtain ⟨te, pt, l⟩ := he.ex
  refine .of ⟨_, pe_callB call_isi hg ma9 hv (pa_cons pt (pa_cons (pe_bltn (v := .ty T) hgy hmy hvy rfl hny hdy) pa_nil hs2) hs1) (by decide) (by decide) hs1 hpl, fun s H sd m Qd Q rs rm h k => ?_⟩
  refine l s H sd m _ _ rs rm h fun v H1 dv m1 t1 rm1 r1 h1 => ?_
  obtain ⟨a, e1, h2⟩ := h1
  exact ⟨v, .ty T, .type a, .type T, isT a T, rfl, .ty T, tyx_of rm1 r1 e1, kit_ty (kit_known e1 hT), k _ H1 _ m1 t1 rm1 (.bl _) h2⟩
/-! sorted(list of pairs of ints) -/
def IsP (K : PySem.W.Frag) (H : Hp) (x : V) (p : Int × Int) : Prop := ∃ t, x = V.ref t ∧ SqT K H t [.int p.1, .int p.2]
def pLe (p q : Int × Int) : Prop := p.1 < q.1 ∨ (p.1 = q.1 ∧ p.2 ≤ q.2)
def rSortedPS (K : PySem.W.Frag) : List V → Hp → VK → Prop := fun vs H Q => ∃ (a : Addr) (xs : List V) (ps : List (Int × Int)), vs = [V.ref a] ∧ SqL K H a xs ∧ Paired (IsP K H) xs ps ∧
  ∀ ys qs p, Paired (IsP K H) ys qs → qs.Perm ps → qs.Pairwise pLe → H p = none → Q (.ref p) (upd H p (.lst ys))
theorem paired_map {K : PySem.W.Frag} {H : Hp} {k : V → Int × Int} : ∀ {ys : List V}, (∀ y ∈ ys, IsP K H y (k y)) → Paired (IsP K H) ys (ys.map k)
  | [], _ => .nil
  | y :: ys, h => .cons (h y (List.mem_cons_self ..)) (paired_map fun z hs9 => h z (List.mem_cons_of_mem _ hs9))
theorem cr_sortedPS : CallR X (.builtin "sorted") (rSortedPS X.K) := by
  intro pz s τ H vs us Q I r h
  obtain ⟨a, xs, ps, rfl, hs, hpr, q⟩ := h
  have uq : ∀ x p p', IsP X.K H x p → IsP X.K H x p' → p = p' := fun x p p' ⟨t, e, h1⟩ ⟨t', e', h2⟩ => by
    subst e
    cases e'
    have z := I.tuple_inj h1 h2
    injection z with z1 z2
    injection z2 with z2 _
    injection z1 with z1
    injection z2 with z2
    exact Prod.ext z1 z2
  obtain ⟨k, hk⟩ : ∃ k : V → Int × Int, ∀ x p, IsP X.K H x p → k x = p := by
    refine ⟨fun x => @dite _ (∃ p, IsP X.K H x p) (Classical.propDecidable _) (fun h => Classical.choose h) fun _ => (0, 0), fun x p h => ?_⟩
    have e : ∃ p, IsP X.K H x p := ⟨p, h⟩
    show @dite _ (∃ p, IsP X.K H x p) (Classical.propDecidable _) (fun h => Classical.choose h) (fun _ => (0, 0)) = p
    rw [dif_pos e]
    exact uq x _ _ (Classical.choose_spec e) h
  have xa9 : ∀ x ∈ xs, IsP X.K H x (k x) := by
    clear q hs
    induction hpr with
    | nil => intro x xa9; cases xa9
    | cons h1 h2 ih =>
      intro x xa9
      rcases List.mem_cons.mp xa9 with rfl | xa9
      · rw [hk _ _ h1]; exact h1
      · exact ih x xa9
  have hps : xs.map k = ps := by
    clear q hs xa9
    induction hpr with
    | nil => rfl
    | cons h1 h2 ih => rw [List.map_cons, hk _ _ h1, ih]
  obtain ⟨xs9, ra9, hl, hs9⟩ := I.list hs
  obtain ⟨u, rfl, ru9⟩ := vals1 r
  obtain rfl : u = Value.ref a := ru9
  obtain ⟨e1, e2⟩ := refs_back ra9 fun x m => by
    obtain ⟨t, e, _⟩ := xa9 x m
    exact ⟨t, e⟩
  refine SrtO.sorted_pairsO (k := fun u => k (backV u)) hl.isList (by rw [← ra9.length]; exact hs9) (fun v hv => ?_) fun h' d out h1 h2 kp da9 hn => ?_
  · obtain ⟨t, rfl⟩ := e2 v hv
    have ma9 : V.ref t ∈ xs := by rw [e1]; exact List.mem_map.mpr ⟨_, hv, rfl⟩
    obtain ⟨t', e, ht⟩ := xa9 _ ma9
    cases e
    obtain ⟨ys9, r2, ⟨o, ho, ca9, n, da9⟩, _⟩ := I.tuple ht
    obtain ⟨ua9, ub9, rfl, ri9, rj9⟩ := vals2 r2
    obtain ⟨t1, rfl⟩ := ri9
    obtain ⟨t2, rfl⟩ := rj9
    exact ⟨t, o, t1, t2, n, rfl, ho, ca9, da9⟩
  · have hc9 : ∀ u ∈ out, ∃ a, u = Value.ref a := fun u hu => e2 u (h2.perm.mem_iff.mp hu)
    obtain ⟨n, hn⟩ := hn
    have ba9 : SrtO.Stb (ltP k) (out.map backV) xs := by
      rw [e1]
      exact SrtO.Stb.map (ltP_swo k) backV h2
    have hs' : SrtO.Srtd (ltP k) (out.map backV) := SrtO.srtd_map h1
    refine ⟨.ref d, upd H d (.lst (out.map backV)), I.laid (t' := s.toks) kp da9 ⟨?_, out, n, vals_back hc9, hn⟩, rfl, q _ ((out.map backV).map k) d (paired_map fun y hy => xa9 y (ba9.perm.mem_iff.mp hy)) (by rw [← hps]; exact ba9.perm.map k) ?_ (I.hok.fresh da9)⟩
    · rw [ba9.len]
      exact hs9
    · refine List.pairwise_map.mpr (hs'.imp fun {x y} h => ?_)
      have z := SrtO.lexB_no.mp h
      unfold pLe
      omega
def pD (p : Int × Int) : D := .tup [.int p.1, .int p.2]
def dSortP : DC := fun ds m Q => match ds with
  | [.ref a] => ∃ ps : List (Int × Int), seqOf m (.ref a) = some (ps.map pD) ∧ ∀ qs : List (Int × Int), qs.Perm ps → qs.Pairwise pLe → ∀ p, m p = none → Q (.ref p) (mset m p (.lst (qs.map pD)))
  | _ => False
theorem isP_of {K : PySem.W.Frag} {H : Hp} : ∀ {ps : List (Int × Int)} {vs : List V}, RepL K H (ps.map pD) vs → Paired (IsP K H) vs ps
  | [], _, r => by rw [List.map_nil] at r; cases r; exact .nil
  | p :: ps, _, r => by
    rw [List.map_cons] at r
    cases r with
    | cons a b =>
      refine .cons ?_ (isP_of b)
      unfold pD at a
      cases a with
      | tup s r =>
        cases r with
        | cons r1 r2 =>
          cases r1
          cases r2 with
          | cons r3 r4 =>
            cases r3
            cases r4
            exact ⟨_, rfl, s⟩
theorem of_isP {K : PySem.W.Frag} {H : Hp} : ∀ {ps : List (Int × Int)} {vs : List V}, Paired (IsP K H) vs ps → RepL K H (ps.map pD) vs
  | _, _, .nil => .nil
  | _, _, .cons ⟨t, e, h⟩ b => by subst e; exact .cons (.tup h (.cons (.int _) (.cons (.int _) .nil))) (of_isP b)
theorem lc_sortP {K : PySem.W.Frag} : LC K (rSortedPS K) dSortP := fun vs H ds m Qd Q rm r h k => by
  match ds, r, h with
  | [.ref a], r, h =>
    obtain ⟨ps, e, q⟩ := h
    obtain ⟨v, rfl, ra9⟩ := repL1 r
    cases ra9
    obtain ⟨ws, sl, r2⟩ := ref_rep rm e
    exact ⟨a, ws, ps, rfl, sl, isP_of r2, fun ys qs p h1 h2 hc9 hp => k _ _ _ _ (.new hp) (rm.newL hp (of_isP h1)) (.ref p) (q qs h2 hc9 p (rm.fresh hp))⟩
end
end PD

set_option Elab.async false
set_option linter.all false
set_option maxRecDepth 100000
set_option maxHeartbeats 4000000
namespace PD
open PySem PySem.Spec PyProof.Rows L2
section
variable {X : Cx}
/-! ### methods of lists -/
abbrev DM := D → List D → Mu → DK → Prop
def LM (K : PySem.W.Frag) (r : V → List V → Hp → VK → Prop) (d : DM) : Prop := ∀ x vs H dx ds m (Qd : DK) (Q : VK), RM K H m → Rep K H dx x → RepL K H ds vs → d dx ds m Qd →
  (∀ v H' dv m', TX H H' → RM K H' m' → Rep K H' dv v → Qd dv m' → Q v H') → r x vs H Q
def dBM0 (d : DM) (a : DE) : DE := fun s m Q => a s m fun x m1 => (∃ a ds, lstOf m1 x = some (a, ds)) ∧ d x [] m1 Q
def dBM (d : DM) (a : DE) (b : DA) : DE := fun s m Q => a s m fun x m1 => (∃ a ds, lstOf m1 x = some (a, ds)) ∧ b s m1 fun ds m2 => d x ds m2 Q
theorem ty_lst {K : PySem.W.Frag} {H : Hp} {m : Mu} {d : D} {v : V} (rm : RM K H m) (r : Rep K H d v) (h : ∃ a ds, lstOf m d = some (a, ds)) : tyV K "list" v H := by
  obtain ⟨a, ds, e⟩ := h
  obtain ⟨rfl, _, _, vs, e2, _⟩ := lst_rep rm r e
  exact .inl ⟨rfl, _, SqL.of e2⟩
theorem ge_bm0 {o : Expr} {name : Str} {id : String} {apos cpos : Pos} {r : V → List V → Hp → VK → Prop} {d : DM} {da : DE} (slot : Slot "list" name id) (hty : typeOf (.builtin id) = pure (.type "method_descriptor")) (hm : MtR X id r) (lm : LM X.K r d) (ho : GE X o da)
    (base9 : attributeBase o name X.env (eval o X.env) = eval o X.env := by rfl) (line9 : (apos.endLine == cpos.line) = true := by rfl) : GE X (.Call (.Attribute o name apos) [] [] cpos) (dBM0 d da) := by
  obtain ⟨ta, p, l⟩ := ho.ex
  refine .of ⟨_, pe_bm0 PySem.F.plainAttrs_list slot hty hm p base9 line9, fun s H sd m Qd Q rs rm h k => ?_⟩
  refine l s H sd m _ _ rs rm h fun v H1 dv m1 t1 rm1 r1 h1 => ?_
  exact ⟨ty_lst rm1 r1 h1.1, lm v [] H1 dv [] m1 Qd Q rm1 r1 .nil h1.2 fun v' H' dv' m' t' a b c => k v' H' dv' m' (t1.trans t') a b c⟩
theorem ge_bm {o e : Expr} {es : List Expr} {name : Str} {id : String} {apos cpos : Pos} {r : V → List V → Hp → VK → Prop} {d : DM} {da : DE} {db : DA} (slot : Slot "list" name id) (hty : typeOf (.builtin id) = pure (.type "method_descriptor")) (hm : MtR X id r) (lm : LM X.K r d) (ho : GE X o da) (ha : GA X (e :: es) db)
    (base9 : attributeBase o name X.env (eval o X.env) = eval o X.env := by rfl)
    (few9 : ((backTo cpos (starEach (e :: es) X.env)).all (fun x => !x.1) && (backToKw cpos (keywordEach [] X.env)).all (fun x => x.1.isSome)
      && decide ((e :: es).length + ([] : List Keyword).length + (if ([] : List Keyword).isEmpty then 0 else 1) < 30)) = true := by rfl)
    (line9 : (apos.endLine == cpos.line) = true := by rfl) (hs : starEach (e :: es) X.env = (false, eval e X.env) :: starEach es X.env := by rfl) (plain9 : (backTo cpos (starEach es X.env)).any (·.1) = false := by rfl) :
    GE X (.Call (.Attribute o name apos) (e :: es) [] cpos) (dBM d da db) := by
  obtain ⟨ta, p, l⟩ := ho.ex
  obtain ⟨tb, q, l2⟩ := ha.ex
  refine .of ⟨_, pe_bm PySem.F.plainAttrs_list slot hty hm p q base9 few9 line9 hs plain9, fun s H sd m Qd Q rs rm h k => ?_⟩
  refine l s H sd m _ _ rs rm h fun v H1 dv m1 t1 rm1 r1 h1 => ?_
  refine ⟨ty_lst rm1 r1 h1.1, l2 s H1 sd m1 _ _ (rs.mono t1) rm1 h1.2 fun vs H2 ds m2 t2 rm2 r2 h2 => ?_⟩
  exact lm v vs H2 dv ds m2 Qd Q rm2 (r1.mono t2) r2 h2 fun v' H' dv' m' t' a b c => k v' H' dv' m' (t1.trans (t2.trans t')) a b c
def dAppend : DM := fun x ds m Q => match ds with
  | [d] => ∃ a es, lstOf m x = some (a, es) ∧ es.length < sizeLine ∧ Q .non (mset m a (.lst (es ++ [d])))
  | _ => False
theorem lm_append {K : PySem.W.Frag} : LM K rAppend dAppend := fun x vs H dx ds m Qd Q rm rx r h k => by
  match ds, r, h with
  | [d], r, h =>
    obtain ⟨a, es, e, hs9, q⟩ := h
    obtain ⟨rfl, rfl, _, ws, e2, r2⟩ := lst_rep rm rx e
    obtain ⟨v, rfl, ra9⟩ := repL1 r
    exact ⟨a, ws, v, rfl, rfl, e2, by rw [← r2.length]; exact hs9, k _ _ _ _ (.lst e2) (rm.setL e2 (r2.append (.cons ra9 .nil))) .non q⟩
def seqW (m : Mu) : D → Option (List D)
  | .tup ds => some ds
  | .ref a => match m a with | some (.lst ds) => some ds | none => none
  | _ => none
def dExtend : DM := fun x ds m Q => match ds with
  | [d] => ∃ a es zs, lstOf m x = some (a, es) ∧ seqW m d = some zs ∧ es.length + zs.length ≤ sizeLine ∧ Q .non (mset m a (.lst (es ++ zs)))
  | _ => False
def rExtendT (K : PySem.W.Frag) : V → List V → Hp → VK → Prop := fun x vs H Q => ∃ l b xs zs, x = .ref l ∧ vs = [.ref b] ∧ H l = some (.lst xs) ∧ (SqL K H b zs ∨ SqT K H b zs) ∧ xs.length + zs.length ≤ sizeLine ∧ Q .non (upd H l (.lst (xs ++ zs)))
def dPop : DM := fun x ds m Q => match ds with
  | [] => ∃ a es d, lstOf m x = some (a, es) ∧ es[es.length - 1]? = some d ∧ Q d (mset m a (.lst es.dropLast))
  | [.int i] => ∃ a es, lstOf m x = some (a, es) ∧ -(2 ^ 63) ≤ i ∧ i < 2 ^ 63 ∧ ∃ k, seqIndex? i es.length = some k ∧ ∃ d, es[k]? = some d ∧ Q d (mset m a (.lst (es.eraseIdx k)))
  | _ => False
theorem mt_popU : MtM X "list.pop" (fun x xs H Q => rPop x xs H Q ∨ rPopAt x xs H Q) := fun pz s τ H x xs v us Q I rx ra9 h => by
  rcases h with h | h
  · exact mt_pop pz s τ H x xs v us Q I rx ra9 h
  · exact mt_popAt pz s τ H x xs v us Q I rx ra9 h
theorem lm_pop {K : PySem.W.Frag} : LM K (fun x xs H Q => rPop x xs H Q ∨ rPopAt x xs H Q) dPop := fun x vs H dx ds m Qd Q rm rx r h k => by
  match ds, r, h with
  | [], r, h =>
    obtain ⟨a, es, d, e, e1, q⟩ := h
    obtain ⟨rfl, rfl, _, ws, e2, r2⟩ := lst_rep rm rx e
    cases r
    obtain ⟨v, e3, ra9⟩ := r2.get e1
    rw [r2.length] at e3
    exact .inl ⟨a, ws, v, rfl, rfl, e2, e3, k _ _ _ _ (.lst e2) (rm.setL e2 r2.dropLast) (ra9.mono (.lst e2)) q⟩
  | [.int i], r, h =>
    obtain ⟨a, es, e, h1, h2, j, e3, d, e4, q⟩ := h
    obtain ⟨rfl, rfl, _, ws, e2, r2⟩ := lst_rep rm rx e
    obtain ⟨v, rfl, ra9⟩ := repL1 r
    cases ra9
    obtain ⟨u, e5, ru⟩ := r2.get e4
    rw [r2.length] at e3
    exact .inr ⟨a, ws, i, j, u, rfl, rfl, e2, h1, h2, e3, e5, k _ _ _ _ (.lst e2) (rm.setL e2 (r2.erase j)) (ru.mono (.lst e2)) q⟩
/-! ### calls of own functions -/
abbrev SpD := List D → Mu → DK → Prop
def spL (K : PySem.W.Frag) (n : Nat) (sd : SpD) : Sp := fun vs H Q _ => ∃ ds m Qd, RepL K H ds vs ∧ RM K H m ∧ (ds.length = n ∧ sd ds m Qd) ∧ ∀ v H' dv m', TX H H' → RM K H' m' → Rep K H' dv v → Qd dv m' → Q v H'
def dCall (n : Nat) (sd : SpD) (a : DA) : DE := fun s m Q => a s m fun ds m1 => ds.length = n ∧ sd ds m1 Q
theorem ge_call {k n : Nat} {f : Addr} {fd : FuncData} {ps : List Str} {sd : SpD} {x : Str} {p pos : Pos} {e : Expr} {es : List Expr} {da : DA} (F : FnOk X.prog X.w X.K X.mg X.base CX0 k f fd ps (spL X.K n sd)) (hr : Room k X.A) (hg : Gl X x) (hm : X.mg x = some (.ref f)) (hk : PySem.W.keepIn X.K (.ref f) = true) (hb : Binds X.K fd ps [])
    (ha : GA X (e :: es) da) (hdb : (x == ("__debug__" : Str)) = false := by decide) (he : starEach (e :: es) X.env = (false, eval e X.env) :: starEach es X.env := by rfl) (hpl : (backTo pos (starEach es X.env)).any (·.1) = false := by rfl) :
    GE X (.Call (.Name x p) (e :: es) [] pos) (dCall n sd da) := by
  obtain ⟨ta, q, l⟩ := ha.ex
  refine .of ⟨_, pe_call F hr hg hm hk hb .nil pass0 q hdb he hpl, fun s H sd' m Qd Q rs rm h k => ?_⟩
  refine l s H sd' m _ _ rs rm h fun vs H1 ds m1 t1 rm1 r1 h1 => ?_
  show spL X.K n sd (vs ++ []) H1 Q E0
  rw [List.append_nil]
  exact ⟨ds, m1, Qd, r1, rm1, h1, fun v' H' dv' m' t' a b c => k v' H' dv' m' (t1.trans t') a b c⟩
/-! f(k = e, ..): keywords alone, in the parameters' order -/
def GK (X : Cx) (kws : List Keyword) (d : DA) : Prop := ∃ t, PK X kws t ∧ LA X.K t d
theorem gk_nil : GK X [] dNil := ⟨_, pk_nil, fun _ H _ m _ _ _ rm h k => k [] H [] m (.refl H) rm .nil h⟩
theorem gk_cons {nm : Option Str} {e : Expr} {kpos : Pos} {kws : List Keyword} {de : DE} {dr : DA} (ha : GE X e de) (hr : GK X kws dr) : GK X (⟨nm, e, kpos⟩ :: kws) (dCons de dr) := by
  obtain ⟨te, p, l⟩ := ha.ex
  obtain ⟨tr, q, l2⟩ := hr
  refine ⟨_, pk_cons p q, fun s H sd m Qd Q rs rm h k => ?_⟩
  refine l s H sd m _ _ rs rm h fun v H1 dv m1 t1 rm1 r1 h1 => ?_
  exact l2 s H1 sd m1 _ _ (rs.mono t1) rm1 h1 fun vs H2 ds m2 t2 rm2 r2 h2 => k _ H2 _ m2 (t1.trans t2) rm2 (.cons (r1.mono t2) r2) h2
/-- keywords ks alone bind to the parameters ps in their order -/
def gK (n : Nat) (us ws : List Value) : List Value := if us.isEmpty = true then ws else List.replicate (n + 1) Value.none
def gKV (n : Nat) (vs zs : List V) : List V := if vs.isEmpty = true then zs else List.replicate (n + 1) V.non
def KwAll (K : PySem.W.Frag) (fd : FuncData) (ps ks : List Str) : Prop := KBinds K fd ps ks (gK ps.length) (gKV ps.length)
theorem ge_callK {k n : Nat} {f : Addr} {fd : FuncData} {ps ks : List Str} {sd : SpD} {x : Str} {p pos : Pos} {kws : List Keyword} {dk : DA} (F : FnOk X.prog X.w X.K X.mg X.base CX0 k f fd ps (spL X.K n sd)) (hr : Room k X.A) (hg : Gl X x) (hm : X.mg x = some (.ref f)) (hk : PySem.W.keepIn X.K (.ref f) = true) (hb : KwAll X.K fd ps ks)
    (hkw : GK X kws dk) (hall : (backToKw pos (keywordEach kws X.env)).all (·.1.isSome) = true := by rfl) (hks : (backToKw pos (keywordEach kws X.env)).filterMap (·.1) = ks := by rfl)
    (hdb : (x == ("__debug__" : Str)) = false := by decide) (hpl : ((backTo pos (starEach [] X.env)).any (·.1) || (backToKw pos (keywordEach kws X.env)).any (·.1.isNone)) = false := by rfl) :
    GE X (.Call (.Name x p) [] kws pos) (dCall n sd dk) := by
  obtain ⟨tk, q, l⟩ := hkw
  have P : PE X (.Call (.Name x p) [] kws pos) (fun τ H Q => tk τ H fun zs H2 => spL X.K n sd zs H2 Q E0) := by
    refine ⟨fun pz s τ H Q I h => ?_⟩
    refine wpAny_Call_Name_kw (ld_glob I hg hm ?_ hdb)
    refine PySem.W.callWith_KW0 (h₀ := X.base) I.ok.mod.kin hk hall (thn (q.run pos pz s τ H _ I h) fun ws tB ⟨zs, H2, iB, rz, q2⟩ => ⟨iB.kIn, ?_⟩) hpl
    rw [hks]
    exact run_fnk (us := []) (vs := []) F hr hb pass0 iB .nil rz q2
  refine .of ⟨_, P, fun s H sd' m Qd Q rs rm h k => ?_⟩
  refine l s H sd' m _ _ rs rm h fun vs H1 ds m1 t1 rm1 r1 h1 => ?_
  exact ⟨ds, m1, Qd, r1, rm1, h1, fun v' H' dv' m' t' a b c => k v' H' dv' m' (t1.trans t') a b c⟩
/-! ### and, or, not, if .. else -/
def dAnd (t u : DT) : DT := fun s m Q => t s m fun c m1 => if c = true then u s m1 Q else Q false m1
def dOr (t u : DT) : DT := fun s m Q => t s m fun c m1 => if c = true then Q true m1 else u s m1 Q
def dNot (t : DT) : DT := fun s m Q => t s m fun c m1 => Q (!c) m1
theorem LT.and {K : PySem.W.Frag} {t u : TT} {dt du : DT} (l : LT K t dt) (l2 : LT K u du) : LT K (tAnd t u) (dAnd dt du) := fun s H sd m Qd Q rs rm h k => by
  refine l s H sd m _ _ rs rm h fun b H1 m1 t1 rm1 h1 => ?_
  cases b with
  | true => exact l2 s H1 sd m1 _ _ (rs.mono t1) rm1 h1 fun b H2 m2 t2 rm2 h2 => k b H2 m2 (t1.trans t2) rm2 h2
  | false => exact k false H1 m1 t1 rm1 h1
theorem LT.or {K : PySem.W.Frag} {t u : TT} {dt du : DT} (l : LT K t dt) (l2 : LT K u du) : LT K (tOr t u) (dOr dt du) := fun s H sd m Qd Q rs rm h k => by
  refine l s H sd m _ _ rs rm h fun b H1 m1 t1 rm1 h1 => ?_
  cases b with
  | true => exact k true H1 m1 t1 rm1 h1
  | false => exact l2 s H1 sd m1 _ _ (rs.mono t1) rm1 h1 fun b H2 m2 t2 rm2 h2 => k b H2 m2 (t1.trans t2) rm2 h2
theorem gw_and1 {a : Expr} {pos : Pos} {d : DT} (h : GT X a d) : GW X (.BoolOp .And [a] pos) d := let ⟨t, p, l⟩ := h.ex; ⟨_, pw_and1 p, l⟩
theorem gw_or1 {a : Expr} {pos : Pos} {d : DT} (h : GT X a d) : GW X (.BoolOp .Or [a] pos) d := let ⟨t, p, l⟩ := h.ex; ⟨_, pw_or1 p, l⟩
theorem gw_and {a b : Expr} {rest : List Expr} {pos : Pos} {d d2 : DT} (h : GT X a d) (h2 : GW X (.BoolOp .And (b :: rest) pos) d2) : GW X (.BoolOp .And (a :: b :: rest) pos) (dAnd d d2) := by
  obtain ⟨t, p, l⟩ := h.ex
  obtain ⟨u, q, l2⟩ := h2.ex
  exact ⟨_, pw_and p q, l.and l2⟩
theorem gw_or {a b : Expr} {rest : List Expr} {pos : Pos} {d d2 : DT} (h : GT X a d) (h2 : GW X (.BoolOp .Or (b :: rest) pos) d2) : GW X (.BoolOp .Or (a :: b :: rest) pos) (dOr d d2) := by
  obtain ⟨t, p, l⟩ := h.ex
  obtain ⟨u, q, l2⟩ := h2.ex
  exact ⟨_, pw_or p q, l.or l2⟩
theorem gt_not {a : Expr} {pos : Pos} {d : DT} (h : GT X a d) : GT X (.UnaryOp .Not a pos) (dNot d) := by
  obtain ⟨t, p, l⟩ := h.ex
  exact .of ⟨_, pt_not p, fun s H sd m Qd Q rs rm h k => l s H sd m _ _ rs rm h fun b H1 m1 t1 rm1 h1 => k (!b) H1 m1 t1 rm1 h1⟩
def dAndV (a b : DE) : DE := fun s m Q => a s m fun x m1 => match x with | .bl c => if c = true then b s m1 Q else Q (.bl false) m1 | _ => False
def dOrV (a b : DE) : DE := fun s m Q => a s m fun x m1 => match x with | .bl c => if c = true then Q (.bl true) m1 else b s m1 Q | _ => False
def dNotV (a : DE) : DE := fun s m Q => a s m fun x m1 => match x with | .bl c => Q (.bl (!c)) m1 | _ => False
theorem ge_one {op} {a : Expr} {pos : Pos} {d : DE} (h : GE X a d) : GE X (.BoolOp op [a] pos) d := let ⟨t, p, l⟩ := h.ex; .of ⟨_, pe_one p, l⟩
theorem ge_and {a b : Expr} {rest : List Expr} {pos : Pos} {d d2 : DE} (h : GE X a d) (h2 : GE X (.BoolOp .And (b :: rest) pos) d2) : GE X (.BoolOp .And (a :: b :: rest) pos) (dAndV d d2) := by
  obtain ⟨t, p, l⟩ := h.ex
  obtain ⟨u, q, l2⟩ := h2.ex
  refine .of ⟨_, pe_and p q, fun s H sd m Qd Q rs rm h k => ?_⟩
  refine l s H sd m _ _ rs rm h fun v H1 dv m1 t1 rm1 r1 h1 => ?_
  cases r1 with
  | bl c =>
    refine ⟨c, rfl, ?_⟩
    cases c with
    | true => exact l2 s H1 sd m1 _ _ (rs.mono t1) rm1 h1 fun b H2 dv m2 t2 rm2 r2 h2 => k b H2 dv m2 (t1.trans t2) rm2 r2 h2
    | false => exact k _ H1 _ m1 t1 rm1 (.bl _) h1
  | _ => exact h1.elim
theorem ge_or {a b : Expr} {rest : List Expr} {pos : Pos} {d d2 : DE} (h : GE X a d) (h2 : GE X (.BoolOp .Or (b :: rest) pos) d2) : GE X (.BoolOp .Or (a :: b :: rest) pos) (dOrV d d2) := by
  obtain ⟨t, p, l⟩ := h.ex
  obtain ⟨u, q, l2⟩ := h2.ex
  refine .of ⟨_, pe_or p q, fun s H sd m Qd Q rs rm h k => ?_⟩
  refine l s H sd m _ _ rs rm h fun v H1 dv m1 t1 rm1 r1 h1 => ?_
  cases r1 with
  | bl c =>
    refine ⟨c, rfl, ?_⟩
    cases c with
    | true => exact k _ H1 _ m1 t1 rm1 (.bl _) h1
    | false => exact l2 s H1 sd m1 _ _ (rs.mono t1) rm1 h1 fun b H2 dv m2 t2 rm2 r2 h2 => k b H2 dv m2 (t1.trans t2) rm2 r2 h2
  | _ => exact h1.elim
theorem ge_not {a : Expr} {pos : Pos} {d : DE} (h : GE X a d) : GE X (.UnaryOp .Not a pos) (dNotV d) := by
  obtain ⟨t, p, l⟩ := h.ex
  refine .of ⟨_, pe_not p, fun s H sd m Qd Q rs rm h k => ?_⟩
  refine l s H sd m _ _ rs rm h fun v H1 dv m1 t1 rm1 r1 h1 => ?_
  cases r1 with
  | bl c => exact ⟨c, rfl, k _ H1 _ m1 t1 rm1 (.bl _) h1⟩
  | _ => exact h1.elim
def dIfE (t : DT) (a b : DE) : DE := fun s m Q => t s m fun c m1 => if c = true then a s m1 Q else b s m1 Q
theorem ge_ifE {c a b : Expr} {pos : Pos} {t : DT} {da db : DE} (h : GT X c t) (ha : GE X a da) (hb : GE X b db) : GE X (.IfExp c a b pos) (dIfE t da db) := by
  obtain ⟨tt, p, l⟩ := h.ex
  obtain ⟨ta, q, l2⟩ := ha.ex
  obtain ⟨tb, q2, l3⟩ := hb.ex
  refine .of ⟨_, pe_ifExp p q q2, fun s H sd m Qd Q rs rm h k => ?_⟩
  refine l s H sd m _ _ rs rm h fun b H1 m1 t1 rm1 h1 => ?_
  cases b with
  | true => exact l2 s H1 sd m1 _ _ (rs.mono t1) rm1 h1 fun b H2 dv m2 t2 rm2 r2 h2 => k b H2 dv m2 (t1.trans t2) rm2 r2 h2
  | false => exact l3 s H1 sd m1 _ _ (rs.mono t1) rm1 h1 fun b H2 dv m2 t2 rm2 r2 h2 => k b H2 dv m2 (t1.trans t2) rm2 r2 h2
/-! a list, a tuple, a number, a text as a test -/
def truD (m : Mu) : D → Option Bool
  | .non => some false
  | .bl b => some b
  | .int i => some (i != 0)
  | d => (seqOf m d).map fun ds => !ds.isEmpty
def dTru (a : DE) : DT := fun s m Q => a s m fun x m1 => ∃ b, truD m1 x = some b ∧ Q b m1
end
end PD

set_option Elab.async false
set_option linter.all false
set_option maxRecDepth 100000
set_option maxHeartbeats 4000000
namespace PD
open PySem PySem.Spec PyProof.Rows L2 HT
section
variable {pg9 : Program} {w : World} {A : Around} {E : Value → Shared → Prop} {s : Shared}
theorem rev_places (n : Nat) : Builtin.Slice.slicePlaces ((n : Int) - 1) (-1) (-1) = n := by
  unfold Builtin.Slice.slicePlaces
  rw [if_neg (by omega)]
  by_cases h : (n : Int) - 1 > -1
  · rw [if_pos h, show -(-1 : Int) = 1 from rfl, Int.ediv_one]; omega
  · rw [if_neg h]; omega
theorem sliceApplied_rev {sc9 : Addr} {vl vu vs : Value} {n : Nat} {Q : Int × Int × Nat → Shared → Prop} (hs : s.heap.IsSliceOf sc9 vl vu vs) (pl : IsPart vl none) (pu : IsPart vu none) (ps : IsPart vs (some (-1)))
    (h : Q ((n : Int) - 1, -1, n) s) : wpAny (model pg9 w) A (Builtin.Slice.sliceApplied (.ref sc9) (pure (n : Int))) Q E s := by
  obtain ⟨os, uos, ucs, uds⟩ := id hs
  unfold Builtin.Slice.sliceApplied Builtin.Slice.sliceFields
  refine wpAny_bind (wpAny_bind (wpAny_field uos uds (x := vl) rfl (wpAny_bind (wpAny_field uos uds (x := vu) rfl (wpAny_bind (wpAny_field uos uds (x := vs) rfl (wpAny_pure ?_)))))))
  refine wpAny_bind (slicePart_ ps ?_)
  show wpAny _ _ (if ((-1 : Int) == 0) = true then _ else _) _ _ s
  rw [if_neg (by decide)]
  refine wpAny_bind (slicePart_ pl (wpAny_bind (slicePart_ pu (wpAny_bind (wpAny_pure ?_)))))
  show wpAny _ _ (match Builtin.Slice.sliceAdjust none none (-1) (n : Int) with | (lo, hi) => pure (lo, (-1 : Int), Builtin.Slice.slicePlaces lo hi (-1))) _ _ s
  have e : Builtin.Slice.sliceAdjust none none (-1) (n : Int) = ((n : Int) - 1, -1) := rfl
  rw [e]
  show wpAny _ _ (pure ((n : Int) - 1, (-1 : Int), Builtin.Slice.slicePlaces ((n : Int) - 1) (-1) (-1))) _ _ s
  rw [rev_places]
  exact wpAny_pure h
theorem fm_congr {α β : Type} {f g : α → Option β} : ∀ {l : List α}, (∀ x ∈ l, f x = g x) → l.filterMap f = l.filterMap g
  | [], _ => rfl
  | x :: l, h => by
    rw [List.filterMap_cons, List.filterMap_cons, h x (List.mem_cons_self ..), fm_congr fun y hy => h y (List.mem_cons_of_mem _ hy)]
theorem fm_get {α : Type} (l : List α) : (List.range l.length).filterMap (fun (m : Nat) => l[m]?) = l := by
  have h1 : (List.range l.length).map (fun (m : Nat) => l[m]?) = l.map some := by
    apply List.ext_getElem?
    intro j
    rw [List.getElem?_map, List.getElem?_map]
    by_cases hj : j < l.length
    · rw [List.getElem?_eq_getElem (by rw [List.length_range]; exact hj), List.getElem_range]
      show some l[j]? = Option.map some l[j]?
      rw [List.getElem?_eq_getElem hj]; rfl
    · rw [List.getElem?_eq_none (by rw [List.length_range]; omega), List.getElem?_eq_none (by omega)]; rfl
  have h2 : (List.range l.length).filterMap (fun (m : Nat) => l[m]?) = ((List.range l.length).map (fun (m : Nat) => l[m]?)).filterMap id := by
    rw [List.filterMap_map]; rfl
  rw [h2, h1, List.filterMap_map]
  show l.filterMap some = l
  exact List.filterMap_some
theorem pick_rev (xs : Array Value) : ((List.range xs.size).filterMap fun (m : Nat) => xs[(((xs.size : Int) - 1) + (m : Int) * (-1)).toNat]?).toArray = xs.toList.reverse.toArray := by
  congr 1
  have e : ∀ (m : Nat), m ∈ List.range xs.size → xs[(((xs.size : Int) - 1) + (m : Int) * (-1)).toNat]? = xs.toList.reverse[m]? := fun m hm => by
    have hm' : m < xs.size := List.mem_range.mp hm
    have : (((xs.size : Int) - 1) + (m : Int) * (-1)).toNat = xs.size - 1 - m := by omega
    rw [this, List.getElem?_reverse (by rw [Array.length_toList]; exact hm'), Array.getElem?_toList, Array.length_toList]
  rw [fm_congr e]
  have hl : xs.toList.reverse.length = xs.size := by rw [List.length_reverse, Array.length_toList]
  have z := fm_get xs.toList.reverse
  rw [hl] at z
  exact z
theorem getItem_tuple_rev {t sc9 : Addr} {gs9 : Array Value} {vl vu vs : Value} {Q : Value → Shared → Prop} (th9 : IsTup s.heap t gs9) (hs : s.heap.IsSliceOf sc9 vl vu vs) (pl : IsPart vl none) (pu : IsPart vu none) (ps : IsPart vs (some (-1)))
    (h : Q (.ref s.heap.objs.size) { s with heap := s.heap.push { cls := .type "tuple", data := .seq gs9.toList.reverse.toArray } })
    (sz9 : gs9.size ≤ sizeLine) : wpAny (model pg9 w) A (getItem (.ref t) (.ref sc9)) Q E s := by
  have take9 : sizeOk (.seq gs9.toList.reverse.toArray) := by
    show gs9.toList.reverse.toArray.size ≤ sizeLine
    rw [List.size_toArray, List.length_reverse, Array.length_toList]
    exact sz9
  obtain ⟨os, uos, ucs, uds⟩ := id hs
  have uTs : s.TypeIs (.ref sc9) "slice" := ⟨os, uos, ucs⟩
  unfold getItem
  try with_reducible refine wpAny_holding ?_
  first | refine wpAny_bind (wpAny_pure ?_) | skip
  refine wpAny_bind (wpAny_sequenceKey th9.typeIs (by decide) ?_)
  refine wpAny_bind (wpAny_callSpecial?_slot (name := Str.ofString "__getitem__") th9.typeIs PyProof.Rows.slot_tuple_getitem
    (wpAny_call_entry PyProof.Rows.slot_tuple_getitem th9.typeIs entry_tuple_getitem ?_ (args_tuple_getitem _ _)))
  show wpAny _ _ (Builtin.Tuple.tupleItemsOf (.ref t) >>= _) _ _ s
  refine wpAny_bind (tupleItemsOf_ th9 ?_)
  refine wpAny_bind (wpAny_typeOf uTs ?_)
  rw [if_pos (by decide)]
  refine wpAny_bind (sliceApplied_rev hs pl pu ps ?_)
  have hno : ¬ (((((gs9.size : Nat) : Int) - 1) == 0 && (-1 : Int) == 1 && gs9.size == gs9.size) = true) := by
    intro q
    rw [Bool.and_eq_true, Bool.and_eq_true] at q
    exact absurd (eq_of_beq q.1.2) (by decide)
  show wpAny _ _ (if ((((gs9.size : Nat) : Int) - 1) == 0 && (-1 : Int) == 1 && gs9.size == gs9.size) = true then _ else _) _ _ s
  rw [if_neg hno, pick_rev]
  first
    | exact wpAny_bind (m := Builtin.Tuple.tupleExact _) (wpAny_newObj_type (wpAny_pure ⟨_, rfl, wpAny_pure h⟩) take9)
    | exact wpAny_bind (m := Builtin.Tuple.tupleExact _) (wpAny_newObj_type (wpAny_bind (wpAny_pure (wpAny_pure ⟨_, rfl, wpAny_pure h⟩))) take9)
    | exact wpAny_bind (wpAny_bind (m := Builtin.Tuple.tupleExact _) (wpAny_newObj_type (wpAny_pure (wpAny_pure ⟨_, rfl, wpAny_pure h⟩)) take9))
    | exact wpAny_bind (wpAny_bind (m := Builtin.Tuple.tupleExact _) (wpAny_newObj_type (wpAny_pure ⟨_, rfl, wpAny_pure h⟩) take9))
end
section
variable {X : Cx}
/-! x[::-1] -/
def tRevS (K : PySem.W.Frag) (te : TE) : TE := fun τ H Q => te τ H fun x H1 => ∃ a xs, x = .ref a ∧ ((SqL K H1 a xs ∧ ∀ p, H1 p = none → Q (.ref p) (upd H1 p (.lst xs.reverse))) ∨ (SqT K H1 a xs ∧ ∀ p, H1 p = none → Q (.ref p) (upd H1 p (.tup xs.reverse))))
theorem pe_revS {e : Expr} {te : TE} {k : Nat} {p1 p2 p3 pos : Pos} (he : PE X e te) : PE X (.Subscript e (.Slice none none (some (.UnaryOp .USub (.Constant (.int 1) k p1) p2)) p3) pos) (tRevS X.K te) := by
  refine ⟨fun pz s τ H Q I h => ?_⟩
  refine Subscript_ (thn (he.run pz s τ H _ I h) fun v tA ⟨x, H1, iA, r1, q1⟩ => ?_)
  obtain ⟨a, xs, ex, q⟩ := q1
  subst ex
  cases r1
  have st9 : PO X (some (.UnaryOp .USub (.Constant (.int 1) k p1) p2)) (tPart (tUn (rU fun i => .int (-i)) (tC (.int 1)))) := po_some (pe_un un_neg pe_int)
  refine wpAny_Slice (thn (po_none.run pz tA τ H1 (fun o H2 => o = none ∧ H2 = H1) iA ⟨rfl, rfl⟩) fun vl tB ⟨l, H2, iB, pl, el, e2⟩ => ?_)
  subst el e2
  refine thn (po_none.run pz tB τ H2 (fun o H3 => o = none ∧ H3 = H2) iB ⟨rfl, rfl⟩) fun vu tC ⟨u, H3, iC, pu, eu, e3⟩ => ?_
  subst eu e3
  refine thn (st9.run pz tC τ H3 (fun o H4 => o = some (-1) ∧ H4 = H3) iC ⟨1, rfl, -1, rfl, rfl, rfl⟩) fun vs tD ⟨o, H4, iD, ps, eo, e4⟩ => ?_
  subst eo e4
  have iE : Inv X pz τ H4 { tD with heap := tD.heap.push { cls := .type "slice", data := .fields #[vl, vu, vs] } } := iD.kept (t' := tD.toks) fun b ob q => Heap.get?_push_of_some _ q
  show wpAny (model X.prog X.w) X.A (subscriptTail e (.Slice none none (some (.UnaryOp .USub (.Constant (.int 1) k p1) p2)) p3) (.ref a) (.ref tD.heap.objs.size)) (EP X pz τ Q) X.xe { tD with heap := tD.heap.push { cls := .type "slice", data := .fields #[vl, vu, vs] } }
  rcases q with ⟨hx, q⟩ | ⟨hx, q⟩
  · obtain ⟨xs9, r, th9, hs9⟩ := iE.list hx
    have hlen := r.length
    refine tail_any (ops := [.ref a, .ref tD.heap.objs.size]) th9.isList.typeIs (PySem.slot_list_getitem.lookup) ?_ (by with_unfolding_all rfl)
    refine wpAny_getItem_list_slice th9.isList (Heap.IsSliceOf.new _ vl vu vs) pl pu ps (by decide) ?_ (by rw [List.size_toArray]; omega)
    rw [PySem.W.krv_pick]
    refine ⟨.ref _, _, iE.laid (t' := tD.toks) (o := .lst xs.reverse) (fun b ob q => Heap.get?_push_of_some _ q) (Nat.le_refl _) ?_, rfl, q _ (iE.hok.fresh (Nat.le_refl _))⟩
    exact ⟨by rw [List.length_reverse]; exact hs9, _, 0, r.reverse, Heap.get?_push_size _ rfl⟩
  · obtain ⟨xs9, r, th9, hs9⟩ := iE.tuple hx
    have hlen := r.length
    refine tail_any (ops := [.ref a, .ref tD.heap.objs.size]) th9.typeIs (PyProof.Rows.slot_tuple_getitem.lookup) ?_ (by with_unfolding_all rfl)
    refine getItem_tuple_rev th9 (Heap.IsSliceOf.new _ vl vu vs) pl pu ps ?_ (by rw [List.size_toArray]; omega)
    refine ⟨.ref _, _, iE.laid (t' := tD.toks) (o := .tup xs.reverse) (fun b ob q => Heap.get?_push_of_some _ q) (Nat.le_refl _) ?_, rfl, q _ (iE.hok.fresh (Nat.le_refl _))⟩
    exact ⟨by rw [List.length_reverse]; exact hs9, _, r.reverse, ⟨_, Heap.get?_push_size _ rfl, rfl, _, rfl⟩⟩
def dRev (de : DE) : DE := fun s m Q => de s m fun x m1 => match x with
  | .tup ds => Q (.tup ds.reverse) m1
  | .ref a => ∃ ds, seqOf m1 (.ref a) = some ds ∧ ∀ p, m1 p = none → Q (.ref p) (mset m1 p (.lst ds.reverse))
  | _ => False
theorem ge_rev {e : Expr} {de : DE} {k : Nat} {p1 p2 p3 pos : Pos} (he : GE X e de) : GE X (.Subscript e (.Slice none none (some (.UnaryOp .USub (.Constant (.int 1) k p1) p2)) p3) pos) (dRev de) := by
  obtain ⟨te, p, l⟩ := he.ex
  refine .of ⟨_, pe_revS p, fun s H sd m Qd Q rs rm h k => ?_⟩
  refine l s H sd m _ _ rs rm h fun v H1 dv m1 t1 rm1 r1 h1 => ?_
  cases r1 with
  | @tup ds a vs sa ra => exact ⟨a, vs, rfl, .inr ⟨sa, fun p hp => k _ _ _ m1 (t1.trans (.new hp)) (rm1.skip hp) (.tup (SqT.of upd_same) (ra.rev.mono (.new hp))) h1⟩⟩
  | ref a =>
    obtain ⟨ds, e, q⟩ := h1
    obtain ⟨vs, sc9, r⟩ := ref_rep rm1 e
    exact ⟨a, vs, rfl, .inl ⟨sc9, fun p hp => k _ _ _ _ (t1.trans (.new hp)) (rm1.newL hp r.rev) (.ref p) (q p (rm1.fresh hp))⟩⟩
  | _ => exact h1.elim
/-! extend by a list or a tuple -/
theorem tup_plain {P : Program} {w : World} {h : Heap} {b : Addr} {xs9 : Array Value} (p : IsTup h b xs9) : ∃ o, h.get? b = some o ∧ o.cls = .type "tuple" ∧ ∃ n, o.data = .seq xs9 n := p
def rExtendU (K : PySem.W.Frag) : V → List V → Hp → VK → Prop := fun x vs H Q => ∃ l b xs zs, x = .ref l ∧ vs = [.ref b] ∧ H l = some (.lst xs) ∧ (H b = some (.lst zs) ∨ SqT K H b zs) ∧ xs.length + zs.length ≤ sizeLine ∧ Q .non (upd H l (.lst (xs ++ zs)))
theorem pd_extend_tuple (l : Addr) (gs9 : Array Value) (n : Nat) (b : Addr) (gt9 : Array Value) (n2 : Nat) (dd : Option Addr) (sc9 : Array (Option Value)) (hs0 : ¬(!gs9.isEmpty && Builtin.List.listTooLong (gs9.size + gt9.size)) = true) (hs1 : gs9.size ≤ sizeLine) (hs2 : gs9.size + gt9.size ≤ sizeLine + 1) :
    Meets (Builtin.«list.extend» ⟨[.ref l, .ref b], []⟩) (fun _ R s => s.heap.get? l = some { cls := .type "list", dict := none, data := .seq gs9 n, slots := #[] } ∧ s.heap.get? b = some { cls := .type "tuple", dict := dd, data := .seq gt9 n2, slots := sc9 } ∧ R (.ok (.ret Value.none)) { s with heap := s.heap.update l (Obj.mapSeq fun x => x ++ gt9) }) :=
  .of_wp fun pg9 w A R s h => by
    obtain ⟨hp, g, d, tk, os⟩ := s; obtain ⟨hl, hb, h⟩ := h; have f1 := AutoSeq1.idx_int; have f2 := sub_tuple_tuple; have f3 := sub_list_list; have f4 := sub_tuple_list; have f5 := sub_list_tuple;
    have hz' : (gs9 ++ gt9).size ≤ sizeLine + 1 := by rw [Array.size_append]; exact hs2
    wp_walk using (wpAny_updateSeq hl rfl (hz := hs1) (_hz' := hz')), AutoSeq1.wpAny_loadPart' hl, AutoSeq1.wpAny_loadPart' hb; exact ⟨_, rfl, h⟩
theorem mt_extendU : MtM X "list.extend" (rExtendU X.K) := by
  intro pz s τ H x vs v us Q I rx ra9 h
  obtain ⟨l, b, xs, zs, rfl, rfl, hH, hB, hs9, q⟩ := h
  rcases hB with hB | hB
  · exact mt_extend pz s τ H _ _ v us Q I rx ra9 ⟨l, b, xs, zs, rfl, rfl, hH, hB, hs9, q⟩
  · cases rx
    obtain ⟨u, rfl, ru⟩ := ra9.one
    cases ru
    obtain ⟨z, xs9, n, r, hl, e⟩ := I.lstM hH
    obtain ⟨ys9, r2, p2, hl2⟩ := I.tuple hB
    obtain ⟨⟨c2, dd2, dt2, sl2⟩, e2, hc2, n2, hd2⟩ := id p2
    replace hc2 : c2 = .type "tuple" := hc2
    replace hd2 : dt2 = .seq ys9.toArray n2 := hd2
    subst hc2 hd2
    have le9 := r2.length
    have sz9 : xs9.toArray.size + ys9.toArray.size ≤ sizeLine := by rw [List.size_toArray, List.size_toArray]; omega
    have hlong : ¬ (!xs9.toArray.isEmpty && Builtin.List.listTooLong (xs9.toArray.size + ys9.toArray.size)) = true := by
      rw [notLongL sz9, Bool.and_false]
      exact Bool.false_ne_true
    refine call_meets F.slot_list_extend ⟨_, e, rfl⟩ F.entry_list_extend (F.args_list_extend_2 _ _)
      (pd_extend_tuple l xs9.toArray n b ys9.toArray n2 dd2 sl2 hlong (by rw [List.size_toArray]; omega) (by omega)) ⟨e, e2, ?_⟩
    refine ⟨.non, _, I.lset (its' := xs9 ++ ys9) hH e (by simp) (r.append r2) ?_, rfl, q⟩
    rw [List.length_append]
    omega
theorem lm_extend {K : PySem.W.Frag} : LM K (rExtendU K) dExtend := fun x vs H dx ds m Qd Q rm rx r h k => by
  match ds, r, h with
  | [.tup zs], r, h =>
    obtain ⟨a, es, zs', e, e1, hs9, q⟩ := h
    cases e1
    obtain ⟨rfl, rfl, _, ws, e2, r2⟩ := lst_rep rm rx e
    obtain ⟨v, rfl, ra9⟩ := repL1 r
    cases ra9 with
    | @tup _ b us sb rb => exact ⟨a, b, ws, us, rfl, rfl, e2, .inr sb, by rw [← r2.length, ← rb.length]; exact hs9, k _ _ _ _ (.lst e2) (rm.setL e2 (r2.append rb)) .non q⟩
  | [.ref b], r, h =>
    obtain ⟨a, es, zs, e, e1, hs9, q⟩ := h
    obtain ⟨rfl, rfl, _, ws, e2, r2⟩ := lst_rep rm rx e
    obtain ⟨v, rfl, ra9⟩ := repL1 r
    cases ra9
    unfold seqW at e1
    cases e3 : m b with
    | none => simp only [e3] at e1; cases e1
    | some o =>
      have z := rm b o e3
      cases o with
      | lst ys =>
        simp only [e3] at e1; cases e1
        obtain ⟨us, e4, rb⟩ := z
        exact ⟨a, b, ws, us, rfl, rfl, e2, .inl e4, by rw [← r2.length, ← rb.length]; exact hs9, k _ _ _ _ (.lst e2) (rm.setL e2 (r2.append rb)) .non q⟩
  | [.non], _, h => obtain ⟨_, _, _, _, e, _⟩ := h; cases e
  | [.bl _], _, h => obtain ⟨_, _, _, _, e, _⟩ := h; cases e
  | [.int _], _, h => obtain ⟨_, _, _, _, e, _⟩ := h; cases e
  | [.str _], _, h => obtain ⟨_, _, _, _, e, _⟩ := h; cases e
  | [.rol _], _, h => obtain ⟨_, _, _, _, e, _⟩ := h; cases e
end
end PD

set_option Elab.async false
set_option linter.all false
set_option maxRecDepth 100000
set_option maxHeartbeats 4000000
namespace PD
open PySem PySem.Spec PyProof.Rows L2
section
variable {X : Cx}
/-! ### truth -/
theorem isEmptyL {K : PySem.W.Frag} {H : Hp} {ds : List D} {vs : List V} (r : RepL K H ds vs) : ds.isEmpty = vs.isEmpty := by
  cases r <;> rfl
theorem gt_tru {a : Expr} {da : DE} (ha : GE X a da) (he : ∀ whole, isTrue a X.env whole = (do let v ← whole; standAt a.pos; holding [v] (truthy v)) := by intro _; rfl) : GT X a (dTru da) := by
  obtain ⟨ta, p, l⟩ := ha.ex
  refine .of ⟨_, pt_truth p he, fun s H sd m Qd Q rs rm h k => ?_⟩
  refine l s H sd m _ _ rs rm h fun v H1 dv m1 t1 rm1 r1 h1 => ?_
  obtain ⟨b, e, q⟩ := h1
  refine ⟨b, ?_, k b H1 m1 t1 rm1 q⟩
  cases r1 with
  | non => cases e; rfl
  | bl c => cases e; rfl
  | int i => cases e; rfl
  | str z => cases e
  | @tup ds a vs sa ra =>
    cases e
    exact .inr (.inl ⟨vs, sa, by rw [← isEmptyL ra]⟩)
  | rol s r =>
    cases e
    exact .inl ⟨_, s.sq, by rw [← isEmptyL r]⟩
  | ref a =>
    have e : (seqOf m1 (.ref a)).map (fun ds => !ds.isEmpty) = some b := e
    cases e2 : seqOf m1 (.ref a) with
    | none => rw [e2] at e; cases e
    | some ds =>
      rw [e2] at e; cases e
      obtain ⟨vs, sl, r⟩ := ref_rep rm1 e2
      exact .inl ⟨vs, sl, by rw [← isEmptyL r]⟩
/-! ### statements -/
def dNext : DS := fun E s m => E.nx s m
def dSeq (t u : DS) : DS := fun E s m => t { E with nx := u E } s m
theorem gss_nil : GSs X [] dNext := ⟨_, pss_nil, fun s H sd m Ed E rs rm h k1 _ _ _ => k1 s H sd m (.refl H) rs rm h⟩
theorem LS.seq {K : PySem.W.Frag} {t u : TS} {d e : DS} (l : LS K t d) (l2 : LS K u e) : LS K (tSeq t u) (dSeq d e) := fun s H sd m Ed E rs rm h k1 k2 k3 k4 => by
  refine l s H sd m { Ed with nx := e Ed } { E with nx := u E } rs rm h (fun s' H' sd' m' t1 rs1 rm1 h1 => ?_) k2 k3 k4
  exact l2 s' H' sd' m' Ed E rs1 rm1 h1 (fun tB H2 sd2 m2 t2 a b c => k1 tB H2 sd2 m2 (t1.trans t2) a b c) (fun v H2 dv m2 t2 a b c => k2 v H2 dv m2 (t1.trans t2) a b c)
    (fun tB H2 sd2 m2 t2 a b c => k3 tB H2 sd2 m2 (t1.trans t2) a b c) (fun tB H2 sd2 m2 t2 a b c => k4 tB H2 sd2 m2 (t1.trans t2) a b c)
theorem gss_cons {st : Stmt} {rest : List Stmt} {d e : DS} (h1 : GS X st d) (h2 : GSs X rest e) : GSs X (st :: rest) (dSeq d e) := by
  obtain ⟨t, p, l⟩ := h1.ex
  obtain ⟨u, q, l2⟩ := h2.ex
  exact ⟨_, pss_cons p q, l.seq l2⟩
theorem gss_one {st : Stmt} {d : DS} (h1 : GS X st d) : GSs X [st] d := by
  obtain ⟨t, p, l⟩ := h1.ex
  exact ⟨_, pss_one p, l⟩
def dBreak : DS := fun E s m => E.bk s m
def dCont : DS := fun E s m => E.ct s m
theorem gs_pass {pos : Pos} : GS X (.Pass pos) dNext := ⟨_, ps_pass, fun s H sd m Ed E rs rm h k1 _ _ _ => k1 s H sd m (.refl H) rs rm h⟩
theorem gs_break {pos : Pos} : GS X (.Break pos) dBreak := ⟨_, ps_break, fun s H sd m Ed E rs rm h _ _ k3 _ => k3 s H sd m (.refl H) rs rm h⟩
theorem gs_continue {pos : Pos} : GS X (.Continue pos) dCont := ⟨_, ps_continue, fun s H sd m Ed E rs rm h _ _ _ k4 => k4 s H sd m (.refl H) rs rm h⟩
def dDrop (a : DE) : DS := fun E s m => a s m fun _ m1 => E.nx s m1
theorem gs_expr {e : Expr} {pos : Pos} {d : DE} (he : GE X e d) (hs : swapsWith e none pos.line X.env = pure false := by rfl) : GS X (.Expr e pos) (dDrop d) := by
  obtain ⟨t, p, l⟩ := he.ex
  exact ⟨_, ps_expr p hs, fun s H sd m Ed E rs rm h k1 _ _ _ => l s H sd m _ _ rs rm h fun v H1 dv m1 t1 rm1 r1 h1 => k1 s H1 sd m1 t1 (rs.mono t1) rm1 h1⟩
def dRet (a : DE) : DS := fun E s m => a s m E.rt
theorem gs_ret {e : Expr} {pos : Pos} {d : DE} (he : GE X e d) : GS X (.Return (some e) pos) (dRet d) := by
  obtain ⟨t, p, l⟩ := he.ex
  exact ⟨_, ps_ret p, fun s H sd m Ed E rs rm h _ k2 _ _ => l s H sd m _ _ rs rm h fun v H1 dv m1 t1 rm1 r1 h1 => k2 v H1 dv m1 t1 rm1 r1 h1⟩
def dRetN : DS := fun E _ m => E.rt .non m
theorem gs_retN {pos : Pos} : GS X (.Return none pos) dRetN := ⟨_, ps_retN, fun s H sd m Ed E rs rm h _ k2 _ _ => k2 .non H .non m (.refl H) rm .non h⟩
def dIfS (c : DT) (t u : DS) : DS := fun E s m => c s m fun b m1 => if b = true then t E s m1 else u E s m1
theorem gs_if {c : Expr} {a b : List Stmt} {pos : Pos} {dc : DT} {t u : DS} (hc : GT X c dc) (ha : GSs X a t) (hb : GSs X b u) : GS X (.If c a b pos) (dIfS dc t u) := by
  obtain ⟨tc, p, l⟩ := hc.ex
  obtain ⟨ta, q, l2⟩ := ha.ex
  obtain ⟨tb, q2, l3⟩ := hb.ex
  refine ⟨_, ps_if p q q2, fun s H sd m Ed E rs rm h k1 k2 k3 k4 => ?_⟩
  refine l s H sd m _ _ rs rm h fun b H1 m1 t1 rm1 h1 => ?_
  have c1 : ∀ tB H2 sd2 m2, TX H1 H2 → RS X.K H2 sd2 tB → RM X.K H2 m2 → Ed.nx sd2 m2 → E.nx tB H2 := fun tB H2 sd2 m2 t2 a b c => k1 tB H2 sd2 m2 (t1.trans t2) a b c
  have c2 : ∀ v H2 dv m2, TX H1 H2 → RM X.K H2 m2 → Rep X.K H2 dv v → Ed.rt dv m2 → E.rt v H2 := fun v H2 dv m2 t2 a b c => k2 v H2 dv m2 (t1.trans t2) a b c
  have c3 : ∀ tB H2 sd2 m2, TX H1 H2 → RS X.K H2 sd2 tB → RM X.K H2 m2 → Ed.bk sd2 m2 → E.bk tB H2 := fun tB H2 sd2 m2 t2 a b c => k3 tB H2 sd2 m2 (t1.trans t2) a b c
  have c4 : ∀ tB H2 sd2 m2, TX H1 H2 → RS X.K H2 sd2 tB → RM X.K H2 m2 → Ed.ct sd2 m2 → E.ct tB H2 := fun tB H2 sd2 m2 t2 a b c => k4 tB H2 sd2 m2 (t1.trans t2) a b c
  cases b with
  | true =>
    show ta E s H1
    exact l2 s H1 sd m1 Ed E (rs.mono t1) rm1 h1 c1 c2 c3 c4
  | false =>
    show tb E s H1
    exact l3 s H1 sd m1 Ed E (rs.mono t1) rm1 h1 c1 c2 c3 c4
/-! ### targets -/
abbrev DG := D → Sd → Mu → (Sd → Mu → Prop) → Prop
abbrev DGs := List D → Sd → Mu → (Sd → Mu → Prop) → Prop
/-- js: the slots that may be set -/
def Own (js : List Nat) (s tB : L2.St) : Prop := ∀ vs : List Nat, (∀ j ∈ js, j ∈ vs) → wipe tB vs = wipe s vs
def LG (K : PySem.W.Frag) (g : TG) (dg : DG) (js : List Nat) : Prop := ∀ x dx s H sd m (Qd : Sd → Mu → Prop) (Q : L2.St → Hp → Prop), Rep K H dx x → RS K H sd s → RM K H m → dg dx sd m Qd →
  (∀ s' H' sd' m', TX H H' → RS K H' sd' s' → RM K H' m' → Qd sd' m' → Own js s s' → Q s' H') → g x s H Q
def LGs (K : PySem.W.Frag) (g : TGs) (dg : DGs) (js : List Nat) : Prop := ∀ xs dxs s H sd m (Qd : Sd → Mu → Prop) (Q : L2.St → Hp → Prop), RepL K H dxs xs → RS K H sd s → RM K H m → dg dxs sd m Qd →
  (∀ s' H' sd' m', TX H H' → RS K H' sd' s' → RM K H' m' → Qd sd' m' → Own js s s' → Q s' H') → g xs s H Q
def liftG (K : PySem.W.Frag) (dg : DG) (js : List Nat) : TG := fun x s H Q => ∃ dx sd m Qd, Rep K H dx x ∧ RS K H sd s ∧ RM K H m ∧ dg dx sd m Qd ∧ ∀ s' H' sd' m', TX H H' → RS K H' sd' s' → RM K H' m' → Qd sd' m' → Own js s s' → Q s' H'
theorem liftG_le (K : PySem.W.Frag) (dg : DG) (js : List Nat) : LG K (liftG K dg js) dg js := fun x dx s H sd m Qd Q rx rs rm h k => ⟨dx, sd, m, Qd, rx, rs, rm, h, k⟩
structure GG (X : Cx) (tg : Expr) (dg : DG) (js : List Nat) : Prop where
  mk ::
  pg : PG X tg (liftG X.K dg js)
theorem GG.of {X : Cx} {tg : Expr} {g : TG} {dg : DG} {js : List Nat} (p : PG X tg g) (l : LG X.K g dg js) : GG X tg dg js :=
  ⟨⟨fun pz s τ H v u Q I r ⟨dx, sd, m, Qd, rx, rs, rm, h, k⟩ => p.run pz s τ H v u Q I r (l v dx τ H sd m Qd Q rx rs rm h k)⟩⟩
theorem GG.lg {X : Cx} {tg : Expr} {dg : DG} {js : List Nat} (h : GG X tg dg js) : LG X.K (liftG X.K dg js) dg js := liftG_le _ _ _
structure GGs (X : Cx) (ts : List Expr) (dg : DGs) (js : List Nat) : Prop where
  ex : ∃ g, PGs X ts g ∧ LGs X.K g dg js
theorem wipe_set {v : Option V} {j : Nat} : ∀ {vs : List Nat} {s : L2.St}, j ∈ vs → wipe (s.set j v) vs = wipe s vs
  | [], _, h => by cases h
  | i :: vs, s, h => by
    unfold wipe
    by_cases e : j = i
    · subst e
      by_cases h2 : j ∈ vs
      · rw [wipe_set h2]
      · have : ∀ {ws : List Nat} {s : L2.St}, j ∉ ws → wipe (s.set j v) ws = (wipe s ws).set j v := fun {ws} {s} => by
          induction ws with
          | nil => intro _; rfl
          | cons w ws ih =>
            intro hn
            unfold wipe
            rw [ih fun z => hn (List.mem_cons_of_mem _ z)]
            rw [List.set_comm _ _ (fun z => hn (by rw [z]; exact List.mem_cons_self ..))]
        rw [this h2, List.set_set]
    · rw [wipe_set (by rcases List.mem_cons.mp h with z | z; exact absurd z e; exact z)]
def dgN (j : Nat) : DG := fun d s m Q => Q (s.set j (some d)) m
theorem gg_name {pos : Pos} {i : Nat} {x : Str} (hN : X.N.Nodup) (hi : X.N[i]? = some x) (hx : Loc X.env.scope x) (hf : X.fn x = true ∨ X.env.scope.names.lookup x = some .local := by first | exact .inl rfl | exact .inr rfl | assumption) : GG X (.Name x pos) (dgN i) [i] :=
  .of (pg_name hN hi hx hf) fun x dx s H sd m Qd Q rx rs rm h k => k _ H _ m (.refl H) (rs.set rx i) rm h fun vs hv => wipe_set (hv i (List.mem_singleton.mpr rfl))
def dgNil : DGs := fun ds s m Q => match ds with | [] => Q s m | _ => False
def dgCons (g : DG) (r : DGs) : DGs := fun ds s m Q => match ds with | d :: ds => g d s m fun tA m1 => r ds tA m1 Q | [] => False
theorem ggs_nil : GGs X [] dgNil [] :=
  ⟨_, pgs_nil, fun xs dxs s H sd m Qd Q rx rs rm h k => by
    cases rx with
    | nil => exact ⟨rfl, k s H sd m (.refl H) rs rm h fun _ _ => rfl⟩
    | cons a b => exact h.elim⟩
theorem ggs_cons {e : Expr} {es : List Expr} {dg : DG} {dgs : DGs} {js ks : List Nat} (h1 : GG X e dg js) (h2 : GGs X es dgs ks) (hs : (assignEach (e :: es) X.env).map (·.2) = assign e X.env :: (assignEach es X.env).map (·.2) := by rfl) : GGs X (e :: es) (dgCons dg dgs) (js ++ ks) := by
  obtain ⟨gs, p2, l2⟩ := h2.ex
  exact ⟨_, pgs_cons h1.pg p2 hs, fun xs dxs s H sd m Qd Q rx rs rm h k => by
    cases rx with
    | nil => exact h.elim
    | cons a b =>
      refine ⟨_, _, rfl, h1.lg _ _ s H sd m _ _ a rs rm h fun tA H1 sd1 m1 t1 rs1 rm1 q1 o1 => ?_⟩
      exact l2 _ _ tA H1 sd1 m1 _ _ (b.mono t1) rs1 rm1 q1 fun tB H2 sd2 m2 t2 rs2 rm2 q2 o2 => k tB H2 sd2 m2 (t1.trans t2) rs2 rm2 q2 fun vs hv =>
        (o2 vs fun j hj => hv j (List.mem_append_right _ hj)).trans (o1 vs fun j hj => hv j (List.mem_append_left _ hj))⟩
def dgTup (n : Nat) (g : DGs) : DG := fun d s m Q => match d with | .tup ds => ds.length = n ∧ g ds s m Q | _ => False
theorem gg_tup {es : List Expr} {k n : Nat} {pos : Pos} {dg : DGs} {js : List Nat} (hc : X.calm = true) (h : GGs X es dg js) (hn : (assignEach es X.env).length = n := by rfl) (hst : (assignEach es X.env).findIdx? (·.1) = none := by rfl) : GG X (.Tuple es k pos) (dgTup n dg) js := by
  obtain ⟨g, p, l⟩ := h.ex
  exact .of (pg_tup hc p hn hst) fun x dx s H sd m Qd Q rx rs rm hh k => by
    cases rx with
    | @tup ds a vs sa ra => exact ⟨a, vs, rfl, sa, by rw [← ra.length]; exact hh.1, l _ _ s H sd m Qd Q ra rs rm hh.2 k⟩
    | _ => exact hh.elim
def dAsg (e : DE) (g : DG) : DS := fun E s m => e s m fun x m1 => g x s m1 E.nx
theorem gs_asg {tg e : Expr} {pos : Pos} {de : DE} {dg : DG} {js : List Nat} (he : GE X e de) (hg : GG X tg dg js) (hs : swapsWithSole [tg] e pos.line X.env = pure false := by rfl) (hw : swappedStores [tg] e X.env = pure none := by rfl) (h1 : (assignEach [tg] X.env).map (·.2) = [assign tg X.env] := by rfl) : GS X (.Assign [tg] e pos) (dAsg de dg) := by
  obtain ⟨t, p, l⟩ := he.ex
  refine ⟨_, ps_asg p hg.pg hs hw h1, fun s H sd m Ed E rs rm h k1 _ _ _ => ?_⟩
  refine l s H sd m _ _ rs rm h fun v H1 dv m1 t1 rm1 r1 h1 => ?_
  exact hg.lg v dv s H1 sd m1 _ _ r1 (rs.mono t1) rm1 h1 fun tB H2 sd2 m2 t2 rs2 rm2 q2 _ => k1 tB H2 sd2 m2 (t1.trans t2) rs2 rm2 q2
def dSet (i : Nat) (e : DE) : DS := dAsg e (dgN i)
theorem gs_set {i : Nat} {x : Str} {e : Expr} {pos pos' : Pos} {de : DE} (hN : X.N.Nodup) (hi : X.N[i]? = some x) (hx : Loc X.env.scope x) (he : GE X e de) (hs : swapsWith e (some (.Name x pos')) pos.line X.env = pure false := by rfl) (hf : X.fn x = true ∨ X.env.scope.names.lookup x = some .local := by first | exact .inl rfl | exact .inr rfl | assumption) :
    GS X (.Assign [.Name x pos'] e pos) (dSet i de) := by
  obtain ⟨t, p, l⟩ := he.ex
  refine ⟨_, ps_set hN hi hx p hs hf, fun s H sd m Ed E rs rm h k1 _ _ _ => ?_⟩
  exact l s H sd m _ _ rs rm h fun v H1 dv m1 t1 rm1 r1 h1 => k1 _ H1 _ m1 t1 ((rs.mono t1).set r1 i) rm1 h1
/-! x[i] = e -/
def dSub3 : D → D → D → Mu → (Mu → Prop) → Prop := fun o i v m Q => match i with
  | .int k => ∃ a es, lstOf m o = some (a, es) ∧ ∃ j, ixN es.length k = some j ∧ Q (mset m a (.lst (es.set j v)))
  | _ => False
def dgSub (o i : DE) : DG := fun v s m Q => o s m fun ov9 m1 => i s m1 fun iv m2 => dSub3 ov9 iv v m2 fun m3 => Q s m3
theorem gg_sub {o i : Expr} {pos : Pos} {d1 d2 : DE} (ho : GE X o d1) (hi : GE X i d2) (ha : ∀ v, assign (.Subscript o i pos) X.env v = (do
      let ov9 ← holding [v] (eval o X.env)
      let iv ← holding [v, ov9] (eval i X.env)
      standAt pos
      holding [v, ov9, iv] (setItem ov9 iv v)
      release [v, ov9, iv] []) := by intro _; rfl) : GG X (.Subscript o i pos) (dgSub d1 d2) [] :=
  .of (pg_sub ho.pe hi.pe set_list ha) fun x dx s H sd m Qd Q rx rs rm h k => by
    refine liftE_le _ d1 s H sd m _ _ rs rm h fun v H1 dv m1 t1 rm1 r1 h1 => ?_
    refine liftE_le _ d2 s H1 sd m1 _ _ (rs.mono t1) rm1 h1 fun u H2 du m2 t2 rm2 r2 h2 => ?_
    cases r2 with
    | int z =>
      obtain ⟨a, es, e, j, e2, q⟩ := h2
      obtain ⟨rfl, rfl, _, ws, e3, r3⟩ := lst_rep rm2 (r1.mono t2) e
      have t12 := t1.trans t2
      exact ⟨a, ws, z, j, rfl, rfl, e3, by rw [← r3.length]; exact e2, k s _ sd _ (t12.trans (.lst e3)) (rs.mono (t12.trans (.lst e3))) (rm2.setL e3 (RepL.set (rx.mono t12) j r3)) q fun _ _ => rfl⟩
    | _ => exact h2.elim
/-! ### += on a name -/
def dAug (i : Nat) (e : DE) (r : D2) : DS := fun E s m => match s[i]? with | some (some x) => e s m fun y m1 => r x y m1 fun z m2 => E.nx (s.set i (some z)) m2 | _ => False
theorem gs_aug {i : Nat} {x : Str} {e : Expr} {pos pos' : Pos} {op : Operator} {ti : TIp} {r : D2} {de : DE} (hN : X.N.Nodup) (hi : X.N[i]? = some x) (hx : Loc X.env.scope x) (he : GE X e de) (ho : PIp X op ti) (lr : LR X.K ti r) (hf : X.fn x = true ∨ X.env.scope.names.lookup x = some .local := by first | exact .inl rfl | exact .inr rfl | assumption) :
    GS X (.AugAssign (.Name x pos') op e pos) (dAug i de r) := by
  obtain ⟨t, p, l⟩ := he.ex
  refine ⟨_, ps_aug hN hi hx p ho hf, fun s H sd m Ed E rs rm h k1 _ _ _ => ?_⟩
  unfold dAug at h
  split at h
  · rename_i d e1
    obtain ⟨v, e2, ra9⟩ := rs.at_ i d e1
    refine ⟨v, e2, l s H sd m _ _ rs rm h fun u H1 du m1 t1 rm1 r1 h1 => ?_⟩
    exact lr v u H1 d du m1 _ _ rm1 (ra9.mono t1) r1 h1 fun z H2 dz m2 t2 rm2 r2 h2 => k1 _ H2 _ m2 (t1.trans t2) ((rs.mono (t1.trans t2)).set r2 i) rm2 h2
  · exact h.elim
end
end PD

set_option Elab.async false
set_option linter.all false
set_option maxRecDepth 100000
set_option maxHeartbeats 4000000
namespace PD
open PySem PySem.Spec PyProof.Rows L2
/-! ### what is walked: the items, and what must stand while it is walked -/
abbrev DI := Sd → Mu → (List D → (Mu → Prop) → Mu → Prop) → Prop
structure JOk (K : PySem.W.Frag) (J : It) (es : List D) (st : Mu → Prop) (H1 : Hp) : Prop where
  go : ∀ i H m, TX H1 H → RM K H m → st m → i < es.length → J.go i H
  yld : ∀ i H x H' m, TX H1 H → RM K H m → st m → i < es.length → J.yld i H x H' → ∃ d, es[i]? = some d ∧ TX H H' ∧ RM K H' m ∧ Rep K H' d x
  stop : ∀ i H m, TX H1 H → RM K H m → st m → es.length ≤ i → J.stop i H
def LI (K : PySem.W.Frag) (wi : TI) (di : DI) : Prop := ∀ s H sd m (Rd : List D → (Mu → Prop) → Mu → Prop) (R : It → Hp → Prop), RS K H sd s → RM K H m → di sd m Rd →
  (∀ J H1 es st m1, TX H H1 → RM K H1 m1 → JOk K J es st H1 → Rd es st m1 → R J H1) → wi s H R
structure GI (X : Cx) (tg iter : Expr) (wi : TI) (di : DI) : Prop where
  pi : PI X tg iter wi
  li : LI X.K wi di
def GIE (X : Cx) (tg iter : Expr) (di : DI) : Prop := ∃ wi, GI X tg iter wi di
/-- es walked -/
def dLoop (st : Mu → Prop) (g : DG) (tb : DS) (E : DEnds) : List D → Sd → Mu → Prop
  | [] => fun s m => st m ∧ E.nx s m
  | d :: es => fun s m => st m ∧ g d s m fun s2 m2 => tb { E with nx := dLoop st g tb E es, ct := dLoop st g tb E es, bk := E.nx } s2 m2
def dFor (di : DI) (g : DG) (tb : DS) : DS := fun E s m => di s m fun es st m1 => dLoop st g tb E es s m1
section
variable {X : Cx}
theorem gs_for {tg iter : Expr} {body : List Stmt} {pos : Pos} {di : DI} {dg : DG} {js : List Nat} {d : DS} (hp : PassesOwn (model X.prog X.w) X.A X.env X.xe) (hc : X.calm = true) (hi : GIE X tg iter di) (hg : GG X tg dg js) (hb : GSs X body d) (hs : ∀ x, foldedSetIterable iter X.env x = pure x := by intro _; rfl) :
    GS X (.For tg iter body [] pos) (dFor di dg d) := by
  obtain ⟨wi, hi⟩ := hi
  obtain ⟨tb, p, l⟩ := hb.ex
  refine ⟨_, ps_for hp hc hi.pi hg.pg p hs, fun s H sd m Ed E rs rm h k1 k2 k3 k4 => ?_⟩
  refine hi.li s H sd m _ _ rs rm h fun J H1 es st m1 t1 rm1 jo h1 => ?_
  refine ⟨fun i n s' H' => i ≤ es.length ∧ n = es.length - i ∧ ∃ sd' m', TX H1 H' ∧ RS X.K H' sd' s' ∧ RM X.K H' m' ∧ dLoop st dg d Ed (es.drop i) sd' m', ⟨es.length, Nat.zero_le _, by omega, sd, m1, .refl _, rs.mono t1, rm1, h1⟩, ?_⟩
  rintro i n s' H' ⟨hle, rfl, sd', m', t2, rs2, rm2, q⟩
  by_cases hlt : i < es.length
  · rw [List.drop_eq_getElem_cons hlt] at q
    obtain ⟨hst, q⟩ := q
    refine .inr ⟨jo.go i H' m' t2 rm2 hst hlt, fun s2 H2 => ∃ sd2 m2, TX H1 H2 ∧ RS X.K H2 sd2 s2 ∧ RM X.K H2 m2 ∧ dLoop st dg d Ed (es.drop (i + 1)) sd2 m2, fun s2 H2 ⟨sd2, m2, a, b, c, e⟩ => ⟨es.length - (i + 1), by omega, hlt, rfl, sd2, m2, a, b, c, e⟩, fun x H3 hy => ?_⟩
    obtain ⟨dx, e, t3, rm3, rx⟩ := jo.yld i H' x H3 m' t2 rm2 hst hlt hy
    rw [List.getElem?_eq_getElem hlt] at e
    cases e
    refine hg.lg x _ s' H3 sd' m' _ _ rx (rs2.mono t3) rm3 q fun s4 H4 sd4 m4 t4 rs4 rm4 q4 _ => ?_
    have t14 : TX H1 H4 := t2.trans (t3.trans t4)
    refine l s4 H4 sd4 m4 _ _ rs4 rm4 q4 (fun s5 H5 sd5 m5 t5 a b c => ⟨sd5, m5, t14.trans t5, a, b, c⟩) (fun v H5 dv m5 t5 a b c => k2 v H5 dv m5 (t1.trans (t14.trans t5)) a b c)
      (fun s5 H5 sd5 m5 t5 a b c => k1 s5 H5 sd5 m5 (t1.trans (t14.trans t5)) a b c) (fun s5 H5 sd5 m5 t5 a b c => ⟨sd5, m5, t14.trans t5, a, b, c⟩)
  · have e : i = es.length := by omega
    subst e
    rw [List.drop_length] at q
    exact .inl ⟨jo.stop _ H' m' t2 rm2 q.1 (Nat.le_refl _), k1 s' H' sd' m' (t1.trans t2) rs2 rm2 q.2⟩
/-! a list, a tuple -/
def dISeq (a : DE) : DI := fun s m R => a s m fun x m1 => match x with
  | .tup ds => R ds (fun _ => True) m1
  | .ref p => ∃ ds, seqOf m1 (.ref p) = some ds ∧ R ds (fun m' => seqOf m' (.ref p) = some ds) m1
  | _ => False
theorem gi_seq {tg l : Expr} {a : DE} (h : GE X l a) : GIE X tg l (dISeq a) :=
  ⟨iSeq X.K (liftE X.K a), pi_seq h.pe, fun s H sd m Rd R rs rm hh k => by
    refine liftE_le _ a s H sd m _ _ rs rm hh fun v H1 dv m1 t1 rm1 r1 h1 => ?_
    cases r1 with
    | @tup ds p vs sa ra =>
      refine ⟨p, rfl, .inr ⟨vs, sa, k _ H1 ds (fun _ => True) m1 t1 rm1 ⟨fun i H' m' t' _ _ hi => ?_, fun i H' x H2 m' t' rm' _ _ hy => ?_, fun i H' m' t' _ _ hi => ?_⟩ h1⟩⟩
      · have hi' : i < vs.length := by rw [← ra.length]; exact hi
        exact ⟨vs, vs[i], t'.sqT sa, List.getElem?_eq_getElem hi'⟩
      · obtain ⟨rfl, f⟩ := hy
        obtain ⟨d, e, q⟩ := ra.getV (f _ (t'.sqT sa))
        exact ⟨d, e, .refl _, rm', q.mono t'⟩
      · exact ⟨vs, t'.sqT sa, by rw [← ra.length]; exact hi⟩
    | ref p =>
      obtain ⟨ds, e, q⟩ := h1
      obtain ⟨vs, sl, r⟩ := ref_rep rm1 e
      refine ⟨p, rfl, .inl ⟨vs, sl, k _ H1 ds (fun m' => seqOf m' (.ref p) = some ds) m1 t1 rm1 ⟨fun i H' m' t' rm' st hi => ?_, fun i H' x H2 m' t' rm' st _ hy => ?_, fun i H' m' t' rm' st hi => ?_⟩ q⟩⟩
      · obtain ⟨ws, sl', r'⟩ := ref_rep rm' st
        have hi' : i < ws.length := by rw [← r'.length]; exact hi
        exact ⟨ws, ws[i], sl', List.getElem?_eq_getElem hi'⟩
      · obtain ⟨rfl, f⟩ := hy
        obtain ⟨ws, sl', r'⟩ := ref_rep rm' st
        obtain ⟨d, e, q⟩ := r'.getV (f _ sl')
        exact ⟨d, e, .refl _, rm', q⟩
      · obtain ⟨ws, sl', r'⟩ := ref_rep rm' st
        exact ⟨ws, sl', by rw [← r'.length]; exact hi⟩
    | _ => exact h1.elim⟩
/-! range -/
def rangeD (lo : Int) (n : Nat) : List D := (List.range n).map fun (i : Nat) => .int (lo + (i : Int))
theorem jo_range {K : PySem.W.Frag} {lo : Int} {n : Nat} {H1 : Hp} : JOk K (Itr lo n) (rangeD lo n) (fun _ => True) H1 := by
  have hl : (rangeD lo n).length = n := by unfold rangeD; rw [List.length_map, List.length_range]
  refine ⟨fun i H m _ _ _ h => ?_, fun i H x H' m _ rm _ h hy => ?_, fun i H m _ _ _ h => ?_⟩
  · rw [hl] at h; exact h
  · obtain ⟨rfl, rfl⟩ := hy
    rw [hl] at h
    exact ⟨.int (lo + (i : Int)), by unfold rangeD; rw [List.getElem?_map, List.getElem?_range h]; rfl, .refl _, rm, .int _⟩
  · rw [hl] at h; exact h
def dIRng1 (a : DA) : DI := fun s m R => a s m fun ds m1 => match ds with
  | [.int j] => -(2 ^ 62) ≤ j ∧ j < 2 ^ 62 ∧ R (rangeD 0 j.toNat) (fun _ => True) m1
  | _ => False
def dIRng2 (a : DA) : DI := fun s m R => a s m fun ds m1 => match ds with
  | [.int i, .int j] => (-(2 ^ 62) ≤ i ∧ i < 2 ^ 62 ∧ -(2 ^ 62) ≤ j ∧ j < 2 ^ 62) ∧ R (rangeD i (j - i).toNat) (fun _ => True) m1
  | _ => False
theorem gi_rng1 {tg a : Expr} {p pos : Pos} {da : DA} (hg : Gl X "range") (hm : X.mg "range" = none) (ha : GA X [a] da) (hs : starEach [a] X.env = [(false, eval a X.env)] := by rfl) :
    GIE X tg (.Call (.Name "range" p) [a] [] pos) (dIRng1 da) := by
  obtain ⟨ta, q, l⟩ := ha.ex
  refine ⟨_, pi_range1 hg hm q hs, fun s H sd m Rd R rs rm h k => ?_⟩
  refine l s H sd m _ _ rs rm h fun vs H1 ds m1 t1 rm1 r1 h1 => ?_
  match ds, r1, h1 with
  | [.int j], r1, h1 =>
    obtain ⟨v, rfl, rv⟩ := repL1 r1
    cases rv
    exact ⟨j, rfl, h1.1, h1.2.1, k _ H1 _ _ m1 t1 rm1 jo_range h1.2.2⟩
theorem gi_rng2 {tg a b : Expr} {p pos : Pos} {da : DA} (hg : Gl X "range") (hm : X.mg "range" = none) (ha : GA X [a, b] da) (hs : starEach [a, b] X.env = [(false, eval a X.env), (false, eval b X.env)] := by rfl) (hs2 : starEach [b] X.env = [(false, eval b X.env)] := by rfl) :
    GIE X tg (.Call (.Name "range" p) [a, b] [] pos) (dIRng2 da) := by
  obtain ⟨ta, q, l⟩ := ha.ex
  refine ⟨_, pi_range2 hg hm q hs hs2, fun s H sd m Rd R rs rm h k => ?_⟩
  refine l s H sd m _ _ rs rm h fun vs H1 ds m1 t1 rm1 r1 h1 => ?_
  match ds, r1, h1 with
  | [.int i, .int j], r1, h1 =>
    obtain ⟨v, u, rfl, rv, ru⟩ := repL2 r1
    cases rv
    cases ru
    exact ⟨i, j, rfl, h1.1, k _ H1 _ _ m1 t1 rm1 jo_range h1.2⟩
/-! enumerate -/
def enumD (i : Nat) : List D → List D
  | [] => []
  | d :: ds => .tup [.int (i : Int), d] :: enumD (i + 1) ds
theorem enumD_len : ∀ (ds : List D) (i : Nat), (enumD i ds).length = ds.length
  | [], _ => rfl
  | d :: ds, i => by unfold enumD; rw [List.length_cons, List.length_cons, enumD_len ds]
theorem enumD_get : ∀ (ds : List D) (i j : Nat) {d : D}, ds[j]? = some d → (enumD i ds)[j]? = some (.tup [.int ((i + j : Nat) : Int), d])
  | [], _, _, _, h => by simp at h
  | d :: ds, i, 0, _, h => by
    have e := Option.some.inj h
    subst e; rfl
  | d :: ds, i, j + 1, e, h => by
    have z := enumD_get ds (i + 1) j (d := e) (by simpa using h)
    unfold enumD
    rw [List.getElem?_cons_succ, z]
    rw [show i + 1 + j = i + (j + 1) by omega]
def dIEnum (a : DA) : DI := fun s m R => a s m fun ds m1 => match ds with
  | [.tup es] => R (enumD 0 es) (fun _ => True) m1
  | [.ref p] => ∃ es, seqOf m1 (.ref p) = some es ∧ R (enumD 0 es) (fun m' => seqOf m' (.ref p) = some es) m1
  | _ => False
theorem enum_item {K : PySem.W.Frag} {i : Nat} {x : V} {d : D} {H : Hp} {T : Addr} {m : Mu} {es : List D} (rm : RM K H m) (hT : H T = none) (e : es[i]? = some d) (r : Rep K H d x) :
    ∃ d', (enumD 0 es)[i]? = some d' ∧ TX H (upd H T (.tup [.int (i : Nat), x])) ∧ RM K (upd H T (.tup [.int (i : Nat), x])) m ∧ Rep K (upd H T (.tup [.int (i : Nat), x])) d' (.ref T) := by
  refine ⟨_, enumD_get es 0 i e, .new hT, rm.skip hT, ?_⟩
  rw [Nat.zero_add]
  exact .tup (SqT.of upd_same) (.cons (.int _) (.cons (r.mono (.new hT)) .nil))
theorem gi_enum {e : Expr} {p pos tpos : Pos} {elts : List Expr} {kk : Nat} {da : DA} (hg : Gl X "enumerate") (hm : X.mg "enumerate" = none) (ha : GA X [e] da) (hs : starEach [e] X.env = [(false, eval e X.env)] := by rfl) :
    GIE X (.Tuple elts kk tpos) (.Call (.Name "enumerate" p) [e] [] pos) (dIEnum da) := by
  obtain ⟨ta, q, l⟩ := ha.ex
  refine ⟨_, pi_enumT hg hm q hs, fun s H sd m Rd R rs rm h k => ?_⟩
  refine l s H sd m _ _ rs rm h fun vs H1 ds m1 t1 rm1 r1 h1 => ?_
  match ds, r1, h1 with
  | [.tup es], r1, h1 =>
    obtain ⟨v, rfl, rv⟩ := repL1 r1
    cases rv with
    | @tup _ a ws sa ra =>
      refine ⟨a, rfl, .inr ⟨ws, sa, k _ H1 _ (fun _ => True) m1 t1 rm1 ⟨fun i H' m' t' _ _ hi => ?_, fun i H' x H2 m' t' rm' _ _ hy => ?_, fun i H' m' t' _ _ hi => ?_⟩ h1⟩⟩
      · rw [enumD_len] at hi
        have hi' : i < ws.length := by rw [← ra.length]; exact hi
        exact ⟨ws, ws[i], t'.sqT sa, List.getElem?_eq_getElem hi'⟩
      · obtain ⟨T, y, rfl, hT, rfl, f⟩ := hy
        obtain ⟨d, e, q⟩ := ra.getV (f _ (t'.sqT sa))
        exact enum_item rm' hT e (q.mono t')
      · rw [enumD_len] at hi
        exact ⟨ws, t'.sqT sa, by rw [← ra.length]; exact hi⟩
  | [.ref p], r1, h1 =>
    obtain ⟨es, e, q⟩ := h1
    obtain ⟨v, rfl, rv⟩ := repL1 r1
    cases rv
    obtain ⟨ws, sl, r⟩ := ref_rep rm1 e
    refine ⟨p, rfl, .inl ⟨ws, sl, k _ H1 _ (fun m' => seqOf m' (.ref p) = some es) m1 t1 rm1 ⟨fun i H' m' t' rm' st hi => ?_, fun i H' x H2 m' t' rm' st _ hy => ?_, fun i H' m' t' rm' st hi => ?_⟩ q⟩⟩
    · rw [enumD_len] at hi
      obtain ⟨us, sl', r'⟩ := ref_rep rm' st
      have hi' : i < us.length := by rw [← r'.length]; exact hi
      exact ⟨us, us[i], sl', List.getElem?_eq_getElem hi'⟩
    · obtain ⟨T, y, rfl, hT, rfl, f⟩ := hy
      obtain ⟨us, sl', r'⟩ := ref_rep rm' st
      obtain ⟨d, e, q⟩ := r'.getV (f _ sl')
      exact enum_item rm' hT e q
    · rw [enumD_len] at hi
      obtain ⟨us, sl', r'⟩ := ref_rep rm' st
      exact ⟨us, sl', by rw [← r'.length]; exact hi⟩
/-! ### while -/
def dWhile (c : DT) (tb : DS) : DS := fun E s m => ∃ W : Nat → Sd → Mu → Prop, (∃ n, W n s m) ∧ ∀ n s m, W n s m →
  c s m fun b m1 => if b = true then tb { E with nx := fun s' m' => ∃ n', n' < n ∧ W n' s' m', ct := fun s' m' => ∃ n', n' < n ∧ W n' s' m', bk := E.nx } s m1 else E.nx s m1
theorem gs_while {c : Expr} {body : List Stmt} {pos : Pos} {dc : DT} {d : DS} (hp : PassesOwn (model X.prog X.w) X.A X.env X.xe) (hc : GT X c dc) (hb : GSs X body d) : GS X (.While c body [] pos) (dWhile dc d) := by
  obtain ⟨tc, p, l⟩ := hc.ex
  obtain ⟨tb, q, l2⟩ := hb.ex
  refine ⟨_, ps_while hp p q, fun s H sd m Ed E rs rm h k1 k2 k3 k4 => ?_⟩
  obtain ⟨W, ⟨n0, w0⟩, turn⟩ := h
  refine ⟨fun n s' H' => ∃ sd' m', TX H H' ∧ RS X.K H' sd' s' ∧ RM X.K H' m' ∧ W n sd' m', ⟨n0, sd, m, .refl _, rs, rm, w0⟩, ?_⟩
  rintro n s' H' ⟨sd', m', t1, rs1, rm1, w⟩
  refine l s' H' sd' m' _ _ rs1 rm1 (turn n sd' m' w) fun b H2 m2 t2 rm2 h2 => ?_
  have t12 : TX H H2 := t1.trans t2
  cases b with
  | true =>
    refine ⟨fun s3 H3 => ∃ n', n' < n ∧ ∃ sd3 m3, TX H H3 ∧ RS X.K H3 sd3 s3 ∧ RM X.K H3 m3 ∧ W n' sd3 m3, fun s3 H3 ⟨n', a, b⟩ => ⟨n', a, b⟩, ?_⟩
    exact l2 s' H2 sd' m2 _ _ (rs1.mono t2) rm2 h2 (fun s5 H5 sd5 m5 t5 a b ⟨n', c, e⟩ => ⟨n', c, sd5, m5, t12.trans t5, a, b, e⟩) (fun v H5 dv m5 t5 a b c => k2 v H5 dv m5 (t12.trans t5) a b c)
      (fun s5 H5 sd5 m5 t5 a b c => k1 s5 H5 sd5 m5 (t12.trans t5) a b c) (fun s5 H5 sd5 m5 t5 a b ⟨n', c, e⟩ => ⟨n', c, sd5, m5, t12.trans t5, a, b, e⟩)
  | false => exact k1 s' H2 sd' m2 t12 (rs1.mono t2) rm2 h2
/-! ### [e for x in xs if t] -/
def wipeD (s : Sd) : List Nat → Sd
  | [] => s
  | v :: vs => (wipeD s vs).set v none
theorem RS.wipe {K : PySem.W.Frag} {H : Hp} {sd : Sd} {s : L2.St} (r : RS K H sd s) : ∀ vs : List Nat, RS K H (wipeD sd vs) (wipe s vs)
  | [] => r
  | v :: vs => by
    have ih := RS.wipe r vs
    unfold wipeD L2.wipe
    refine ⟨by rw [List.length_set, List.length_set]; exact ih.len, fun i d e => ?_⟩
    rw [List.getElem?_set] at e
    rw [List.getElem?_set]
    by_cases hv : v = i
    · rw [if_pos hv] at e
      split at e
      · cases e
      · cases e
    · rw [if_neg hv] at e ⊢
      exact ih.at_ i d e
theorem wipe_wipe (s : L2.St) (vs : List Nat) : wipe (wipe s vs) vs = wipe s vs := by
  have go : ∀ ws : List Nat, (∀ w ∈ ws, w ∈ vs) → wipe (wipe s ws) vs = wipe s vs := fun ws => by
    induction ws with
    | nil => intro _; rfl
    | cons w ws ih =>
      intro h
      show wipe ((wipe s ws).set w none) vs = wipe s vs
      rw [wipe_set (h w (List.mem_cons_self ..)), ih fun x hx => h x (List.mem_cons_of_mem _ hx)]
  exact go vs fun _ h => h
def dTests (c : DT) : DT := c
def dYes : DT := fun _ m Q => Q true m
structure GTs (X : Cx) (ifs : List Expr) (d : DT) : Prop where
  mk ::
  pts : PTs X ifs (liftT X.K d)
theorem gts_nil : GTs X [] dYes := ⟨⟨fun pins s σ H Q I ⟨sd, m, Qd, rs, rm, h, k⟩ => pts_nil.run pins s σ H Q I (k true H m (.refl H) rm h)⟩⟩
theorem gts_one {c : Expr} {d : DT} (h : GT X c d) : GTs X [c] d := ⟨pts_one h.pt⟩
def dComp (st : Mu → Prop) (g : DG) (t : DT) (e : DE) (p : Addr) (s : Sd) (Q : DK) : List D → List D → Mu → Prop
  | [], acc => fun m => st m ∧ m p = some (.lst acc) ∧ Q (.ref p) m
  | d :: es, acc => fun m => st m ∧ g d s m fun s2 m2 => t s2 m2 fun b m3 =>
      if b = true then e s2 m3 fun y m4 => m4 p = some (.lst acc) ∧ acc.length < sizeLine ∧ dComp st g t e p s Q es (acc ++ [y]) (mset m4 p (.lst (acc ++ [y]))) else dComp st g t e p s Q es acc m3
def dLc (di : DI) (g : DG) (t : DT) (e : DE) (vs : List Nat) : DE := fun s m Q => di s m fun es st m1 => ∀ p, m1 p = none → dComp st g t e p (wipeD s vs) Q es [] (mset m1 p (.lst []))
theorem le_lc {s : L2.St} {H : Hp} {Q : VK} {sd : Sd} {m : Mu} {Qd : DK} {tg iter : Expr} {vs : List Nat} {wi : TI} {di : DI} {g : TG} {dg : DG} {js : List Nat} {dt : DT} {de : DE} (hi : GI X tg iter wi di) (lg : LG X.K g dg js) (hj : ∀ j ∈ js, j ∈ vs)
    (rs : RS X.K H sd s) (rm : RM X.K H m) (h : dLc di dg dt de vs sd m Qd) (k : ∀ v H' dv m', TX H H' → RM X.K H' m' → Rep X.K H' dv v → Qd dv m' → Q v H') : tLc wi g (liftT X.K dt) (liftE X.K de) vs s H Q := by
  refine hi.li s H sd m _ _ rs rm h fun J H1 es st m1 t1 rm1 jo h1 => ?_
  intro p hp
  have h2 := h1 p (rm1.fresh hp)
  have tn : TX H1 (upd H1 p (.lst [])) := .new hp
  refine ⟨fun i n H' => i ≤ es.length ∧ n = es.length - i ∧ ∃ m' acc, TX H1 H' ∧ RM X.K H' m' ∧ dComp st dg dt de p (wipeD sd vs) Qd (es.drop i) acc m', ⟨es.length, Nat.zero_le _, by omega, _, [], tn, rm1.newL hp .nil, h2⟩, ?_⟩
  rintro i n H' ⟨hle, rfl, m', acc, t2, rm2, q⟩
  by_cases hlt : i < es.length
  · rw [List.drop_eq_getElem_cons hlt] at q
    obtain ⟨hst, q⟩ := q
    refine .inr ⟨jo.go i H' m' t2 rm2 hst hlt, fun H2 => ∃ m2 acc, TX H1 H2 ∧ RM X.K H2 m2 ∧ dComp st dg dt de p (wipeD sd vs) Qd (es.drop (i + 1)) acc m2, fun H2 ⟨m2, acc, a, b, e⟩ => ⟨es.length - (i + 1), by omega, hlt, rfl, m2, acc, a, b, e⟩, fun x H3 hy => ?_⟩
    obtain ⟨dx, e, t3, rm3, rx⟩ := jo.yld i H' x H3 m' t2 rm2 hst hlt hy
    rw [List.getElem?_eq_getElem hlt] at e
    cases e
    refine lg x _ (wipe s vs) H3 (wipeD sd vs) m' _ _ rx ((rs.mono (t1.trans (t2.trans t3))).wipe _) rm3 q fun s4 H4 sd4 m4 t4 rs4 rm4 q4 ow => ?_
    refine ⟨by rw [ow _ hj, wipe_wipe], ?_⟩
    have t14 : TX H1 H4 := t2.trans (t3.trans t4)
    refine liftT_le _ dt s4 H4 sd4 m4 _ _ rs4 rm4 q4 fun b H5 m5 t5 rm5 q5 => ?_
    cases b with
    | true =>
      show liftE X.K de s4 H5 _
      refine liftE_le _ de s4 H5 sd4 m5 _ _ (rs4.mono t5) rm5 q5 fun y H6 dy m6 t6 rm6 ry q6 => ?_
      obtain ⟨e6, hz, q6⟩ := q6
      obtain ⟨ws, e7, r7⟩ := rm6 p _ e6
      exact ⟨ws, e7, by rw [← r7.length]; exact hz, _, acc ++ [dy], t14.trans (t5.trans (t6.trans (.lst e7))), rm6.setL e7 (r7.append (.cons ry .nil)), q6⟩
    | false =>
      exact ⟨m5, acc, t14.trans t5, rm5, q5⟩
  · have e : i = es.length := by omega
    subst e
    rw [List.drop_length] at q
    exact .inl ⟨jo.stop _ H' m' t2 rm2 q.1 (Nat.le_refl _), k _ H' _ m' (t1.trans t2) rm2 (.ref p) q.2.2⟩
theorem ge_lc {elt tg iter : Expr} {ifs : List Expr} {scope : Scope} {own : List (Str × Nat)} {pos : Pos} {di : DI} {dg : DG} {js : List Nat} {dt : DT} {de : DE} (hc : X.calm = true) (hN : X.N.Nodup) (hi : GIE X tg iter di) (ok : BlkOk X.N X.env.scope scope own)
    (hg : ∀ (s : Shared) (H : Hp) (C : Addr) (cl : List (Str × Addr)) (fp : List Addr), GG (X.blk s H scope (compEnvC scope cl C X.env) fp) tg dg js) (ht : ∀ (s : Shared) (H : Hp) (C : Addr) (cl : List (Str × Addr)) (fp : List Addr), GTs (X.blk s H scope (compEnvC scope cl C X.env) fp) ifs dt)
    (he : ∀ (s : Shared) (H : Hp) (C : Addr) (cl : List (Str × Addr)) (fp : List Addr), GE (X.blk s H scope (compEnvC scope cl C X.env) fp) elt de) (hj : ∀ j ∈ js, j ∈ own.map (·.2)) (hs : ∀ x, foldedSetIterable iter X.env x = pure x := by intro _; rfl) :
    GE X (.ListComp elt [⟨tg, iter, ifs, 0⟩] scope pos) (dLc di dg dt de (own.map (·.2))) := by
  obtain ⟨wi, hi⟩ := hi
  refine ⟨⟨fun pins s0 s H Q I ⟨sd, m, Qd, rs, rm, h, k⟩ => (pe_lc (g := liftG X.K dg js) (tt := liftT X.K dt) (te := liftE X.K de) hc hN hi.pi ok (fun s H C cl fp => (hg s H C cl fp).pg) (fun s H C cl fp => (ht s H C cl fp).pts) (fun s H C cl fp => (he s H C cl fp).pe) hs).run pins s0 s H Q I ?_⟩⟩
  exact le_lc hi (hg s0 H 0 [] []).lg hj rs rm h k
theorem gs_setLc {i : Nat} {y : Str} {py spos : Pos} {elt tg iter : Expr} {ifs : List Expr} {scope : Scope} {own : List (Str × Nat)} {pos : Pos} {di : DI} {dg : DG} {js : List Nat} {dt : DT} {de : DE} (hc : X.calm = true) (hN : X.N.Nodup) (hy : X.N[i]? = some y) (hyl : X.env.scope.names.lookup y = some .local)
    (hsw : swapsWith (.ListComp elt [⟨tg, iter, ifs, 0⟩] scope pos) (some (.Name y py)) spos.line X.env = pure true) (hi : GIE X tg iter di) (ok : BlkOk X.N X.env.scope scope own)
    (hg : ∀ (s : Shared) (H : Hp) (C : Addr) (cl : List (Str × Addr)) (fp : List Addr), GG (X.blk s H scope (compEnvC scope cl C X.env) fp) tg dg js) (ht : ∀ (s : Shared) (H : Hp) (C : Addr) (cl : List (Str × Addr)) (fp : List Addr), GTs (X.blk s H scope (compEnvC scope cl C X.env) fp) ifs dt)
    (he : ∀ (s : Shared) (H : Hp) (C : Addr) (cl : List (Str × Addr)) (fp : List Addr), GE (X.blk s H scope (compEnvC scope cl C X.env) fp) elt de) (hj : ∀ j ∈ js, j ∈ own.map (·.2)) (hs : ∀ x, foldedSetIterable iter X.env x = pure x := by intro _; rfl) :
    GS X (.Assign [.Name y py] (.ListComp elt [⟨tg, iter, ifs, 0⟩] scope pos) spos) (dSet i (dLc di dg dt de (own.map (·.2)))) := by
  obtain ⟨wi, hi⟩ := hi
  have P : PS X (.Assign [.Name y py] (.ListComp elt [⟨tg, iter, ifs, 0⟩] scope pos) spos) (fun E s H => ∃ sd m Ed, RS X.K H sd s ∧ RM X.K H m ∧ dSet i (dLc di dg dt de (own.map (·.2))) Ed sd m ∧
      ∀ s' H' sd' m', TX H H' → RS X.K H' sd' s' → RM X.K H' m' → Ed.nx sd' m' → E.nx s' H') :=
    ⟨fun pins s0 s H E I ⟨sd, m, Ed, rs, rm, h, k⟩ => (ps_setLc (g := liftG X.K dg js) (tt := liftT X.K dt) (te := liftE X.K de) hc hN hy hyl hsw hi.pi ok (fun s H C cl fp => (hg s H C cl fp).pg) (fun s H C cl fp => (ht s H C cl fp).pts) (fun s H C cl fp => (he s H C cl fp).pe) hs).run pins s0 s H E I
      (le_lc (Qd := fun x m1 => Ed.nx (sd.set i (some x)) m1) hi (hg s0 H 0 [] []).lg hj rs rm h fun v H' dv m' t rm' rv q => k _ H' _ m' t ((rs.mono t).set rv i) rm' q)⟩
  exact ⟨_, P, fun s H sd m Ed E rs rm h k1 _ _ _ => ⟨sd, m, Ed, rs, rm, h, k1⟩⟩
theorem lr_ip {K : PySem.W.Frag} {f : Int → Int → Int} : LR K (ipI f) (dInt2 (fun _ _ => True) f) := fun x y H dx dy m Qd Q rm rx ry h k => by
  cases rx with
  | int i =>
    cases ry with
    | int j => exact ⟨i, j, rfl, rfl, k _ H _ m (.refl H) rm (.int _) h.2⟩
    | _ => exact h.elim
  | _ => exact h.elim
end
end PD

set_option Elab.async false
set_option linter.all false
set_option maxRecDepth 100000
set_option maxHeartbeats 4000000
namespace PD
open PySem PySem.Spec PyProof.Rows L2
def startD (N : List Str) (ds : List D) : Sd := ds.map some ++ List.replicate (N.length - ds.length) none
def endsOf (Qd : DK) : DEnds := { nx := fun _ m' => ∃ m'', Sub m'' m' ∧ Qd .non m'', rt := fun v m' => ∃ m'', Sub m'' m' ∧ Qd v m'' }
theorem rs_start {K : PySem.W.Frag} {H : Hp} {N : List Str} {ds : List D} {vs : List V} (r : RepL K H ds vs) : RS K H (startD N ds) (L2.start N vs) := by
  refine ⟨by unfold startD L2.start; simp [r.length], fun i d e => ?_⟩
  unfold startD at e
  unfold L2.start
  have hl := r.length
  by_cases h : i < ds.length
  · rw [List.getElem?_append_left (by rw [List.length_map]; exact h), List.getElem?_map, List.getElem?_eq_getElem h] at e
    cases e
    obtain ⟨v, e2, q⟩ := r.get (List.getElem?_eq_getElem h)
    refine ⟨v, ?_, q⟩
    rw [List.getElem?_append_left (by rw [List.length_map]; omega), List.getElem?_map, e2]
    rfl
  · rw [List.getElem?_append_right (by rw [List.length_map]; omega), List.getElem?_replicate] at e
    split at e
    · cases e
    · cases e
section
variable {P : Program} {w : World} {K : PySem.W.Frag} {mg : Str → Option Value} {base : Heap}
theorem fn_ok {x qual : Str} {st : Stmt} {f : Addr} {fd : FuncData} {N ps : List Str} {k : Nat} {sd : SpD} {d : DS} (F : Fun K x qual st f fd) (S : FnScope N ps (defScope st))
    (hb : ∀ (cdv : Value) (A : Around) (outer : List Env) (s : Shared) (H : Hp) (E : XK), Room k (A.deeper (envOfC qual (defScope st) s.heap.objs.size f cdv)) →
      GSs (cxOf CX0 P w K mg base N qual (defScope st) f cdv A outer s H E).nox (defBody st) d)
    (hd : ∀ ds m Qd, sd ds m Qd → d (endsOf Qd) (startD N ds) m) : FnOk P w K mg base CX0 (k + 1) f fd ps (spL K ps.length sd) := by
  refine F.ok S (fun vs H Q E ⟨ds, m, Qd, r, rm, h, _⟩ => by rw [← r.length]; exact h.1) fun cdv A outer s H vs Q E hr ⟨ds, m, Qd, r, rm, ⟨_, h⟩, kq⟩ => ?_
  obtain ⟨t, p, l⟩ := (hb cdv A outer s H E hr).ex
  refine ⟨t, p, ?_⟩
  refine l (L2.start N vs) H (startD N ds) m (endsOf Qd) _ (rs_start r) rm (hd ds m Qd h) ?_ ?_ ?_ ?_
  · intro s' H' sd' m' t' rs' rm' ⟨m'', sb, q⟩
    exact kq .non H' .non m'' t' (rm'.sub sb) .non q
  · intro v H' dv m' t' rm' rv ⟨m'', sb, q⟩
    exact kq v H' dv m'' t' (rm'.sub sb) rv q
  · intro _ _ _ _ _ _ _ h; exact h.elim
  · intro _ _ _ _ _ _ _ h; exact h.elim
/-- any function whose keywords are its parameters in their order -/
theorem kw_all {x qual : Str} {st : Stmt} {f : Addr} {fd : FuncData} {ps : List Str} (F : Fun K x qual st f fd)
    (h : ∀ (kV doc pm : Value) (an : Option Addr) (cdv ct : Value) (ws : List Value), ws.length = ps.length → bindArgs (PySem.W.fnOf x qual (defArgs st) (defBody st) (defScope st) .none kV doc pm an cdv ct) ⟨[], ps.zip ws⟩ = pure (ps.zip ws)) : KwAll K fd ps ps := by
  obtain ⟨oc, od, kV, doc, pm, an, cdv, ct, osl, rfl, lk, hcd⟩ := F.ex
  refine ⟨fun s us ws hK hl => ?_, fun {vs us zs ws} r rz => ?_⟩
  · cases us with
    | nil => exact .of_eq (h kV doc pm an cdv ct ws hl)
    | cons u us =>
      have e : gK ps.length (u :: us) ws = List.replicate (ps.length + 1) Value.none := rfl
      rw [e, List.length_replicate] at hl
      exact absurd hl (Nat.succ_ne_self _)
  · cases r with
    | nil => exact rz
    | cons a b =>
      show Vals (List.replicate (ps.length + 1) V.non) (List.replicate (ps.length + 1) Value.none)
      generalize ps.length + 1 = n
      induction n with
      | zero => exact .nil
      | succ n ih => exact .cons rfl ih
end
end PD

set_option Elab.async false
set_option linter.all false
set_option maxRecDepth 100000
set_option maxHeartbeats 4000000
namespace PD
open PySem PySem.Spec PyProof.Rows L2
section
variable {m : Mu} {a b : Str} {i j : Int} {p q : Bool} {xs ys : List D} {x y z u v : D} {A : Addr}
theorem seqOf_tup : seqOf m (.tup xs) = some xs := rfl
theorem seqOf_rol : seqOf m (.rol xs) = some xs := rfl
theorem seqOf_ref (h : m A = some (.lst xs)) : seqOf m (.ref A) = some xs := by unfold seqOf; simp only [h]
theorem seqW_tup : seqW m (.tup xs) = some xs := rfl
theorem seqW_ref (h : m A = some (.lst xs)) : seqW m (.ref A) = some xs := by unfold seqW; simp only [h]
theorem lstOf_ref (h : m A = some (.lst xs)) : lstOf m (.ref A) = some (A, xs) := by unfold lstOf; simp only [h]
theorem eqK_ss : eqK m (.str a) (.str b) = some (a == b) := rfl
theorem eqK_ii : eqK m (.int i) (.int j) = some (i == j) := rfl
theorem eqK_bb : eqK m (.bl p) (.bl q) = some (p == q) := rfl
theorem eqK_nn : eqK m .non .non = some true := rfl
theorem eqK_ts : eqK m (.tup xs) (.str b) = some false := rfl
theorem eqK_st : eqK m (.str b) (.tup xs) = some false := rfl
theorem eqK_ti : eqK m (.tup xs) (.int i) = some false := rfl
theorem eqK_is : eqK m (.int i) (.str b) = some false := rfl
theorem eqK_ns : eqK m .non (.str b) = some false := rfl
theorem eqK_rs (h : m A = some (.lst xs)) : eqK m (.ref A) (.str b) = some false := by
  unfold eqK isSeq
  rw [seqOf_ref h]
  rfl
theorem flatD_str : flatD (.str a) = true := rfl
theorem flatD_int : flatD (.int i) = true := rfl
theorem flatD_bl : flatD (.bl p) = true := rfl
theorem flatD_non : flatD .non = true := rfl
theorem isNon_non : isNon .non = true := rfl
theorem isNon_bl : isNon (.bl p) = false := rfl
theorem isNon_int : isNon (.int i) = false := rfl
theorem isNon_str : isNon (.str a) = false := rfl
theorem isNon_tup : isNon (.tup xs) = false := rfl
theorem tyD_non : tyD m .non = some "NoneType" := rfl
theorem tyD_bl : tyD m (.bl p) = some "bool" := rfl
theorem tyD_int : tyD m (.int i) = some "int" := rfl
theorem tyD_str : tyD m (.str a) = some "str" := rfl
theorem tyD_tup : tyD m (.tup xs) = some "tuple" := rfl
theorem truD_bl : truD m (.bl p) = some p := rfl
theorem truD_int : truD m (.int i) = some (i != 0) := rfl
theorem truD_tup : truD m (.tup xs) = some (!xs.isEmpty) := rfl
theorem truD_ref (h : m A = some (.lst xs)) : truD m (.ref A) = some (!xs.isEmpty) := by
  show (seqOf m (.ref A)).map _ = _
  rw [seqOf_ref h]; rfl
theorem atI_0 {α : Type} {x : α} {xs : List α} : atI (x :: xs) 0 = some x := atI_nat (j := 0) rfl
theorem atI_1 {α : Type} {x y : α} {xs : List α} : atI (x :: y :: xs) 1 = some y := atI_nat (j := 1) rfl
theorem atI_2 {α : Type} {x y z : α} {xs : List α} : atI (x :: y :: z :: xs) 2 = some z := atI_nat (j := 2) rfl
theorem atI_3 {α : Type} {x y z u : α} {xs : List α} : atI (x :: y :: z :: u :: xs) 3 = some u := atI_nat (j := 3) rfl
theorem atI_4 {α : Type} {x y z u v : α} {xs : List α} : atI (x :: y :: z :: u :: v :: xs) 4 = some v := atI_nat (j := 4) rfl
theorem atI_m1 {α : Type} {x : α} : atI [x] (-1) = some x := atI_last [] x
theorem atI_m2 {α : Type} {x y : α} : atI [x, y] (-1) = some y := atI_last [x] y
theorem atI_m3 {α : Type} {x y z : α} : atI [x, y, z] (-1) = some z := atI_last [x, y] z
theorem ixN_0 {n : Nat} : ixN (n + 1) 0 = some 0 := by unfold ixN; rw [if_pos (by omega), if_pos (by omega)]; rfl
theorem ixN_1 {n : Nat} : ixN (n + 2) 1 = some 1 := by unfold ixN; rw [if_pos (by omega), if_pos (by omega)]; rfl
theorem ixN_2 {n : Nat} : ixN (n + 3) 2 = some 2 := by unfold ixN; rw [if_pos (by omega), if_pos (by omega)]; rfl
theorem ixN_3 {n : Nat} : ixN (n + 4) 3 = some 3 := by unfold ixN; rw [if_pos (by omega), if_pos (by omega)]; rfl
theorem ixN_40 : ixN 4 0 = some 0 := rfl
theorem ixN_41 : ixN 4 1 = some 1 := rfl
theorem ixN_42 : ixN 4 2 = some 2 := rfl
theorem ixN_43 : ixN 4 3 = some 3 := rfl
theorem seqI_0 {n : Nat} : seqIndex? 0 (n + 1) = some 0 := (ixN_seq ixN_0).1
theorem mset_skip {m : Mu} {a b : Addr} {o o' : MO} (h : b ≠ a) (e : m b = some o) : mset m a o' b = some o := by rw [mset_ne h]; exact e
/-! operations on known kinds -/
section
variable {Q : DK} {s : Sd} {B : Addr}
theorem dAdd_i : dAdd (.int i) (.int j) m Q = Q (.int (i + j)) m := rfl
theorem dAdd_s : dAdd (.str a) (.str b) m Q = (a.length + b.length ≤ sizeLine ∧ Q (.str (a ++ b)) m) := rfl
theorem dAdd_t : dAdd (.tup xs) (.tup ys) m Q = (xs.length + ys.length ≤ sizeLine ∧ Q (.tup (xs ++ ys)) m) := rfl
theorem dAdd_r : dAdd (.ref A) (.ref B) m Q = (∃ xs ys, m A = some (.lst xs) ∧ m B = some (.lst ys) ∧ xs.length + ys.length ≤ sizeLine ∧ ∀ p, m p = none → Q (.ref p) (mset m p (.lst (xs ++ ys)))) := rfl
theorem dSub_i : dSub (.int i) (.int j) m Q = Q (.int (i - j)) m := rfl
theorem dInt2_i {C : Int → Int → Prop} {g : Int → Int → Int} : dInt2 C g (.int i) (.int j) m Q = (C i j ∧ Q (.int (g i j)) m) := rfl
theorem dMul_i : dMul (.int i) (.int j) m Q = (CMul i j ∧ Q (.int (i * j)) m) := rfl
theorem dMul_s : dMul (.str a) (.int j) m Q = (0 ≤ j ∧ j ≤ 1000 ∧ a.length ≤ 1000 ∧ Q (.str (repS a j.toNat)) m) := rfl
theorem dNeg_i : dNeg (.int i) m Q = Q (.int (-i)) m := rfl
theorem dCmp_i {g : Int → Int → Bool} : dCmp g (.int i) (.int j) m Q = Q (.bl (g i j)) m := rfl
theorem dIsN_n : dIsN x .non m Q = Q (.bl (isNon x)) m := rfl
theorem dNotN_n : dNotN x .non m Q = Q (.bl (!isNon x)) m := rfl
theorem dInG_t {f : Bool → Bool} : dInG f x (.tup xs) m Q = (flatD x = true ∧ xs.all flatD = true ∧ Q (.bl (f (inF x xs))) m) := propext ⟨fun ⟨_, e, h⟩ => by cases e; exact h, fun h => ⟨_, rfl, h⟩⟩
theorem dInG_r {f : Bool → Bool} : dInG f x (.ref A) m Q = ∃ ds, seqOf m (.ref A) = some ds ∧ flatD x = true ∧ ds.all flatD = true ∧ Q (.bl (f (inF x ds))) m := rfl
theorem dIx_s : dIx (.str a) (.int i) m Q = (a.length ≤ sizeLine ∧ ∃ c, atI a.cps.toList i = some c ∧ Q (.str ⟨#[c]⟩) m) := rfl
theorem dIx_t : dIx (.tup xs) (.int i) m Q = ∃ d, atI xs i = some d ∧ Q d m := propext ⟨fun ⟨_, e, h⟩ => by cases e; exact h, fun h => ⟨_, rfl, h⟩⟩
theorem dIx_r : dIx (.ref A) (.int i) m Q = ∃ ds, seqOf m (.ref A) = some ds ∧ ∃ d, atI ds i = some d ∧ Q d m := rfl
theorem dLen_s : dLen [.str a] m Q = (a.length ≤ sizeLine ∧ Q (.int a.length) m) := rfl
theorem dLen_t : dLen [.tup xs] m Q = Q (.int xs.length) m := propext ⟨fun ⟨_, e, h⟩ => by cases e; exact h, fun h => ⟨_, rfl, h⟩⟩
theorem dLen_r : dLen [.ref A] m Q = ∃ es, seqOf m (.ref A) = some es ∧ Q (.int es.length) m := rfl
theorem dTuple_1 : dTuple [x] m Q = ∃ es, seqOf m x = some es ∧ Q (.tup es) m := rfl
theorem dList_1 : dList [x] m Q = ∃ es, seqOf m x = some es ∧ ∀ p, m p = none → Q (.ref p) (mset m p (.lst es)) := rfl
theorem dInt1_i : dInt1 [.int i] m Q = Q (.int i) m := rfl
theorem dTwo_i {g : Int → Int → Int} : dTwo g [.int i, .int j] m Q = Q (.int (g i j)) m := rfl
def dSlV (lo hi : Option Int) (x : D) (m3 : Mu) (Q : DK) : Prop := match x with
  | .tup ds => Q (.tup (cutD ds lo hi)) m3
  | .ref a => ∃ ds, seqOf m3 (.ref a) = some ds ∧ ∀ p, m3 p = none → Q (.ref p) (mset m3 p (.lst (cutD ds lo hi)))
  | _ => False
theorem dSl_v {de : DE} {dl dh : DO} : dSl de dl dh s m Q = de s m fun x m1 => dl s m1 fun lo m2 => dh s m2 fun hi m3 => dSlV lo hi x m3 Q := rfl
theorem dSlV_t {lo hi : Option Int} : dSlV lo hi (.tup xs) m Q = Q (.tup (cutD xs lo hi)) m := rfl
theorem dSlV_r {lo hi : Option Int} : dSlV lo hi (.ref A) m Q = ∃ ds, seqOf m (.ref A) = some ds ∧ ∀ p, m p = none → Q (.ref p) (mset m p (.lst (cutD ds lo hi))) := rfl
def dRevV (x : D) (m1 : Mu) (Q : DK) : Prop := match x with
  | .tup ds => Q (.tup ds.reverse) m1
  | .ref a => ∃ ds, seqOf m1 (.ref a) = some ds ∧ ∀ p, m1 p = none → Q (.ref p) (mset m1 p (.lst ds.reverse))
  | _ => False
theorem dRev_v {de : DE} : dRev de s m Q = de s m fun x m1 => dRevV x m1 Q := rfl
theorem dRevV_t : dRevV (.tup xs) m Q = Q (.tup xs.reverse) m := rfl
theorem dRevV_r : dRevV (.ref A) m Q = ∃ ds, seqOf m (.ref A) = some ds ∧ ∀ p, m p = none → Q (.ref p) (mset m p (.lst ds.reverse)) := rfl
variable {R : List D → (Mu → Prop) → Mu → Prop}
def dISeqV (x : D) (m1 : Mu) (R : List D → (Mu → Prop) → Mu → Prop) : Prop := match x with
  | .tup ds => R ds (fun _ => True) m1
  | .ref p => ∃ ds, seqOf m1 (.ref p) = some ds ∧ R ds (fun m' => seqOf m' (.ref p) = some ds) m1
  | _ => False
theorem dISeq_v {de : DE} : dISeq de s m R = de s m fun x m1 => dISeqV x m1 R := rfl
theorem dISeqV_t : dISeqV (.tup xs) m R = R xs (fun _ => True) m := rfl
theorem dISeqV_r : dISeqV (.ref A) m R = ∃ ds, seqOf m (.ref A) = some ds ∧ R ds (fun m' => seqOf m' (.ref A) = some ds) m := rfl
def dIEnumV (ds : List D) (m1 : Mu) (R : List D → (Mu → Prop) → Mu → Prop) : Prop := match ds with
  | [.tup es] => R (enumD 0 es) (fun _ => True) m1
  | [.ref p] => ∃ es, seqOf m1 (.ref p) = some es ∧ R (enumD 0 es) (fun m' => seqOf m' (.ref p) = some es) m1
  | _ => False
theorem dIEnum_v {da : DA} : dIEnum da s m R = da s m fun ds m1 => dIEnumV ds m1 R := rfl
theorem dIEnumV_t : dIEnumV [.tup xs] m R = R (enumD 0 xs) (fun _ => True) m := rfl
theorem dIEnumV_r : dIEnumV [.ref A] m R = ∃ es, seqOf m (.ref A) = some es ∧ R (enumD 0 es) (fun m' => seqOf m' (.ref A) = some es) m := rfl
theorem dPop_0 : dPop x [] m Q = ∃ a es d, lstOf m x = some (a, es) ∧ es[es.length - 1]? = some d ∧ Q d (mset m a (.lst es.dropLast)) := rfl
theorem dPop_i : dPop x [.int i] m Q = ∃ a es, lstOf m x = some (a, es) ∧ -(2 ^ 63) ≤ i ∧ i < 2 ^ 63 ∧ ∃ k, seqIndex? i es.length = some k ∧ ∃ d, es[k]? = some d ∧ Q d (mset m a (.lst (es.eraseIdx k))) := rfl
theorem dAppend_1 : dAppend x [y] m Q = ∃ a es, lstOf m x = some (a, es) ∧ es.length < sizeLine ∧ Q .non (mset m a (.lst (es ++ [y]))) := rfl
theorem dExtend_1 : dExtend x [y] m Q = ∃ a es zs, lstOf m x = some (a, es) ∧ seqW m y = some zs ∧ es.length + zs.length ≤ sizeLine ∧ Q .non (mset m a (.lst (es ++ zs))) := rfl
theorem dSub3_i {v : D} {R : Mu → Prop} : dSub3 x (.int i) v m R = ∃ a es, lstOf m x = some (a, es) ∧ ∃ j, ixN es.length i = some j ∧ R (mset m a (.lst (es.set j v))) := rfl
theorem dSortP_r : dSortP [.ref A] m Q = ∃ ps : List (Int × Int), seqOf m (.ref A) = some (ps.map pD) ∧ ∀ qs : List (Int × Int), qs.Perm ps → qs.Pairwise pLe → ∀ p, m p = none → Q (.ref p) (mset m p (.lst (qs.map pD))) := rfl
def dRng1V (ds : List D) (m1 : Mu) (R : List D → (Mu → Prop) → Mu → Prop) : Prop := match ds with
  | [.int j] => -(2 ^ 62) ≤ j ∧ j < 2 ^ 62 ∧ R (rangeD 0 j.toNat) (fun _ => True) m1
  | _ => False
theorem dIRng1_v {da : DA} : dIRng1 da s m R = da s m fun ds m1 => dRng1V ds m1 R := rfl
theorem dRng1V_i : dRng1V [.int i] m R = (-(2 ^ 62) ≤ i ∧ i < 2 ^ 62 ∧ R (rangeD 0 i.toNat) (fun _ => True) m) := rfl
end
theorem isT_NoneType_bool : isT "NoneType" "bool" = false := by decide
theorem isT_NoneType_int : isT "NoneType" "int" = false := by decide
theorem isT_NoneType_str : isT "NoneType" "str" = false := by decide
theorem isT_NoneType_tuple : isT "NoneType" "tuple" = false := by decide
theorem isT_NoneType_list : isT "NoneType" "list" = false := by decide
theorem isT_bool_bool : isT "bool" "bool" = true := by decide
theorem isT_bool_int : isT "bool" "int" = true := by decide
theorem isT_bool_str : isT "bool" "str" = false := by decide
theorem isT_bool_tuple : isT "bool" "tuple" = false := by decide
theorem isT_bool_list : isT "bool" "list" = false := by decide
theorem isT_int_bool : isT "int" "bool" = false := by decide
theorem isT_int_int : isT "int" "int" = true := by decide
theorem isT_int_str : isT "int" "str" = false := by decide
theorem isT_int_tuple : isT "int" "tuple" = false := by decide
theorem isT_int_list : isT "int" "list" = false := by decide
theorem isT_str_bool : isT "str" "bool" = false := by decide
theorem isT_str_int : isT "str" "int" = false := by decide
theorem isT_str_str : isT "str" "str" = true := by decide
theorem isT_str_tuple : isT "str" "tuple" = false := by decide
theorem isT_str_list : isT "str" "list" = false := by decide
theorem isT_tuple_bool : isT "tuple" "bool" = false := by decide
theorem isT_tuple_int : isT "tuple" "int" = false := by decide
theorem isT_tuple_str : isT "tuple" "str" = false := by decide
theorem isT_tuple_tuple : isT "tuple" "tuple" = true := by decide
theorem isT_tuple_list : isT "tuple" "list" = false := by decide
theorem isT_list_bool : isT "list" "bool" = false := by decide
theorem isT_list_int : isT "list" "int" = false := by decide
theorem isT_list_str : isT "list" "str" = false := by decide
theorem isT_list_tuple : isT "list" "tuple" = false := by decide
theorem isT_list_list : isT "list" "list" = true := by decide
theorem small_line {n : Nat} (h : n ≤ 1000) : n ≤ sizeLine := Nat.le_trans h (by decide)
theorem sub_refl_fin {Qd : DK} {v : D} (h : Qd v m) : ∃ m'', Sub m'' m ∧ Qd v m'' := ⟨m, .refl m, h⟩
/-! ### loops and comprehensions by what holds between their turns -/
theorem loop_inv {st : Mu → Prop} {g : DG} {tb : DS} {E : DEnds} (J : List D → Sd → Mu → Prop)
    (hs : ∀ d rem s m (R : Sd → Mu → Prop), (∀ s m, J rem s m → R s m) → J (d :: rem) s m → st m ∧ g d s m fun s2 m2 => tb { E with nx := R, ct := R, bk := E.nx } s2 m2)
    (he : ∀ s m, J [] s m → st m ∧ E.nx s m) : ∀ {es : List D} {s : Sd} {m : Mu}, J es s m → dLoop st g tb E es s m
  | [], s, m, h => he s m h
  | d :: es, s, m, h => hs d es s m _ (fun s' m' h' => loop_inv J hs he h') h
theorem comp_inv {st : Mu → Prop} {g : DG} {t : DT} {e : DE} {p : Addr} {s : Sd} {Q : DK} (J : List D → List D → Mu → Prop)
    (hs : ∀ d rem acc m (R : List D → Mu → Prop), (∀ acc m, J rem acc m → R acc m) → J (d :: rem) acc m → st m ∧ g d s m fun s2 m2 => t s2 m2 fun b m3 =>
      if b = true then e s2 m3 fun y m4 => m4 p = some (.lst acc) ∧ acc.length < sizeLine ∧ R (acc ++ [y]) (mset m4 p (.lst (acc ++ [y]))) else R acc m3)
    (he : ∀ acc m, J [] acc m → st m ∧ m p = some (.lst acc) ∧ Q (.ref p) m) : ∀ {es acc : List D} {m : Mu}, J es acc m → dComp st g t e p s Q es acc m
  | [], acc, m, h => he acc m h
  | d :: es, acc, m, h => hs d es acc m _ (fun acc' m' h' => comp_inv J hs he h') h
/-- each item's answer is f of it, kept where c; nothing else changes -/
theorem comp_pure {st : Mu → Prop} {g : DG} {t : DT} {e : DE} {p : Addr} {s : Sd} {Q : DK} {m : Mu} (c : D → Bool) (f : D → D) (hst : ∀ a, st (mset m p (.lst a))) {es0 : List D} (hz : es0.length ≤ 100000)
    (h : ∀ d ∈ es0, ∀ a (R1 : D → Mu → Prop) (R2 : Mu → Prop), (c d = true → R1 (f d) (mset m p (.lst a))) → (c d = false → R2 (mset m p (.lst a))) → g d s (mset m p (.lst a)) fun s2 m2 => t s2 m2 fun b m3 => if b = true then e s2 m3 R1 else R2 m3)
    (hq : Q (.ref p) (mset m p (.lst ((es0.filter c).map f)))) : dComp st g t e p s Q es0 [] (mset m p (.lst [])) := by
  refine comp_inv (fun rem acc m' => ∃ pre, es0 = pre ++ rem ∧ acc = (pre.filter c).map f ∧ m' = mset m p (.lst acc)) (fun d rem acc m1 R hR ⟨pre, e1, e2, e3⟩ => ?_) (fun acc m1 ⟨pre, e1, e2, e3⟩ => ?_) ⟨[], rfl, rfl, rfl⟩
  · subst e3
    refine ⟨hst _, h d (by rw [e1]; simp) acc _ _ (fun hc => ⟨mset_same, ?_, ?_⟩) fun hc => ?_⟩
    · rw [e2, List.length_map]
      have h1 := List.length_filter_le c pre
      have h2 : pre.length < es0.length := by rw [e1]; simp
      exact Nat.lt_of_lt_of_le (by omega : _ < 100000) (by decide)
    · refine hR _ _ ⟨pre ++ [d], by rw [e1]; simp, ?_, mset_mset⟩
      rw [e2, List.filter_append, List.map_append]
      simp [hc]
    · refine hR _ _ ⟨pre ++ [d], by rw [e1]; simp, ?_, rfl⟩
      rw [e2, List.filter_append, List.map_append]
      simp [hc]
  · subst e3
    rw [List.append_nil] at e1
    subst e1 e2
    exact ⟨hst _, mset_same, hq⟩
theorem filter_yes {α : Type} : ∀ l : List α, l.filter (fun _ => true) = l
  | [] => rfl
  | a :: l => by rw [List.filter_cons, if_pos rfl, filter_yes l]
/-- [f(x) for x in xs] -/
theorem comp_map {st : Mu → Prop} {g : DG} {e : DE} {p : Addr} {s : Sd} {Q : DK} {m : Mu} (f : D → D) (hst : ∀ a, st (mset m p (.lst a))) {es0 : List D} (hz : es0.length ≤ 100000)
    (h : ∀ d ∈ es0, ∀ a (R1 : D → Mu → Prop), R1 (f d) (mset m p (.lst a)) → g d s (mset m p (.lst a)) fun s2 m2 => e s2 m2 R1)
    (hq : Q (.ref p) (mset m p (.lst (es0.map f)))) : dComp st g dYes e p s Q es0 [] (mset m p (.lst [])) := by
  refine comp_pure (fun _ => true) f hst hz (fun d hd a R1 R2 h1 _ => ?_) (by rw [filter_yes]; exact hq)
  have := h d hd a R1 (h1 rfl)
  unfold dYes
  simpa using this
theorem rangeD_len (lo : Int) (n : Nat) : (rangeD lo n).length = n := by unfold rangeD; rw [List.length_map, List.length_range]
theorem rangeD_succ (n : Nat) : rangeD 0 (n + 1) = rangeD 0 n ++ [.int (n : Int)] := by
  unfold rangeD
  rw [List.range_succ, List.map_append]
  simp
/-- a loop over range(n): what holds ahead of turn i -/
theorem loop_range {st : Mu → Prop} {g : DG} {tb : DS} {E : DEnds} {n : Nat} (J : Nat → Sd → Mu → Prop)
    (hs : ∀ (i : Nat) s m (R : Sd → Mu → Prop), i < n → (∀ s m, J (i + 1) s m → R s m) → J i s m → st m ∧ g (.int (i : Int)) s m fun s2 m2 => tb { E with nx := R, ct := R, bk := E.nx } s2 m2)
    (he : ∀ s m, J n s m → st m ∧ E.nx s m) {s : Sd} {m : Mu} (h : J 0 s m) : dLoop st g tb E (rangeD 0 n) s m := by
  refine loop_inv (fun rem s m => ∃ i, i ≤ n ∧ rem = (rangeD 0 n).drop i ∧ J i s m) (fun d rem s m R hR ⟨i, hi, e, hj⟩ => ?_) (fun s m ⟨i, hi, e, hj⟩ => ?_) ⟨0, Nat.zero_le _, rfl, h⟩
  · have hlt : i < n := by
      by_cases q : i < n
      · exact q
      · have e2 : i = n := by omega
        subst e2
        rw [List.drop_of_length_le (by rw [rangeD_len]; exact Nat.le_refl _)] at e
        cases e
    have hl : i < (rangeD 0 n).length := by rw [rangeD_len]; exact hlt
    rw [List.drop_eq_getElem_cons hl] at e
    injection e with e1 e2
    have e3 : (rangeD 0 n)[i] = .int (i : Int) := by unfold rangeD; simp
    rw [e3] at e1
    subst e1
    exact hs i s m R hlt (fun s' m' h' => hR s' m' ⟨i + 1, hlt, e2, h'⟩) hj
  · have e2 : i = n := by
      by_cases q : i < n
      · have hl : i < (rangeD 0 n).length := by rw [rangeD_len]; exact q
        rw [List.drop_eq_getElem_cons hl] at e
        cases e
      · omega
    subst e2
    exact he s m hj
theorem FnOk_falso {P : Program} {w : World} {K : PySem.W.Frag} {mg : Str → Option Value} {base : Heap} {k n : Nat} {f : Addr} {fd : FuncData} {ps : List Str} : FnOk P w K mg base CX0 k f fd ps (spL K n fun _ _ _ => False) :=
  ⟨fun _ _ _ _ ⟨_, _, _, _, _, h, _⟩ => h.2.elim, fun _ _ _ _ _ _ _ _ _ _ _ _ _ ⟨_, _, _, _, _, h, _⟩ => h.2.elim⟩
theorem atI_getD {α : Type} {xs : List α} {i : Nat} (h : i < xs.length) : atI xs (i : Int) = some xs[i] := atI_nat (List.getElem?_eq_getElem h)
theorem slen_app (a b : Str) : (a ++ b).length = a.length + b.length := Array.size_append
theorem atI_ex {α : Type} {xs : List α} {i : Int} (h0 : 0 ≤ i) (h1 : i < xs.length) : ∃ v, atI xs i = some v ∧ v ∈ xs := by
  obtain ⟨n, rfl⟩ : ∃ n : Nat, i = n := ⟨i.toNat, by omega⟩
  have h : n < xs.length := by omega
  exact ⟨xs[n], atI_getD h, List.getElem_mem h⟩
/-- a cut between a statement and what follows -/
theorem seq_cut {t u : DS} {E : DEnds} {s : Sd} {m : Mu} (Mid : Sd → Mu → Prop) (h1 : ∀ R : Sd → Mu → Prop, (∀ s' m', Mid s' m' → R s' m') → t { E with nx := R } s m) (h2 : ∀ s' m', Mid s' m' → u E s' m') : dSeq t u E s m := h1 _ h2
/-- all lists but two are kept -/
def OffS (a q : Addr) (m m' : Mu) : Prop := ∀ x o, x ≠ a → x ≠ q → m x = some o → m' x = some o
theorem OffS.refl (a q : Addr) (m : Mu) : OffS a q m m := fun _ _ _ _ h => h
theorem OffS.trans {a q : Addr} {m m1 m2 : Mu} (h : OffS a q m m1) (h' : OffS a q m1 m2) : OffS a q m m2 := fun x o n1 n2 e => h' x o n1 n2 (h x o n1 n2 e)
theorem OffS.setA {a q : Addr} {m m1 : Mu} {o : MO} (h : OffS a q m m1) : OffS a q m (mset m1 a o) := fun x u n1 n2 e => by rw [mset_ne n1]; exact h x u n1 n2 e
theorem OffS.setQ {a q : Addr} {m m1 : Mu} {o : MO} (h : OffS a q m m1) : OffS a q m (mset m1 q o) := fun x u n1 n2 e => by rw [mset_ne n2]; exact h x u n1 n2 e
theorem OffS.new {a q p : Addr} {m m1 : Mu} {o : MO} (h : OffS a q m m1) (hp : m1 p = none) : OffS a q m (mset m1 p o) := fun x u n1 n2 e => mset_new hp (h x u n1 n2 e)
theorem OffS.of_sub {a q : Addr} {m m1 : Mu} (h : Sub m m1) : OffS a q m m1 := fun x u _ _ e => h x u e
end
end PD

set_option Elab.async false
set_option linter.all false
set_option maxRecDepth 100000
set_option maxHeartbeats 4000000
namespace K19
open PySem PySem.Spec PyProof.Rows L2 PD
def topS (i : Nat) : Stmt := PySem.Challenge.pw_chooseonce_k19_kinds_places_and_asks_apa.main.body.getD i (.Pass ⟨0, 0, 0, 0⟩)
abbrev s_kinds_of : Stmt := topS 1
abbrev N_kinds_of : List Str := ["way", "piece"]
theorem sc_kinds_of : FnScope N_kinds_of ["way"] (defScope s_kinds_of) := ⟨rfl, rfl, rfl, by decide +kernel, rfl, by decide +kernel, by decide +kernel⟩
abbrev s_part_places : Stmt := topS 2
abbrev N_part_places : List Str := ["kinds", "place", "kind"]
theorem sc_part_places : FnScope N_part_places ["kinds"] (defScope s_part_places) := ⟨rfl, rfl, rfl, by decide +kernel, rfl, by decide +kernel, by decide +kernel⟩
abbrev s_sign_places : Stmt := topS 3
abbrev N_sign_places : List Str := ["kinds"]
theorem sc_sign_places : FnScope N_sign_places ["kinds"] (defScope s_sign_places) := ⟨rfl, rfl, rfl, by decide +kernel, rfl, by decide +kernel, by decide +kernel⟩
abbrev s_run_places : Stmt := topS 4
abbrev N_run_places : List Str := ["kinds"]
theorem sc_run_places : FnScope N_run_places ["kinds"] (defScope s_run_places) := ⟨rfl, rfl, rfl, by decide +kernel, rfl, by decide +kernel, by decide +kernel⟩
abbrev s__kind_of : Stmt := topS 5
abbrev N__kind_of : List Str := ["piece", "mark"]
theorem sc__kind_of : FnScope N__kind_of ["piece"] (defScope s__kind_of) := ⟨rfl, rfl, rfl, by decide +kernel, rfl, by decide +kernel, by decide +kernel⟩
abbrev s__refs_to : Stmt := topS 6
abbrev N__refs_to : List Str := ["kinds", "words", "refs", "piece", "kind", "row", "word"]
theorem sc__refs_to : FnScope N__refs_to ["kinds", "words"] (defScope s__refs_to) := ⟨rfl, rfl, rfl, by decide +kernel, rfl, by decide +kernel, by decide +kernel⟩
abbrev s_judges_of : Stmt := topS 8
abbrev N_judges_of : List Str := ["ask", "judges", "one"]
theorem sc_judges_of : FnScope N_judges_of ["ask"] (defScope s_judges_of) := ⟨rfl, rfl, rfl, by decide +kernel, rfl, by decide +kernel, by decide +kernel⟩
abbrev s_asks_in : Stmt := topS 9
abbrev N_asks_in : List Str := ["ask"]
theorem sc_asks_in : FnScope N_asks_in ["ask"] (defScope s_asks_in) := ⟨rfl, rfl, rfl, by decide +kernel, rfl, by decide +kernel, by decide +kernel⟩
abbrev s_has_first : Stmt := topS 10
abbrev N_has_first : List Str := ["ask", "one"]
theorem sc_has_first : FnScope N_has_first ["ask"] (defScope s_has_first) := ⟨rfl, rfl, rfl, by decide +kernel, rfl, by decide +kernel, by decide +kernel⟩
abbrev s_all_asks : Stmt := topS 11
abbrev N_all_asks : List Str := ["ask", "found", "due", "one"]
theorem sc_all_asks : FnScope N_all_asks ["ask"] (defScope s_all_asks) := ⟨rfl, rfl, rfl, by decide +kernel, rfl, by decide +kernel, by decide +kernel⟩
abbrev s_own_judge : Stmt := topS 12
abbrev N_own_judge : List Str := ["ask"]
theorem sc_own_judge : FnScope N_own_judge ["ask"] (defScope s_own_judge) := ⟨rfl, rfl, rfl, by decide +kernel, rfl, by decide +kernel, by decide +kernel⟩
abbrev s__law_pick : Stmt := topS 14
abbrev N__law_pick : List Str := ["pool", "many", "cell", "told"]
theorem sc__law_pick : FnScope N__law_pick ["pool", "many"] (defScope s__law_pick) := ⟨rfl, rfl, rfl, by decide +kernel, rfl, by decide +kernel, by decide +kernel⟩
abbrev s__law_same : Stmt := topS 15
abbrev N__law_same : List Str := ["told", "due", "k"]
theorem sc__law_same : FnScope N__law_same ["told", "due"] (defScope s__law_same) := ⟨rfl, rfl, rfl, by decide +kernel, rfl, by decide +kernel, by decide +kernel⟩
abbrev s__law_words : Stmt := topS 16
abbrev N__law_words : List Str := ["pool", "stem", "tail", "letter"]
theorem sc__law_words : FnScope N__law_words ["pool"] (defScope s__law_words) := ⟨rfl, rfl, rfl, by decide +kernel, rfl, by decide +kernel, by decide +kernel⟩
abbrev s__law_mark : Stmt := topS 17
abbrev N__law_mark : List Str := ["pool", "word", "least"]
theorem sc__law_mark : FnScope N__law_mark ["pool", "word"] (defScope s__law_mark) := ⟨rfl, rfl, rfl, by decide +kernel, rfl, by decide +kernel, by decide +kernel⟩
abbrev s__law_codes : Stmt := topS 18
abbrev N__law_codes : List Str := ["pool", "rows", "many", "habit", "codes", "k", "row"]
theorem sc__law_codes : FnScope N__law_codes ["pool", "rows"] (defScope s__law_codes) := ⟨rfl, rfl, rfl, by decide +kernel, rfl, by decide +kernel, by decide +kernel⟩
abbrev s__law_places : Stmt := topS 19
abbrev N__law_places : List Str := ["codes", "rows", "word", "found", "row", "piece"]
theorem sc__law_places : FnScope N__law_places ["codes", "rows", "word"] (defScope s__law_places) := ⟨rfl, rfl, rfl, by decide +kernel, rfl, by decide +kernel, by decide +kernel⟩
abbrev s__law_tests : Stmt := topS 20
abbrev N__law_tests : List Str := ["pool", "words", "places", "tests", "k", "one"]
theorem sc__law_tests : FnScope N__law_tests ["pool", "words", "places"] (defScope s__law_tests) := ⟨rfl, rfl, rfl, by decide +kernel, rfl, by decide +kernel, by decide +kernel⟩
abbrev s__law_way : Stmt := topS 21
abbrev N__law_way : List Str := ["pool", "codes", "words", "places", "pieces", "code", "word"]
theorem sc__law_way : FnScope N__law_way ["pool", "codes", "words", "places"] (defScope s__law_way) := ⟨rfl, rfl, rfl, by decide +kernel, rfl, by decide +kernel, by decide +kernel⟩
abbrev s__law_side : Stmt := topS 22
abbrev N__law_side : List Str := ["note", "notes", "sort", "side"]
theorem sc__law_side : FnScope N__law_side ["note", "notes"] (defScope s__law_side) := ⟨rfl, rfl, rfl, by decide +kernel, rfl, by decide +kernel, by decide +kernel⟩
abbrev s__law_ask : Stmt := topS 23
abbrev N__law_ask : List Str := ["pool", "room", "words", "notes", "what", "sorts", "sort", "word", "note", "inner", "part", "left", "right"]
theorem sc__law_ask : FnScope N__law_ask ["pool", "room", "words", "notes"] (defScope s__law_ask) := ⟨rfl, rfl, rfl, by decide +kernel, rfl, by decide +kernel, by decide +kernel⟩
abbrev s__law_way_good : Stmt := topS 24
abbrev N__law_way_good : List Str := ["line", "sorts", "codes", "rows", "parts", "signs", "runs", "turn", "k"]
theorem sc__law_way_good : FnScope N__law_way_good ["line", "sorts", "codes", "rows"] (defScope s__law_way_good) := ⟨rfl, rfl, rfl, by decide +kernel, rfl, by decide +kernel, by decide +kernel⟩
abbrev s__law_ask_good : Stmt := topS 25
abbrev N__law_ask_good : List Str := ["note"]
theorem sc__law_ask_good : FnScope N__law_ask_good ["note"] (defScope s__law_ask_good) := ⟨rfl, rfl, rfl, by decide +kernel, rfl, by decide +kernel, by decide +kernel⟩
abbrev s_law : Stmt := topS 26
abbrev N_law : List Str := ["script", "pool", "words", "turn", "rows", "codes", "line", "sorts", "notes", "note", "code"]
theorem sc_law : FnScope N_law ["script"] (defScope s_law) := ⟨rfl, rfl, rfl, by decide +kernel, rfl, by decide +kernel, by decide +kernel⟩
structure Txt (K : PySem.W.Frag) (mg : Str → Option Value) where
  f_kinds_of : Addr
  fd_kinds_of : FuncData
  F_kinds_of : Fun K "kinds_of" "kinds_of" s_kinds_of f_kinds_of fd_kinds_of
  g_kinds_of : mg "kinds_of" = some (.ref f_kinds_of)
  f_part_places : Addr
  fd_part_places : FuncData
  F_part_places : Fun K "part_places" "part_places" s_part_places f_part_places fd_part_places
  g_part_places : mg "part_places" = some (.ref f_part_places)
  f_sign_places : Addr
  fd_sign_places : FuncData
  F_sign_places : Fun K "sign_places" "sign_places" s_sign_places f_sign_places fd_sign_places
  g_sign_places : mg "sign_places" = some (.ref f_sign_places)
  f_run_places : Addr
  fd_run_places : FuncData
  F_run_places : Fun K "run_places" "run_places" s_run_places f_run_places fd_run_places
  g_run_places : mg "run_places" = some (.ref f_run_places)
  f__kind_of : Addr
  fd__kind_of : FuncData
  F__kind_of : Fun K "_kind_of" "_kind_of" s__kind_of f__kind_of fd__kind_of
  g__kind_of : mg "_kind_of" = some (.ref f__kind_of)
  f__refs_to : Addr
  fd__refs_to : FuncData
  F__refs_to : Fun K "_refs_to" "_refs_to" s__refs_to f__refs_to fd__refs_to
  g__refs_to : mg "_refs_to" = some (.ref f__refs_to)
  f_judges_of : Addr
  fd_judges_of : FuncData
  F_judges_of : Fun K "judges_of" "judges_of" s_judges_of f_judges_of fd_judges_of
  g_judges_of : mg "judges_of" = some (.ref f_judges_of)
  f_asks_in : Addr
  fd_asks_in : FuncData
  F_asks_in : Fun K "asks_in" "asks_in" s_asks_in f_asks_in fd_asks_in
  g_asks_in : mg "asks_in" = some (.ref f_asks_in)
  f_has_first : Addr
  fd_has_first : FuncData
  F_has_first : Fun K "has_first" "has_first" s_has_first f_has_first fd_has_first
  g_has_first : mg "has_first" = some (.ref f_has_first)
  f_all_asks : Addr
  fd_all_asks : FuncData
  F_all_asks : Fun K "all_asks" "all_asks" s_all_asks f_all_asks fd_all_asks
  g_all_asks : mg "all_asks" = some (.ref f_all_asks)
  f_own_judge : Addr
  fd_own_judge : FuncData
  F_own_judge : Fun K "own_judge" "own_judge" s_own_judge f_own_judge fd_own_judge
  g_own_judge : mg "own_judge" = some (.ref f_own_judge)
  f__law_pick : Addr
  fd__law_pick : FuncData
  F__law_pick : Fun K "_law_pick" "_law_pick" s__law_pick f__law_pick fd__law_pick
  g__law_pick : mg "_law_pick" = some (.ref f__law_pick)
  f__law_same : Addr
  fd__law_same : FuncData
  F__law_same : Fun K "_law_same" "_law_same" s__law_same f__law_same fd__law_same
  g__law_same : mg "_law_same" = some (.ref f__law_same)
  f__law_words : Addr
  fd__law_words : FuncData
  F__law_words : Fun K "_law_words" "_law_words" s__law_words f__law_words fd__law_words
  g__law_words : mg "_law_words" = some (.ref f__law_words)
  f__law_mark : Addr
  fd__law_mark : FuncData
  F__law_mark : Fun K "_law_mark" "_law_mark" s__law_mark f__law_mark fd__law_mark
  g__law_mark : mg "_law_mark" = some (.ref f__law_mark)
  f__law_codes : Addr
  fd__law_codes : FuncData
  F__law_codes : Fun K "_law_codes" "_law_codes" s__law_codes f__law_codes fd__law_codes
  g__law_codes : mg "_law_codes" = some (.ref f__law_codes)
  f__law_places : Addr
  fd__law_places : FuncData
  F__law_places : Fun K "_law_places" "_law_places" s__law_places f__law_places fd__law_places
  g__law_places : mg "_law_places" = some (.ref f__law_places)
  f__law_tests : Addr
  fd__law_tests : FuncData
  F__law_tests : Fun K "_law_tests" "_law_tests" s__law_tests f__law_tests fd__law_tests
  g__law_tests : mg "_law_tests" = some (.ref f__law_tests)
  f__law_way : Addr
  fd__law_way : FuncData
  F__law_way : Fun K "_law_way" "_law_way" s__law_way f__law_way fd__law_way
  g__law_way : mg "_law_way" = some (.ref f__law_way)
  f__law_side : Addr
  fd__law_side : FuncData
  F__law_side : Fun K "_law_side" "_law_side" s__law_side f__law_side fd__law_side
  g__law_side : mg "_law_side" = some (.ref f__law_side)
  f__law_ask : Addr
  fd__law_ask : FuncData
  F__law_ask : Fun K "_law_ask" "_law_ask" s__law_ask f__law_ask fd__law_ask
  g__law_ask : mg "_law_ask" = some (.ref f__law_ask)
  f__law_way_good : Addr
  fd__law_way_good : FuncData
  F__law_way_good : Fun K "_law_way_good" "_law_way_good" s__law_way_good f__law_way_good fd__law_way_good
  g__law_way_good : mg "_law_way_good" = some (.ref f__law_way_good)
  f__law_ask_good : Addr
  fd__law_ask_good : FuncData
  F__law_ask_good : Fun K "_law_ask_good" "_law_ask_good" s__law_ask_good f__law_ask_good fd__law_ask_good
  g__law_ask_good : mg "_law_ask_good" = some (.ref f__law_ask_good)
  f_law : Addr
  fd_law : FuncData
  F_law : Fun K "law" "law" s_law f_law fd_law
  g_law : mg "law" = some (.ref f_law)
  z_tuple : mg "tuple" = none
  z_enumerate : mg "enumerate" = none
  z_len : mg "len" = none
  z_int : mg "int" = none
  z_range : mg "range" = none
  z_isinstance : mg "isinstance" = none
  z_str : mg "str" = none
  z_bool : mg "bool" = none
  z_min : mg "min" = none
  z_sorted : mg "sorted" = none
  z_list : mg "list" = none
theorem Txt.b_kinds_of {K : PySem.W.Frag} {mg : Str → Option Value} (T : Txt K mg) : Binds K T.fd_kinds_of ["way"] [] := T.F_kinds_of.binds fun _ _ _ _ _ _ us hl => match us, hl with | [_], _ => rfl
theorem Txt.b_part_places {K : PySem.W.Frag} {mg : Str → Option Value} (T : Txt K mg) : Binds K T.fd_part_places ["kinds"] [] := T.F_part_places.binds fun _ _ _ _ _ _ us hl => match us, hl with | [_], _ => rfl
theorem Txt.b_sign_places {K : PySem.W.Frag} {mg : Str → Option Value} (T : Txt K mg) : Binds K T.fd_sign_places ["kinds"] [] := T.F_sign_places.binds fun _ _ _ _ _ _ us hl => match us, hl with | [_], _ => rfl
theorem Txt.b_run_places {K : PySem.W.Frag} {mg : Str → Option Value} (T : Txt K mg) : Binds K T.fd_run_places ["kinds"] [] := T.F_run_places.binds fun _ _ _ _ _ _ us hl => match us, hl with | [_], _ => rfl
theorem Txt.b__kind_of {K : PySem.W.Frag} {mg : Str → Option Value} (T : Txt K mg) : Binds K T.fd__kind_of ["piece"] [] := T.F__kind_of.binds fun _ _ _ _ _ _ us hl => match us, hl with | [_], _ => rfl
theorem Txt.b__refs_to {K : PySem.W.Frag} {mg : Str → Option Value} (T : Txt K mg) : Binds K T.fd__refs_to ["kinds", "words"] [] := T.F__refs_to.binds fun _ _ _ _ _ _ us hl => match us, hl with | [_, _], _ => rfl
theorem Txt.b_judges_of {K : PySem.W.Frag} {mg : Str → Option Value} (T : Txt K mg) : Binds K T.fd_judges_of ["ask"] [] := T.F_judges_of.binds fun _ _ _ _ _ _ us hl => match us, hl with | [_], _ => rfl
theorem Txt.b_asks_in {K : PySem.W.Frag} {mg : Str → Option Value} (T : Txt K mg) : Binds K T.fd_asks_in ["ask"] [] := T.F_asks_in.binds fun _ _ _ _ _ _ us hl => match us, hl with | [_], _ => rfl
theorem Txt.b_has_first {K : PySem.W.Frag} {mg : Str → Option Value} (T : Txt K mg) : Binds K T.fd_has_first ["ask"] [] := T.F_has_first.binds fun _ _ _ _ _ _ us hl => match us, hl with | [_], _ => rfl
theorem Txt.b_all_asks {K : PySem.W.Frag} {mg : Str → Option Value} (T : Txt K mg) : Binds K T.fd_all_asks ["ask"] [] := T.F_all_asks.binds fun _ _ _ _ _ _ us hl => match us, hl with | [_], _ => rfl
theorem Txt.b_own_judge {K : PySem.W.Frag} {mg : Str → Option Value} (T : Txt K mg) : Binds K T.fd_own_judge ["ask"] [] := T.F_own_judge.binds fun _ _ _ _ _ _ us hl => match us, hl with | [_], _ => rfl
theorem Txt.b__law_pick {K : PySem.W.Frag} {mg : Str → Option Value} (T : Txt K mg) : Binds K T.fd__law_pick ["pool", "many"] [] := T.F__law_pick.binds fun _ _ _ _ _ _ us hl => match us, hl with | [_, _], _ => rfl
theorem Txt.b__law_same {K : PySem.W.Frag} {mg : Str → Option Value} (T : Txt K mg) : Binds K T.fd__law_same ["told", "due"] [] := T.F__law_same.binds fun _ _ _ _ _ _ us hl => match us, hl with | [_, _], _ => rfl
theorem Txt.b__law_words {K : PySem.W.Frag} {mg : Str → Option Value} (T : Txt K mg) : Binds K T.fd__law_words ["pool"] [] := T.F__law_words.binds fun _ _ _ _ _ _ us hl => match us, hl with | [_], _ => rfl
theorem Txt.b__law_mark {K : PySem.W.Frag} {mg : Str → Option Value} (T : Txt K mg) : Binds K T.fd__law_mark ["pool", "word"] [] := T.F__law_mark.binds fun _ _ _ _ _ _ us hl => match us, hl with | [_, _], _ => rfl
theorem Txt.b__law_codes {K : PySem.W.Frag} {mg : Str → Option Value} (T : Txt K mg) : Binds K T.fd__law_codes ["pool", "rows"] [] := T.F__law_codes.binds fun _ _ _ _ _ _ us hl => match us, hl with | [_, _], _ => rfl
theorem Txt.b__law_places {K : PySem.W.Frag} {mg : Str → Option Value} (T : Txt K mg) : Binds K T.fd__law_places ["codes", "rows", "word"] [] := T.F__law_places.binds fun _ _ _ _ _ _ us hl => match us, hl with | [_, _, _], _ => rfl
theorem Txt.b__law_tests {K : PySem.W.Frag} {mg : Str → Option Value} (T : Txt K mg) : Binds K T.fd__law_tests ["pool", "words", "places"] [] := T.F__law_tests.binds fun _ _ _ _ _ _ us hl => match us, hl with | [_, _, _], _ => rfl
theorem Txt.b__law_way {K : PySem.W.Frag} {mg : Str → Option Value} (T : Txt K mg) : Binds K T.fd__law_way ["pool", "codes", "words", "places"] [] := T.F__law_way.binds fun _ _ _ _ _ _ us hl => match us, hl with | [_, _, _, _], _ => rfl
theorem Txt.b__law_side {K : PySem.W.Frag} {mg : Str → Option Value} (T : Txt K mg) : Binds K T.fd__law_side ["note", "notes"] [] := T.F__law_side.binds fun _ _ _ _ _ _ us hl => match us, hl with | [_, _], _ => rfl
theorem Txt.b__law_ask {K : PySem.W.Frag} {mg : Str → Option Value} (T : Txt K mg) : Binds K T.fd__law_ask ["pool", "room", "words", "notes"] [] := T.F__law_ask.binds fun _ _ _ _ _ _ us hl => match us, hl with | [_, _, _, _], _ => rfl
theorem Txt.b__law_way_good {K : PySem.W.Frag} {mg : Str → Option Value} (T : Txt K mg) : Binds K T.fd__law_way_good ["line", "sorts", "codes", "rows"] [] := T.F__law_way_good.binds fun _ _ _ _ _ _ us hl => match us, hl with | [_, _, _, _], _ => rfl
theorem Txt.b__law_ask_good {K : PySem.W.Frag} {mg : Str → Option Value} (T : Txt K mg) : Binds K T.fd__law_ask_good ["note"] [] := T.F__law_ask_good.binds fun _ _ _ _ _ _ us hl => match us, hl with | [_], _ => rfl
theorem Txt.b_law {K : PySem.W.Frag} {mg : Str → Option Value} (T : Txt K mg) : Binds K T.fd_law ["script"] [] := T.F_law.binds fun _ _ _ _ _ _ us hl => match us, hl with | [_], _ => rfl
theorem Txt.kw_kinds_of {K : PySem.W.Frag} {mg : Str → Option Value} (T : Txt K mg) : KwAll K T.fd_kinds_of ["way"] ["way"] := kw_all T.F_kinds_of fun _ _ _ _ _ _ ws hl => match ws, hl with | [_], _ => rfl
theorem Txt.kw_part_places {K : PySem.W.Frag} {mg : Str → Option Value} (T : Txt K mg) : KwAll K T.fd_part_places ["kinds"] ["kinds"] := kw_all T.F_part_places fun _ _ _ _ _ _ ws hl => match ws, hl with | [_], _ => rfl
theorem Txt.kw_asks_in {K : PySem.W.Frag} {mg : Str → Option Value} (T : Txt K mg) : KwAll K T.fd_asks_in ["ask"] ["ask"] := kw_all T.F_asks_in fun _ _ _ _ _ _ ws hl => match ws, hl with | [_], _ => rfl
theorem Txt.kw_has_first {K : PySem.W.Frag} {mg : Str → Option Value} (T : Txt K mg) : KwAll K T.fd_has_first ["ask"] ["ask"] := kw_all T.F_has_first fun _ _ _ _ _ _ ws hl => match ws, hl with | [_], _ => rfl
theorem Txt.kw_sign_places {K : PySem.W.Frag} {mg : Str → Option Value} (T : Txt K mg) : KwAll K T.fd_sign_places ["kinds"] ["kinds"] := kw_all T.F_sign_places fun _ _ _ _ _ _ ws hl => match ws, hl with | [_], _ => rfl
theorem Txt.kw_judges_of {K : PySem.W.Frag} {mg : Str → Option Value} (T : Txt K mg) : KwAll K T.fd_judges_of ["ask"] ["ask"] := kw_all T.F_judges_of fun _ _ _ _ _ _ ws hl => match ws, hl with | [_], _ => rfl
theorem Txt.kw_run_places {K : PySem.W.Frag} {mg : Str → Option Value} (T : Txt K mg) : KwAll K T.fd_run_places ["kinds"] ["kinds"] := kw_all T.F_run_places fun _ _ _ _ _ _ ws hl => match ws, hl with | [_], _ => rfl
end K19

set_option Elab.async false
set_option linter.all false
set_option maxRecDepth 100000
set_option maxHeartbeats 4000000
namespace K19
open PySem PySem.Spec PyProof.Rows L2 PD
local macro_rules | `(tactic| walk_at "pd") => `(tactic| simp (config := { decide := true, maxSteps := 400000 }) only [dSeq, dSet, dAsg, dgN, dRet, dRetN, dIfS, dFor, dLoop, dDrop, dNext, dVar, dC, dNil, dCons, dOp, dUn, dTest, dTru, dAnd, dOr, dNot, dAndV, dOrV, dNotV, dIfE, dTup, dLst, dCB, dCall, dBM, dBM0, dLc, dComp, dYes, dgTup, dgCons, dgNil, dgSub, dPart, dNoPart, dAug, dIsi, dEq, dNe, wipeD, endsOf,
  dAdd_i, dAdd_s, dAdd_t, dAdd_r, dSub_i, dInt2_i, dMul_i, dMul_s, dNeg_i, dCmp_i, dIsN_n, dNotN_n, dInG_t, dInG_r, dIx_s, dIx_t, dIx_r, dLen_s, dLen_t, dLen_r, dTuple_1, dList_1, dInt1_i, dTwo_i, dSl_v, dSlV_t, dSlV_r, dRev_v, dRevV_t, dRevV_r, dISeq_v, dISeqV_t, dISeqV_r, dIEnum_v, dIEnumV_t, dIEnumV_r, dPop_0, dPop_i, dAppend_1, dExtend_1, dSub3_i, dSortP_r, dIRng1_v, dRng1V_i,
  seqOf_tup, seqOf_rol, seqW_tup, eqK_ss, eqK_ii, eqK_bb, eqK_nn, eqK_ts, eqK_st, eqK_ti, eqK_is, eqK_ns, flatD_str, flatD_int, flatD_bl, flatD_non, isT_NoneType_bool, isT_NoneType_int, isT_NoneType_str, isT_NoneType_tuple, isT_NoneType_list, isT_bool_bool, isT_bool_int, isT_bool_str, isT_bool_tuple, isT_bool_list, isT_int_bool, isT_int_int, isT_int_str, isT_int_tuple, isT_int_list, isT_str_bool, isT_str_int, isT_str_str, isT_str_tuple, isT_str_list, isT_tuple_bool, isT_tuple_int, isT_tuple_str, isT_tuple_tuple, isT_tuple_list, isT_list_bool, isT_list_int, isT_list_str, isT_list_tuple, isT_list_list, isNon_non, isNon_bl, isNon_int, isNon_str, isNon_tup, tyD_non, tyD_bl, tyD_int, tyD_str, tyD_tup, truD_bl, truD_int, truD_tup,
  atI_0, atI_1, atI_2, atI_3, atI_4, atI_m1, atI_m2, atI_m3, Option.some.injEq, exists_eq_left', exists_eq_left, beq_self_eq_true, Bool.not_true, Bool.not_false, if_true, if_false, true_and, and_true, Bool.false_eq_true, ↓reduceIte,
  List.getElem?_cons_zero, List.getElem?_cons_succ, List.set_cons_zero, List.set_cons_succ, List.map_cons, List.map_nil, List.length_cons, List.length_nil, mset_same, mset_mset, List.isEmpty_nil, List.isEmpty_cons, decide_eq_true_eq, beq_iff_eq, seqI_0, List.eraseIdx_cons_zero, List.eraseIdx_cons_succ, ixN_40, ixN_41, ixN_42, ixN_43, Nat.reduceAdd])
local macro_rules | `(tactic| walk_at "ne") => `(tactic| first | assumption | exact Ne.symm (by assumption))
local macro_rules | `(tactic| walk_at "mu") => `(tactic| first | exact mset_same | assumption | exact mset_skip (by walk_at "ne") (by walk_at "mu"))
local macro_rules | `(tactic| walk_at "go") => `(tactic| repeat (first | walk_at "pd" | refine ⟨_, seqOf_ref (by walk_at "mu"), ?_⟩ | refine ⟨⟨_, _, lstOf_ref (by walk_at "mu")⟩, ?_⟩ | refine ⟨_, _, lstOf_ref (by walk_at "mu"), ?_⟩ | refine ⟨(show CMul _ _ from Or.inr ⟨by decide, by decide⟩), ?_⟩ | refine ⟨(show CDiv _ _ from ⟨by decide, by decide⟩), ?_⟩))
/-! ### kinds -/
/-- a kind: a part, or the words of the marks -/
abbrev Kd := Option (List Str)
def kdD : Kd → D
  | none => .str "lot"
  | some ws => .tup (ws.map .str)
inductive Pc where
  | lot (x : D)
  | plain (ms : List (Str × List D))
def mkD (p : Str × List D) : D := .tup (.str p.1 :: p.2)
def pcD : Pc → D
  | .lot x => .tup [.str "lot", x]
  | .plain ms => .tup [.str "plain", .tup (ms.map mkD)]
def pcK : Pc → Kd
  | .lot _ => none
  | .plain ms => some (ms.map (·.1))
def pcOk : Pc → Prop
  | .lot _ => True
  | .plain ms => ms.length ≤ 1000
section
variable {P : Program} {w : World} {K : PySem.W.Frag} {mg : Str → Option Value} {base : Heap}
def sp__kind_of : SpD := fun ds m Q => ∃ p : Pc, ds = [pcD p] ∧ pcOk p ∧ Q (kdD (pcK p)) m
theorem ok__kind_of  (T : Txt K mg)  : FnOk P w K mg base CX0 (1) T.f__kind_of T.fd__kind_of ["piece"] (spL K 1 sp__kind_of) := by
  refine fn_ok T.F__kind_of sc__kind_of (fun cdv A outer s H E hr =>
(gss_cons (gs_if (gt_cmpR (op_eqS hr.units) lr_eq (ge_ix (gv 0) ge_int) ge_str (nomark _))
 (gss_one (gs_ret ge_str))
 gss_nil)
 (gss_one (gs_ret (ge_callTy call_tuple_of lc_tuple (by rfl) T.z_tuple (by decide +kernel) (ga_cons (ge_lc (own := [("mark", 1)]) rfl sc__kind_of.nd (gi_seq (ge_ix (gv 0) ge_int)) (blkOk_by (N := N__kind_of) (sc := defScope s__kind_of) (by decide +kernel)) (fun _ _ _ _ _ => (gg_name (i := 1) sc__kind_of.nd rfl (.inl rfl))) (fun _ _ _ _ _ => gts_nil) (fun _ _ _ _ _ => (ge_ix (gv 1) ge_int)) (by decide)) ga_nil)))))) (fun ds m Q h => ?_)
  obtain ⟨p, rfl, hp, h⟩ := h
  rw [show startD N__kind_of [pcD p] = [some (pcD p), none] from rfl]
  cases p with
  | lot x =>
    unfold pcD
    walk_at "pd"
    exact sub_refl_fin h
  | plain ms =>
    unfold pcD
    walk_at "pd"
    intro p hp0
    refine comp_map (fun d => match d with | .tup (x :: _) => x | d => d) (fun _ => trivial) (by rw [List.length_map]; exact Nat.le_trans hp (by decide)) (fun d hd a R h => ?_) ?_
    · obtain ⟨q, hq, rfl⟩ := List.mem_map.mp hd
      unfold mkD at h ⊢
      walk_at "pd"
      exact h
    · refine ⟨_, seqOf_ref mset_same, m, .new hp0, ?_⟩
      have e : (ms.map mkD).map (fun d => match d with | .tup (x :: _) => x | d => d) = (ms.map (·.1)).map D.str := by
        rw [List.map_map, List.map_map]; rfl
      rw [e]
      exact h
def sp_kinds_of : SpD := fun ds m Q => ∃ (mk ts : D) (ps : List Pc), ds = [.tup [mk, .tup (ps.map pcD), ts]] ∧ ps.length ≤ 1000 ∧ (∀ p ∈ ps, pcOk p) ∧ Q (.tup (ps.map fun p => kdD (pcK p))) m
def backK (d : D) : D := match d with
  | .tup [.str _, .tup ms] => .tup (ms.map fun d => match d with | .tup (x :: _) => x | d => d)
  | _ => .str "lot"
theorem backK_pc (p : Pc) (h : ∀ x, p = .lot x → True) : backK (pcD p) = kdD (pcK p) ∨ ∃ x, p = .lot x := by
  cases p with
  | lot x => exact .inr ⟨x, rfl⟩
  | plain ms =>
    refine .inl ?_
    show D.tup ((ms.map mkD).map _) = D.tup ((ms.map (·.1)).map D.str)
    rw [List.map_map, List.map_map]; rfl
theorem ok_kinds_of  (T : Txt K mg) (G__kind_of : FnOk P w K mg base CX0 (1) T.f__kind_of T.fd__kind_of ["piece"] (spL K 1 sp__kind_of)) : FnOk P w K mg base CX0 (2) T.f_kinds_of T.fd_kinds_of ["way"] (spL K 1 sp_kinds_of) := by
  refine fn_ok T.F_kinds_of sc_kinds_of (fun cdv A outer s H E hr =>
(gss_one (gs_ret (ge_callTy call_tuple_of lc_tuple (by rfl) T.z_tuple (by decide +kernel) (ga_cons (ge_lc (own := [("piece", 1)]) rfl sc_kinds_of.nd (gi_seq (ge_ix (gv 0) ge_int)) (blkOk_by (N := N_kinds_of) (sc := defScope s_kinds_of) (by decide +kernel)) (fun _ _ _ _ _ => (gg_name (i := 1) sc_kinds_of.nd rfl (.inl rfl))) (fun _ _ _ _ _ => gts_nil) (fun _ _ _ _ _ => (ge_call G__kind_of (hr.mono (by omega)) (by rfl) T.g__kind_of T.F__kind_of.kp T.b__kind_of (ga_cons (gv 1) ga_nil))) (by decide)) ga_nil))))) (fun ds m Q h => ?_)
  obtain ⟨mk, ts, ps, rfl, hl, hp, h⟩ := h
  rw [show startD N_kinds_of [.tup [mk, .tup (ps.map pcD), ts]] = [some (.tup [mk, .tup (ps.map pcD), ts]), none] from rfl]
  walk_at "pd"
  intro p hp0
  refine comp_inv (fun rem acc m' => ∃ pre post, ps = pre ++ post ∧ rem = post.map pcD ∧ acc = pre.map (fun p => kdD (pcK p)) ∧ m' = mset m p (.lst acc)) (fun d rem acc m1 R hR ⟨pre, post, e1, e2, e3, e4⟩ => ?_) (fun acc m1 ⟨pre, post, e1, e2, e3, e4⟩ => ?_) ⟨[], ps, rfl, rfl, rfl, rfl⟩
  · cases post with
    | nil => cases e2
    | cons q post =>
      rw [List.map_cons] at e2
      injection e2 with e2 e5
      subst e2 e4
      walk_at "pd"
      refine ⟨q, rfl, hp q (by rw [e1]; simp), ?_⟩
      refine ⟨mset_same, ?_, hR _ _ ⟨pre ++ [q], post, by rw [e1]; simp, e5, by rw [e3]; simp, mset_mset⟩⟩
      rw [e3, List.length_map]
      have : pre.length < ps.length := by rw [e1]; simp
      exact Nat.lt_of_lt_of_le (by omega : _ < 1001) (by decide)
  · cases post with
    | cons q post => cases e2
    | nil =>
      rw [List.append_nil] at e1
      subst e1 e4
      refine ⟨trivial, mset_same, _, seqOf_ref mset_same, m, .new hp0, ?_⟩
      rw [e3]
      exact h
def partsAt (i : Nat) : List Kd → List Nat
  | [] => []
  | none :: ks => i :: partsAt (i + 1) ks
  | some _ :: ks => partsAt (i + 1) ks
def natD (i : Nat) : D := .int (i : Int)
def kindsD (ks : List Kd) : D := .tup (ks.map kdD)
def sp_part_places : SpD := fun ds m Q => ∃ ks : List Kd, ds = [kindsD ks] ∧ ks.length ≤ 1000 ∧ Q (.tup ((partsAt 0 ks).map natD)) m
def isLot (d : D) : Bool := match d with | .tup [_, .str _] => true | _ => false
theorem parts_enum : ∀ (ks : List Kd) (i : Nat), ((enumD i (ks.map kdD)).filter isLot).map (fun d => match d with | .tup (x :: _) => x | d => d) = (partsAt i ks).map natD
  | [], _ => rfl
  | none :: ks, i => by
    show (List.filter isLot (.tup [.int (i : Int), .str "lot"] :: enumD (i + 1) (ks.map kdD))).map _ = natD i :: (partsAt (i + 1) ks).map natD
    rw [List.filter_cons, if_pos (show isLot (.tup [.int (i : Int), .str "lot"]) = true from rfl), List.map_cons, parts_enum ks (i + 1)]; rfl
  | some ws :: ks, i => by
    show (List.filter isLot (.tup [.int (i : Int), .tup (ws.map .str)] :: enumD (i + 1) (ks.map kdD))).map _ = (partsAt (i + 1) ks).map natD
    rw [List.filter_cons, if_neg (by unfold isLot; exact Bool.false_ne_true), parts_enum ks (i + 1)]
theorem mem_enum : ∀ (ks : List Kd) (i : Nat) {d : D}, d ∈ enumD i (ks.map kdD) → ∃ (j : Nat) (k : Kd), d = .tup [.int (j : Int), kdD k]
  | [], _, _, h => by cases h
  | k :: ks, i, d, h => by
    rcases List.mem_cons.mp h with rfl | h
    · exact ⟨i, k, rfl⟩
    · exact mem_enum ks (i + 1) h
theorem ok_part_places  (T : Txt K mg)  : FnOk P w K mg base CX0 (1) T.f_part_places T.fd_part_places ["kinds"] (spL K 1 sp_part_places) := by
  refine fn_ok T.F_part_places sc_part_places (fun cdv A outer s H E hr =>
(gss_one (gs_ret (ge_callTy call_tuple_of lc_tuple (by rfl) T.z_tuple (by decide +kernel) (ga_cons (ge_lc (own := [("place", 1), ("kind", 2)]) rfl sc_part_places.nd (gi_enum (by rfl) T.z_enumerate (ga_cons (gv 0) ga_nil)) (blkOk_by (N := N_part_places) (sc := defScope s_part_places) (by decide +kernel)) (fun _ _ _ _ _ => (gg_tup (n := 2) rfl (ggs_cons (gg_name (i := 1) sc_part_places.nd rfl (.inl rfl)) (ggs_cons (gg_name (i := 2) sc_part_places.nd rfl (.inl rfl)) ggs_nil)))) (fun _ _ _ _ _ => (gts_one (gt_cmpR (op_eqS hr.units) lr_eq (gv 2) ge_str (nomark _)))) (fun _ _ _ _ _ => (gv 1)) (by decide)) ga_nil))))) (fun ds m Q h => ?_)
  obtain ⟨ks, rfl, hl, h⟩ := h
  rw [show startD N_part_places [kindsD ks] = [some (kindsD ks), none, none] from rfl]
  unfold kindsD
  walk_at "pd"
  intro p hp0
  refine comp_pure isLot (fun d => match d with | .tup (x :: _) => x | d => d) (fun _ => trivial) (by rw [enumD_len, List.length_map]; omega) (fun d hd a R1 R2 h1 h2 => ?_) ?_
  · obtain ⟨j, k, rfl⟩ := mem_enum ks 0 hd
    cases k with
    | none =>
      unfold kdD at h1 h2 ⊢
      walk_at "pd"
      exact h1 rfl
    | some ws =>
      unfold kdD at h1 h2 ⊢
      walk_at "pd"
      exact h2 rfl
  · refine ⟨_, seqOf_ref mset_same, m, .new hp0, ?_⟩
    rw [parts_enum]
    exact h
/-- the places of the marks with one of the words, of piece i -/
def rowsAt (ws : List Str) (i j : Nat) : List Str → List (Int × Int)
  | [] => []
  | x :: xs => if x ∈ ws then ((i : Int), (j : Int)) :: rowsAt ws i (j + 1) xs else rowsAt ws i (j + 1) xs
def refsAt (ws : List Str) (i : Nat) : List Kd → List (Int × Int)
  | [] => []
  | none :: ks => refsAt ws (i + 1) ks
  | some xs :: ks => rowsAt ws i 0 xs ++ refsAt ws (i + 1) ks
def kdOk : Kd → Prop
  | none => True
  | some xs => xs.length ≤ 1000
def sp__refs_to : SpD := fun ds m Q => ∃ (ks : List Kd) (ws : List Str), ds = [kindsD ks, .tup (ws.map .str)] ∧ ks.length ≤ 1000 ∧ (∀ k ∈ ks, kdOk k) ∧ Q (.tup ((refsAt ws 0 ks).map pD)) m
theorem rows_len (ws : List Str) : ∀ (xs : List Str) (i j : Nat), (rowsAt ws i j xs).length ≤ xs.length
  | [], _, _ => Nat.le_refl _
  | x :: xs, i, j => by
    unfold rowsAt
    have := rows_len ws xs i (j + 1)
    split
    · rw [List.length_cons, List.length_cons]; omega
    · rw [List.length_cons]; omega
theorem refs_len (ws : List Str) : ∀ (ks : List Kd) (i : Nat), (∀ k ∈ ks, kdOk k) → (refsAt ws i ks).length ≤ 1000 * ks.length
  | [], _, _ => Nat.le_refl _
  | none :: ks, i, h => by
    have := refs_len ws ks (i + 1) fun k hk => h k (List.mem_cons_of_mem _ hk)
    show (refsAt ws (i + 1) ks).length ≤ 1000 * (ks.length + 1)
    omega
  | some xs :: ks, i, h => by
    have h1 := refs_len ws ks (i + 1) fun k hk => h k (List.mem_cons_of_mem _ hk)
    have h2 := rows_len ws xs i 0
    have h3 : xs.length ≤ 1000 := h (some xs) (List.mem_cons_self ..)
    show (rowsAt ws i 0 xs ++ refsAt ws (i + 1) ks).length ≤ 1000 * (ks.length + 1)
    rw [List.length_append]
    omega
theorem inF_str (x : Str) : ∀ ws : List Str, inF (.str x) (ws.map .str) = decide (x ∈ ws)
  | [] => rfl
  | y :: ws => by
    have ih := inF_str x ws
    unfold inF at ih ⊢
    rw [List.map_cons, List.any_cons, ih]
    show ((y == x) || decide (x ∈ ws)) = _
    by_cases e : y = x
    · subst e; simp
    · have e2 : ¬ x = y := fun z => e z.symm
      simp [e, e2]
theorem all_str (ws : List Str) : (ws.map D.str).all flatD = true := by
  rw [List.all_map]
  exact List.all_eq_true.mpr fun _ _ => rfl
def inW (ws : List Str) (d : D) : Bool := match d with | .tup [_, .str x] => decide (x ∈ ws) | _ => false
def pairI (i : Nat) (d : D) : D := match d with | .tup (x :: _) => .tup [.int (i : Int), x] | d => d
theorem rows_enum (ws : List Str) (i : Nat) : ∀ (xs : List Str) (j : Nat), ((enumD j (xs.map .str)).filter (inW ws)).map (pairI i) = (rowsAt ws i j xs).map pD
  | [], _ => rfl
  | x :: xs, j => by
    show (List.filter (inW ws) (.tup [.int (j : Int), .str x] :: enumD (j + 1) (xs.map .str))).map _ = _
    unfold rowsAt
    rw [List.filter_cons]
    show (if decide (x ∈ ws) = true then _ else _ : List D).map _ = _
    by_cases e : x ∈ ws
    · rw [if_pos (decide_eq_true e), if_pos e, List.map_cons, rows_enum ws i xs (j + 1)]; rfl
    · rw [if_neg (by rw [decide_eq_false e]; exact Bool.false_ne_true), if_neg e, rows_enum ws i xs (j + 1)]
theorem mem_enumS : ∀ (xs : List Str) (i : Nat) {d : D}, d ∈ enumD i (xs.map .str) → ∃ (j : Nat) (x : Str), d = .tup [.int (j : Int), .str x]
  | [], _, _, h => by cases h
  | k :: ks, i, d, h => by
    rcases List.mem_cons.mp h with rfl | h
    · exact ⟨i, k, rfl⟩
    · exact mem_enumS ks (i + 1) h
theorem ok__refs_to  (T : Txt K mg)  : FnOk P w K mg base CX0 (1) T.f__refs_to T.fd__refs_to ["kinds", "words"] (spL K 2 sp__refs_to) := by
  refine fn_ok T.F__refs_to sc__refs_to (fun cdv A outer s H E hr =>
(gss_cons (gs_set (i := 2) sc__refs_to.nd rfl (.inl rfl) (ge_lst ga_nil))
 (gss_cons (gs_for PassesOwn.never rfl (gi_enum (by rfl) T.z_enumerate (ga_cons (gv 0) ga_nil)) (gg_tup (n := 2) rfl (ggs_cons (gg_name (i := 3) sc__refs_to.nd rfl (.inr rfl)) (ggs_cons (gg_name (i := 4) sc__refs_to.nd rfl (.inl rfl)) ggs_nil)))
 (gss_one (gs_if (gt_cmpR (op_neS hr.units) lr_ne (gv 4) ge_str (nomark _))
 (gss_one (gs_expr (ge_bm PySem.F.slot_list_extend PySem.F.type_list_extend mt_extendU lm_extend (gv 2) (ga_cons (ge_lc (own := [("row", 5), ("word", 6)]) rfl sc__refs_to.nd (gi_enum (by rfl) T.z_enumerate (ga_cons (gv 4) ga_nil)) (blkOk_by (N := N__refs_to) (sc := defScope s__refs_to) (by decide +kernel)) (fun _ _ _ _ _ => (gg_tup (n := 2) rfl (ggs_cons (gg_name (i := 5) sc__refs_to.nd rfl (.inl rfl)) (ggs_cons (gg_name (i := 6) sc__refs_to.nd rfl (.inl rfl)) ggs_nil)))) (fun _ _ _ _ _ => (gts_one (gt_cmpR op_inU lr_in (gv 6) (gv 1) (by rfl)))) (fun _ _ _ _ _ => (ge_tup (ga_cons (gv 3) (ga_cons (gv 5) ga_nil)))) (by decide)) ga_nil))))
 gss_nil)))
 (gss_one (gs_ret (ge_callTy call_tuple_of lc_tuple (by rfl) T.z_tuple (by decide +kernel) (ga_cons (gv 2) ga_nil))))))) (fun ds m Q h => ?_)
  obtain ⟨ks, ws, rfl, hl, hk, h⟩ := h
  rw [show startD N__refs_to [kindsD ks, .tup (ws.map .str)] = [some (kindsD ks), some (.tup (ws.map .str)), none, none, none, none, none] from rfl]
  unfold kindsD
  walk_at "pd"
  intro p hp0
  refine loop_inv (fun rem s' m' => ∃ pre post, ks = pre ++ post ∧ rem = enumD pre.length (post.map kdD) ∧ (∃ a b c e, s' = [some (.tup (ks.map kdD)), some (.tup (ws.map .str)), some (.ref p), a, b, c, e]) ∧ ∃ acc, acc.length ≤ 1000 * pre.length ∧ (acc ++ refsAt ws pre.length post = refsAt ws 0 ks) ∧ ∃ m2, PD.Sub m m2 ∧ m2 p = some (.lst (acc.map pD)) ∧ m' = m2) ?_ ?_ ⟨[], ks, rfl, rfl, ⟨_, _, _, _, rfl⟩, [], Nat.zero_le _, rfl, _, .new hp0, mset_same, rfl⟩
  · rintro d rem s' m' R hR ⟨pre, post, e1, e2, ⟨a, b, c, e, rfl⟩, acc, hacc, e3, m2, sb, hp2, rfl⟩
    cases post with
    | nil => cases e2
    | cons k post =>
      rw [List.map_cons] at e2
      unfold enumD at e2
      injection e2 with e2 e5
      subst e2
      have hpl : (pre ++ [k]).length = pre.length + 1 := by simp
      cases k with
      | none =>
        unfold kdD
        walk_at "pd"
        refine hR _ _ ⟨pre ++ [none], post, by rw [e1]; simp, by rw [hpl]; exact e5, ⟨_, _, _, _, rfl⟩, acc, by rw [hpl]; omega, by rw [hpl]; exact e3, m', sb, hp2, rfl⟩
      | some xs =>
        unfold kdD
        walk_at "pd"
        refine ⟨⟨p, _, lstOf_ref hp2⟩, fun q hq => ?_⟩
        have hqp : p ≠ q := mne hq hp2
        refine comp_pure (inW ws) (pairI pre.length) (fun _ => trivial) (by rw [enumD_len, List.length_map]; exact Nat.le_trans (hk (some xs) (by rw [e1]; simp)) (by decide)) (fun d hd a R1 R2 h1 h2 => ?_) ?_
        · obtain ⟨j, x, rfl⟩ := mem_enumS xs 0 hd
          walk_at "pd"
          refine ⟨all_str ws, ?_⟩
          rw [inF_str]
          by_cases hx : x ∈ ws
          · rw [if_pos (decide_eq_true hx)]
            exact h1 (by unfold inW; exact decide_eq_true hx)
          · rw [if_neg (by rw [decide_eq_false hx]; exact Bool.false_ne_true)]
            exact h2 (by unfold inW; exact decide_eq_false hx)
        · rw [rows_enum]
          have hxs : xs.length ≤ 1000 := hk (some xs) (by rw [e1]; simp)
          have hrl := rows_len ws xs pre.length 0
          have hpre : pre.length < ks.length := by rw [e1]; simp
          refine ⟨p, acc.map pD, (rowsAt ws pre.length 0 xs).map pD, lstOf_ref (by rw [mset_ne hqp]; exact hp2), seqW_ref mset_same, ?_, ?_⟩
          · rw [List.length_map, List.length_map]
            exact Nat.le_trans (by omega : _ ≤ 1001000) (by decide)
          · refine hR _ _ ⟨pre ++ [some xs], post, by rw [e1]; simp, by rw [hpl]; exact e5, ⟨_, _, _, _, rfl⟩, acc ++ rowsAt ws pre.length 0 xs, ?_, ?_, _, ?_, ?_, rfl⟩
            · rw [hpl, List.length_append]; omega
            · rw [hpl, List.append_assoc]; exact e3
            · exact (sb.new' (sb.free hq)).new' hp0
            · rw [mset_same, List.map_append]
  · rintro s' m' ⟨pre, post, e1, e2, ⟨a, b, c, e, rfl⟩, acc, hacc, e3, m2, sb, hp2, rfl⟩
    cases post with
    | cons k post => cases e2
    | nil =>
      refine ⟨trivial, ?_⟩
      walk_at "pd"
      have e4 : acc = refsAt ws 0 ks := by rw [← e3]; exact (List.append_nil _).symm
      refine ⟨_, seqOf_ref hp2, m, sb, ?_⟩
      rw [e4]
      exact h
def sp_sign_places : SpD := fun ds m Q => ∃ ks : List Kd, ds = [kindsD ks] ∧ ks.length ≤ 1000 ∧ (∀ k ∈ ks, kdOk k) ∧ Q (.tup ((refsAt ["sign"] 0 ks).map pD)) m
theorem ok_sign_places  (T : Txt K mg) (G__refs_to : FnOk P w K mg base CX0 (1) T.f__refs_to T.fd__refs_to ["kinds", "words"] (spL K 2 sp__refs_to)) : FnOk P w K mg base CX0 (2) T.f_sign_places T.fd_sign_places ["kinds"] (spL K 1 sp_sign_places) := by
  refine fn_ok T.F_sign_places sc_sign_places (fun cdv A outer s H E hr =>
(gss_one (gs_ret (ge_call G__refs_to (hr.mono (by omega)) (by rfl) T.g__refs_to T.F__refs_to.kp T.b__refs_to (ga_cons (gv 0) (ga_cons (ge_tup (ga_cons ge_str ga_nil)) ga_nil)))))) (fun ds m Q h => ?_)
  obtain ⟨ks, rfl, hl, hk, h⟩ := h
  rw [show startD N_sign_places [kindsD ks] = [some (kindsD ks)] from rfl]
  walk_at "pd"
  exact ⟨ks, ["sign"], rfl, hl, hk, sub_refl_fin h⟩
def sp_run_places : SpD := fun ds m Q => ∃ ks : List Kd, ds = [kindsD ks] ∧ ks.length ≤ 1000 ∧ (∀ k ∈ ks, kdOk k) ∧ Q (.tup ((refsAt ["run"] 0 ks).map pD)) m
theorem ok_run_places  (T : Txt K mg) (G__refs_to : FnOk P w K mg base CX0 (1) T.f__refs_to T.fd__refs_to ["kinds", "words"] (spL K 2 sp__refs_to)) : FnOk P w K mg base CX0 (2) T.f_run_places T.fd_run_places ["kinds"] (spL K 1 sp_run_places) := by
  refine fn_ok T.F_run_places sc_run_places (fun cdv A outer s H E hr =>
(gss_one (gs_ret (ge_call G__refs_to (hr.mono (by omega)) (by rfl) T.g__refs_to T.F__refs_to.kp T.b__refs_to (ga_cons (gv 0) (ga_cons (ge_tup (ga_cons ge_str ga_nil)) ga_nil)))))) (fun ds m Q h => ?_)
  obtain ⟨ks, rfl, hl, hk, h⟩ := h
  rw [show startD N_run_places [kindsD ks] = [some (kindsD ks)] from rfl]
  walk_at "pd"
  exact ⟨ks, ["run"], rfl, hl, hk, sub_refl_fin h⟩
end
end K19

set_option Elab.async false
set_option linter.all false
set_option maxRecDepth 100000
set_option maxHeartbeats 4000000
namespace K19
open PySem PySem.Spec PyProof.Rows L2 PD
local macro_rules | `(tactic| walk_at "pd") => `(tactic| simp (config := { decide := true, maxSteps := 400000 }) only [dSeq, dSet, dAsg, dgN, dRet, dRetN, dIfS, dFor, dLoop, dDrop, dNext, dVar, dC, dNil, dCons, dOp, dUn, dTest, dTru, dAnd, dOr, dNot, dAndV, dOrV, dNotV, dIfE, dTup, dLst, dCB, dCall, dBM, dBM0, dLc, dComp, dYes, dgTup, dgCons, dgNil, dgSub, dPart, dNoPart, dAug, dIsi, dEq, dNe, wipeD, endsOf,
  dAdd_i, dAdd_s, dAdd_t, dAdd_r, dSub_i, dInt2_i, dMul_i, dMul_s, dNeg_i, dCmp_i, dIsN_n, dNotN_n, dInG_t, dInG_r, dIx_s, dIx_t, dIx_r, dLen_s, dLen_t, dLen_r, dTuple_1, dList_1, dInt1_i, dTwo_i, dSl_v, dSlV_t, dSlV_r, dRev_v, dRevV_t, dRevV_r, dISeq_v, dISeqV_t, dISeqV_r, dIEnum_v, dIEnumV_t, dIEnumV_r, dPop_0, dPop_i, dAppend_1, dExtend_1, dSub3_i, dSortP_r, dIRng1_v, dRng1V_i,
  seqOf_tup, seqOf_rol, seqW_tup, eqK_ss, eqK_ii, eqK_bb, eqK_nn, eqK_ts, eqK_st, eqK_ti, eqK_is, eqK_ns, flatD_str, flatD_int, flatD_bl, flatD_non, isT_NoneType_bool, isT_NoneType_int, isT_NoneType_str, isT_NoneType_tuple, isT_NoneType_list, isT_bool_bool, isT_bool_int, isT_bool_str, isT_bool_tuple, isT_bool_list, isT_int_bool, isT_int_int, isT_int_str, isT_int_tuple, isT_int_list, isT_str_bool, isT_str_int, isT_str_str, isT_str_tuple, isT_str_list, isT_tuple_bool, isT_tuple_int, isT_tuple_str, isT_tuple_tuple, isT_tuple_list, isT_list_bool, isT_list_int, isT_list_str, isT_list_tuple, isT_list_list, isNon_non, isNon_bl, isNon_int, isNon_str, isNon_tup, tyD_non, tyD_bl, tyD_int, tyD_str, tyD_tup, truD_bl, truD_int, truD_tup,
  atI_0, atI_1, atI_2, atI_3, atI_4, atI_m1, atI_m2, atI_m3, Option.some.injEq, exists_eq_left', exists_eq_left, beq_self_eq_true, Bool.not_true, Bool.not_false, if_true, if_false, true_and, and_true, Bool.false_eq_true, ↓reduceIte,
  List.getElem?_cons_zero, List.getElem?_cons_succ, List.set_cons_zero, List.set_cons_succ, List.map_cons, List.map_nil, List.length_cons, List.length_nil, mset_same, mset_mset, List.isEmpty_nil, List.isEmpty_cons, decide_eq_true_eq, beq_iff_eq, seqI_0, List.eraseIdx_cons_zero, List.eraseIdx_cons_succ, ixN_40, ixN_41, ixN_42, ixN_43, Nat.reduceAdd])
local macro_rules | `(tactic| walk_at "ne") => `(tactic| first | assumption | exact Ne.symm (by assumption))
local macro_rules | `(tactic| walk_at "mu") => `(tactic| first | exact mset_same | assumption | exact mset_skip (by walk_at "ne") (by walk_at "mu"))
local macro_rules | `(tactic| walk_at "go") => `(tactic| repeat (first | walk_at "pd" | refine ⟨_, seqOf_ref (by walk_at "mu"), ?_⟩ | refine ⟨⟨_, _, lstOf_ref (by walk_at "mu")⟩, ?_⟩ | refine ⟨_, _, lstOf_ref (by walk_at "mu"), ?_⟩ | refine ⟨(show CMul _ _ from Or.inr ⟨by decide, by decide⟩), ?_⟩ | refine ⟨(show CDiv _ _ from ⟨by decide, by decide⟩), ?_⟩))
/-! ### asks -/
inductive W1 where
  | least | greatest | spread | total | names
inductive W2 where
  | best | ends | within
inductive W3 where
  | thn | beside | against
def W1.s : W1 → Str
  | .least => "least" | .greatest => "greatest" | .spread => "spread" | .total => "total" | .names => "names"
def W2.s : W2 → Str
  | .best => "best" | .ends => "ends" | .within => "within"
def W3.s : W3 → Str
  | .thn => "then" | .beside => "beside" | .against => "against"
inductive Ak where
  | one (w : W1) (j : Str)
  | sm (w : W2) (n : Int) (j : Str)
  | fst
  | each (j : Str) (b : Ak)
  | two (w : W3) (a b : Ak)
def akD : Ak → D
  | .one w j => .tup [.str w.s, .str j]
  | .sm w n j => .tup [.str w.s, .int n, .str j]
  | .fst => .tup [.str "first"]
  | .each j b => .tup [.str "each", .str j, akD b]
  | .two w a b => .tup [.str w.s, akD a, akD b]
def insA : Ak → List Ak
  | .each _ b => [b]
  | .two _ a b => [a, b]
  | _ => []
def ownA : Ak → List Str
  | .one _ j => [j]
  | .sm _ _ j => [j]
  | .fst => []
  | .each j _ => [j]
  | .two _ _ _ => []
def sizeA : Ak → Nat
  | .each _ b => sizeA b + 1
  | .two _ a b => sizeA a + sizeA b + 1
  | _ => 1
def allA : Ak → List Ak
  | .each j b => .each j b :: allA b
  | .two w a b => .two w a b :: (allA a ++ allA b)
  | a => [a]
theorem all_ins (a : Ak) : allA a = a :: (insA a).flatMap allA := by
  cases a <;> simp [allA, insA]
theorem all_len : ∀ a : Ak, (allA a).length = sizeA a
  | .one _ _ => rfl
  | .sm _ _ _ => rfl
  | .fst => rfl
  | .each j b => by
    show (allA b).length + 1 = sizeA b + 1
    rw [all_len b]
  | .two w a b => by
    show (allA a ++ allA b).length + 1 = sizeA a + sizeA b + 1
    rw [List.length_append, all_len a, all_len b]
def isFst : Ak → Bool
  | .fst => true
  | _ => false
def judgesA (a : Ak) : List Str := (allA a).flatMap ownA
def firstsA (a : Ak) : Nat := ((allA a).filter isFst).length
def szS (st : List Ak) : Nat := (st.map sizeA).sum
theorem size_pos (a : Ak) : 0 < sizeA a := by cases a <;> simp [sizeA]
theorem len_szS : ∀ st : List Ak, st.length ≤ szS st
  | [] => Nat.le_refl _
  | a :: st => by
    have h1 := len_szS st
    have h2 := size_pos a
    unfold szS at h1 ⊢
    rw [List.map_cons, List.sum_cons, List.length_cons]
    omega
theorem szS_app (a b : List Ak) : szS (a ++ b) = szS a + szS b := by
  unfold szS; rw [List.map_append, List.sum_append]
theorem szS_rev (a : List Ak) : szS a.reverse = szS a := by
  induction a with
  | nil => rfl
  | cons x a ih => rw [List.reverse_cons, szS_app, ih]; unfold szS; simp; omega
theorem szS_ins (a : Ak) : szS (insA a) + 1 = sizeA a := by
  cases a <;> simp [szS, insA, sizeA]
section
variable {P : Program} {w : World} {K : PySem.W.Frag} {mg : Str → Option Value} {base : Heap}
def sp_own_judge : SpD := fun ds m Q => ∃ a : Ak, ds = [akD a] ∧ Q (.tup ((ownA a).map .str)) m
theorem ok_own_judge  (T : Txt K mg)  : FnOk P w K mg base CX0 (1) T.f_own_judge T.fd_own_judge ["ask"] (spL K 1 sp_own_judge) := by
  refine fn_ok T.F_own_judge sc_own_judge (fun cdv A outer s H E hr =>
(gss_cons (gs_if (gt_cmpR (op_eqS hr.units) lr_eq (ge_ix (gv 0) ge_int) ge_str (nomark _))
 (gss_one (gs_ret (ge_tup (ga_cons (ge_ix (gv 0) ge_int) ga_nil))))
 gss_nil)
 (gss_cons (gs_if (gt_cmpR op_inU lr_in (ge_ix (gv 0) ge_int) (ge_tup (ga_cons ge_str (ga_cons ge_str (ga_cons ge_str (ga_cons ge_str ga_nil))))) (by rfl))
 (gss_one (gs_ret (ge_tup ga_nil)))
 gss_nil)
 (gss_one (gs_ret (ge_tup (ga_cons (ge_ix (gv 0) (ge_un un_neg lu_neg ge_int)) ga_nil))))))) (fun ds m Q h => ?_)
  obtain ⟨a, rfl, h⟩ := h
  rw [show startD N_own_judge [akD a] = [some (akD a)] from rfl]
  cases a with
  | one w j => cases w <;> (unfold akD W1.s; walk_at "pd"; exact sub_refl_fin h)
  | sm w n j => cases w <;> (unfold akD W2.s; walk_at "pd"; exact sub_refl_fin h)
  | fst => unfold akD; walk_at "pd"; exact sub_refl_fin h
  | each j b => unfold akD; walk_at "pd"; exact sub_refl_fin h
  | two w a b => cases w <;> (unfold akD W3.s; walk_at "pd"; exact sub_refl_fin h)
def sp_asks_in : SpD := fun ds m Q => ∃ a : Ak, ds = [akD a] ∧ Q (.tup ((insA a).map akD)) m
theorem ok_asks_in  (T : Txt K mg)  : FnOk P w K mg base CX0 (1) T.f_asks_in T.fd_asks_in ["ask"] (spL K 1 sp_asks_in) := by
  refine fn_ok T.F_asks_in sc_asks_in (fun cdv A outer s H E hr =>
(gss_cons (gs_if (gt_cmpR (op_eqS hr.units) lr_eq (ge_ix (gv 0) ge_int) ge_str (nomark _))
 (gss_one (gs_ret (ge_tup (ga_cons (ge_ix (gv 0) ge_int) ga_nil))))
 gss_nil)
 (gss_cons (gs_if (gt_cmpR op_inU lr_in (ge_ix (gv 0) ge_int) (ge_tup (ga_cons ge_str (ga_cons ge_str (ga_cons ge_str ga_nil)))) (by rfl))
 (gss_one (gs_ret (ge_tup (ga_cons (ge_ix (gv 0) ge_int) (ga_cons (ge_ix (gv 0) ge_int) ga_nil)))))
 gss_nil)
 (gss_one (gs_ret (ge_tup ga_nil)))))) (fun ds m Q h => ?_)
  obtain ⟨a, rfl, h⟩ := h
  rw [show startD N_asks_in [akD a] = [some (akD a)] from rfl]
  cases a with
  | one w j => cases w <;> (unfold akD W1.s; walk_at "pd"; exact sub_refl_fin h)
  | sm w n j => cases w <;> (unfold akD W2.s; walk_at "pd"; exact sub_refl_fin h)
  | fst => unfold akD; walk_at "pd"; exact sub_refl_fin h
  | each j b => unfold akD; walk_at "pd"; exact sub_refl_fin h
  | two w a b => cases w <;> (unfold akD W3.s; walk_at "pd"; exact sub_refl_fin h)
def sp_all_asks : SpD := fun ds m Q => ∃ a : Ak, ds = [akD a] ∧ sizeA a ≤ 1000 ∧ ∀ p, m p = none → Q (.ref p) (mset m p (.lst ((allA a).map akD)))
theorem ok_all_asks  (T : Txt K mg) (G_asks_in : FnOk P w K mg base CX0 (1) T.f_asks_in T.fd_asks_in ["ask"] (spL K 1 sp_asks_in)) : FnOk P w K mg base CX0 (2) T.f_all_asks T.fd_all_asks ["ask"] (spL K 1 sp_all_asks) := by
  refine fn_ok T.F_all_asks sc_all_asks (fun cdv A outer s H E hr =>
(gss_cons (gs_set (i := 1) sc_all_asks.nd rfl (.inl rfl) (ge_lst ga_nil))
 (gss_cons (gs_set (i := 2) sc_all_asks.nd rfl (.inl rfl) (ge_lst (ga_cons (gv 0) ga_nil)))
 (gss_cons (gs_while PassesOwn.never (gt_tru (gv 2))
 (gss_cons (gs_set (i := 3) sc_all_asks.nd rfl (.inl rfl) (ge_bm0 PySem.F.slot_list_pop PySem.F.type_list_pop mt_popU lm_pop (gv 2)))
 (gss_cons (gs_expr (ge_bm PySem.F.slot_list_append PySem.F.type_list_append mt_append lm_append (gv 1) (ga_cons (gv 3) ga_nil)))
 (gss_one (gs_expr (ge_bm PySem.F.slot_list_extend PySem.F.type_list_extend mt_extendU lm_extend (gv 2) (ga_cons (ge_rev (ge_call G_asks_in (hr.mono (by omega)) (by rfl) T.g_asks_in T.F_asks_in.kp T.b_asks_in (ga_cons (gv 3) ga_nil))) ga_nil)))))))
 (gss_one (gs_ret (gv 1))))))) (fun ds m Q h => ?_)
  obtain ⟨a, rfl, hz, h⟩ := h
  rw [show startD N_all_asks [akD a] = [some (akD a), none, none, none] from rfl]
  unfold dWhile
  walk_at "pd"
  intro p hp q hq
  have hpq : p ≠ q := mne hq mset_same
  refine ⟨fun n s' m' => ∃ acc st, (∃ c, s' = [some (akD a), some (.ref p), some (.ref q), c]) ∧ n = szS st ∧ acc.length + szS st = sizeA a ∧ acc ++ st.reverse.flatMap allA = allA a ∧ PD.Sub m m' ∧ m' p = some (.lst (acc.map akD)) ∧ m' q = some (.lst (st.map akD)), ⟨_, [], [a], ⟨_, rfl⟩, rfl, by simp [szS], by simp, ?_, ?_, mset_same⟩, ?_⟩
  · exact (PD.Sub.new hp).new' (by rw [mset_ne hpq.symm] at hq; exact hq)
  · rw [mset_ne hpq]; exact mset_same
  · rintro n s' m' ⟨acc, st, ⟨c, rfl⟩, rfl, hs, e1, sb, hp2, hq2⟩
    walk_at "pd"
    refine ⟨_, truD_ref hq2, ?_⟩
    rcases List.eq_nil_or_concat st with rfl | ⟨st', b, rfl⟩
    · walk_at "pd"
      refine ⟨_, fun x o hx => ?_, h p hp⟩
      have e2 : acc = allA a := by rw [← e1]; simp
      by_cases hxp : x = p
      · subst hxp
        rw [mset_same] at hx
        rw [hp2, e2]; exact hx
      · rw [mset_ne hxp] at hx
        exact sb x o hx
    · have hne : ((st'.concat b).map akD).isEmpty = false := by rw [List.concat_eq_append, List.map_append]; simp
      rw [hne]
      rw [List.concat_eq_append] at hs e1 hq2 ⊢
      rw [szS_app] at hs
      have hb : szS [b] = sizeA b := by simp [szS]
      have hbp := size_pos b
      have hls := len_szS st'
      walk_at "pd"
      refine ⟨⟨q, _, lstOf_ref hq2⟩, q, _, akD b, lstOf_ref hq2, by simp, ?_⟩
      have hp3 : mset m' q (.lst ((st' ++ [b]).map akD).dropLast) p = some (.lst (acc.map akD)) := by rw [mset_ne hpq]; exact hp2
      refine ⟨⟨p, _, lstOf_ref hp3⟩, p, _, lstOf_ref hp3, ?_, ?_⟩
      · rw [List.length_map]
        exact Nat.lt_of_lt_of_le (by omega : _ < 1001) (by decide)
      have hq3 : mset (mset m' q (.lst ((st' ++ [b]).map akD).dropLast)) p (.lst (acc.map akD ++ [akD b])) q = some (.lst (st'.map akD)) := by
        rw [mset_ne hpq.symm, mset_same, List.map_append]
        simp
      refine ⟨⟨q, _, lstOf_ref hq3⟩, b, rfl, q, _, ((insA b).map akD).reverse, lstOf_ref hq3, rfl, ?_, ?_⟩
      · have h2 := szS_ins b
        have h3 := len_szS (insA b)
        rw [List.length_map, List.length_reverse, List.length_map]
        exact Nat.le_trans (by omega : _ ≤ 2000) (by decide)
      · have e5 : szS (st' ++ (insA b).reverse) = szS st' + szS (insA b) := by rw [szS_app, szS_rev]
        have h2 := szS_ins b
        refine ⟨_, ?_, acc ++ [b], st' ++ (insA b).reverse, ⟨_, rfl⟩, rfl, ?_, ?_, ?_, ?_, ?_⟩
        · rw [e5, szS_app, hb]; omega
        · rw [e5, List.length_append, List.length_singleton]; omega
        · rw [← e1]
          simp only [List.reverse_append, List.reverse_cons, List.reverse_nil, List.nil_append, List.reverse_reverse, List.flatMap_append, List.flatMap_cons, List.append_assoc, List.singleton_append, List.cons_append]
          rw [all_ins b, List.cons_append]
        · have hq0 : m q = none := by rw [mset_ne hpq.symm] at hq; exact hq
          exact ((sb.new' hq0).new' hp).new' hq0
        · rw [mset_ne hpq, mset_same, List.map_append]; rfl
        · rw [mset_same, List.map_append, List.map_reverse]
def sp_judges_of : SpD := fun ds m Q => ∃ a : Ak, ds = [akD a] ∧ sizeA a ≤ 1000 ∧ Q (.tup ((judgesA a).map .str)) m
theorem own_len (a : Ak) : (ownA a).length ≤ 1 := by cases a <;> simp [ownA]
theorem fm_len : ∀ l : List Ak, (l.flatMap ownA).length ≤ l.length
  | [] => Nat.le_refl _
  | a :: l => by
    have h1 := fm_len l
    have h2 := own_len a
    rw [List.flatMap_cons, List.length_append, List.length_cons]
    omega
theorem ok_judges_of  (T : Txt K mg) (G_all_asks : FnOk P w K mg base CX0 (2) T.f_all_asks T.fd_all_asks ["ask"] (spL K 1 sp_all_asks)) (G_own_judge : FnOk P w K mg base CX0 (1) T.f_own_judge T.fd_own_judge ["ask"] (spL K 1 sp_own_judge)) : FnOk P w K mg base CX0 (3) T.f_judges_of T.fd_judges_of ["ask"] (spL K 1 sp_judges_of) := by
  refine fn_ok T.F_judges_of sc_judges_of (fun cdv A outer s H E hr =>
(gss_cons (gs_set (i := 1) sc_judges_of.nd rfl (.inl rfl) (ge_lst ga_nil))
 (gss_cons (gs_for PassesOwn.never rfl (gi_seq (ge_call G_all_asks (hr.mono (by omega)) (by rfl) T.g_all_asks T.F_all_asks.kp T.b_all_asks (ga_cons (gv 0) ga_nil))) (gg_name (i := 2) sc_judges_of.nd rfl (.inl rfl))
 (gss_one (gs_expr (ge_bm PySem.F.slot_list_extend PySem.F.type_list_extend mt_extendU lm_extend (gv 1) (ga_cons (ge_call G_own_judge (hr.mono (by omega)) (by rfl) T.g_own_judge T.F_own_judge.kp T.b_own_judge (ga_cons (gv 2) ga_nil)) ga_nil)))))
 (gss_one (gs_ret (ge_callTy call_tuple_of lc_tuple (by rfl) T.z_tuple (by decide +kernel) (ga_cons (gv 1) ga_nil))))))) (fun ds m Q h => ?_)
  obtain ⟨a, rfl, hz, h⟩ := h
  rw [show startD N_judges_of [akD a] = [some (akD a), none, none] from rfl]
  walk_at "pd"
  intro p hp
  refine ⟨a, rfl, hz, fun q hq => ?_⟩
  have hpq : p ≠ q := mne hq mset_same
  have hq0 : m q = none := by rw [mset_ne hpq.symm] at hq; exact hq
  refine ⟨_, seqOf_ref mset_same, ?_⟩
  refine loop_inv (fun rem s' m' => ∃ pre post, allA a = pre ++ post ∧ rem = post.map akD ∧ (∃ c, s' = [some (akD a), some (.ref p), c]) ∧ PD.Sub m m' ∧ m' q = some (.lst ((allA a).map akD)) ∧ m' p = some (.lst ((pre.flatMap ownA).map .str))) ?_ ?_ ⟨[], allA a, rfl, rfl, ⟨_, rfl⟩, (PD.Sub.new hp).new' hq0, mset_same, by rw [mset_ne hpq]; exact mset_same⟩
  · rintro d rem s' m' R hR ⟨pre, post, e1, e2, ⟨c, rfl⟩, sb, hq2, hp2⟩
    cases post with
    | nil => cases e2
    | cons b post =>
      rw [List.map_cons] at e2
      injection e2 with e2 e5
      subst e2
      walk_at "pd"
      refine ⟨seqOf_ref hq2, ⟨p, _, lstOf_ref hp2⟩, b, rfl, p, _, (ownA b).map .str, lstOf_ref hp2, rfl, ?_, ?_⟩
      · have h1 := fm_len pre
        have h2 := own_len b
        have h3 : pre.length < (allA a).length := by rw [e1]; simp
        rw [all_len] at h3
        rw [List.length_map, List.length_map]
        exact Nat.le_trans (by omega : _ ≤ 2000) (by decide)
      · refine hR _ _ ⟨pre ++ [b], post, by rw [e1]; simp, e5, ⟨_, rfl⟩, sb.new' hp, by rw [mset_ne hpq.symm]; exact hq2, ?_⟩
        rw [mset_same, List.flatMap_append, List.map_append]
        simp
  · rintro s' m' ⟨pre, post, e1, e2, ⟨c, rfl⟩, sb, hq2, hp2⟩
    cases post with
    | cons b post => cases e2
    | nil =>
      refine ⟨seqOf_ref hq2, ?_⟩
      walk_at "pd"
      refine ⟨_, seqOf_ref hp2, m, sb, ?_⟩
      rw [List.append_nil] at e1
      rw [← e1]
      exact h
def sp_has_first : SpD := fun ds m Q => ∃ a : Ak, ds = [akD a] ∧ sizeA a ≤ 1000 ∧ Q (.int (firstsA a)) m
def fstD (d : D) : Bool := match d with | .tup [.str _] => true | _ => false
theorem fst_ak (a : Ak) : fstD (akD a) = isFst a := by cases a <;> rfl
theorem ok_has_first  (T : Txt K mg) (G_all_asks : FnOk P w K mg base CX0 (2) T.f_all_asks T.fd_all_asks ["ask"] (spL K 1 sp_all_asks)) : FnOk P w K mg base CX0 (3) T.f_has_first T.fd_has_first ["ask"] (spL K 1 sp_has_first) := by
  refine fn_ok T.F_has_first sc_has_first (fun cdv A outer s H E hr =>
(gss_one (gs_ret (ge_callB call_lenU lc_len (by rfl) T.z_len PySem.boot_len (ga_cons (ge_lc (own := [("one", 1)]) rfl sc_has_first.nd (gi_seq (ge_call G_all_asks (hr.mono (by omega)) (by rfl) T.g_all_asks T.F_all_asks.kp T.b_all_asks (ga_cons (gv 0) ga_nil))) (blkOk_by (N := N_has_first) (sc := defScope s_has_first) (by decide +kernel)) (fun _ _ _ _ _ => (gg_name (i := 1) sc_has_first.nd rfl (.inl rfl))) (fun _ _ _ _ _ => (gts_one (gt_cmpR (op_eqS hr.units) lr_eq (ge_ix (gv 1) ge_int) ge_str (nomark _)))) (fun _ _ _ _ _ => (gv 1)) (by decide)) ga_nil))))) (fun ds m Q h => ?_)
  obtain ⟨a, rfl, hz, h⟩ := h
  rw [show startD N_has_first [akD a] = [some (akD a), none] from rfl]
  walk_at "pd"
  refine ⟨a, rfl, hz, fun q hq => ?_⟩
  refine ⟨_, seqOf_ref mset_same, fun p hp => ?_⟩
  have hqp : q ≠ p := mne hp mset_same
  have hp0 : m p = none := by rw [mset_ne hqp.symm] at hp; exact hp
  refine comp_pure fstD (fun d => d) (fun _ => seqOf_ref (by rw [mset_ne hqp]; exact mset_same)) (by rw [List.length_map, all_len]; omega) (fun d hd x R1 R2 h1 h2 => ?_) ?_
  · obtain ⟨b, hb, rfl⟩ := List.mem_map.mp hd
    rw [fst_ak] at h1 h2
    cases b with
    | one w j => cases w <;> (unfold akD W1.s; walk_at "pd"; exact h2 rfl)
    | sm w n j => cases w <;> (unfold akD W2.s; walk_at "pd"; exact h2 rfl)
    | fst => unfold akD at h1 ⊢; walk_at "pd"; exact h1 rfl
    | each j b => unfold akD; walk_at "pd"; exact h2 rfl
    | two w a b => cases w <;> (unfold akD W3.s; walk_at "pd"; exact h2 rfl)
  · refine ⟨_, seqOf_ref mset_same, m, (PD.Sub.new hq).new' hp0, ?_⟩
    have e : (((allA a).map akD).filter fstD).map (fun d => d) = ((allA a).filter isFst).map akD := by
      rw [List.map_id', List.filter_map]
      congr 1
      exact congrArg (fun f => List.filter f (allA a)) (funext fun b => fst_ak b)
    rw [e, List.length_map]
    exact h
theorem judges_each (j : Str) (b : Ak) : judgesA (.each j b) = j :: judgesA b := rfl
theorem judges_two (w : W3) (a b : Ak) : judgesA (.two w a b) = judgesA a ++ judgesA b := by
  show ([] : List Str) ++ (allA a ++ allA b).flatMap ownA = _
  rw [List.flatMap_append]; rfl
theorem firsts_each (j : Str) (b : Ak) : firstsA (.each j b) = firstsA b := rfl
theorem firsts_two (w : W3) (a b : Ak) : firstsA (.two w a b) = firstsA a + firstsA b := by
  show ((allA a ++ allA b).filter isFst).length = _
  rw [List.filter_append, List.length_append]; rfl
end
end K19

set_option Elab.async false
set_option linter.all false
set_option maxRecDepth 100000
set_option maxHeartbeats 4000000
namespace K19
open PySem PySem.Spec PyProof.Rows L2 PD
local macro_rules | `(tactic| walk_at "pd") => `(tactic| simp (config := { decide := true, maxSteps := 400000 }) only [dSeq, dSet, dAsg, dgN, dRet, dRetN, dIfS, dFor, dLoop, dDrop, dNext, dVar, dC, dNil, dCons, dOp, dUn, dTest, dTru, dAnd, dOr, dNot, dAndV, dOrV, dNotV, dIfE, dTup, dLst, dCB, dCall, dBM, dBM0, dLc, dComp, dYes, dgTup, dgCons, dgNil, dgSub, dPart, dNoPart, dAug, dIsi, dEq, dNe, wipeD, endsOf,
  dAdd_i, dAdd_s, dAdd_t, dAdd_r, dSub_i, dInt2_i, dMul_i, dMul_s, dNeg_i, dCmp_i, dIsN_n, dNotN_n, dInG_t, dInG_r, dIx_s, dIx_t, dIx_r, dLen_s, dLen_t, dLen_r, dTuple_1, dList_1, dInt1_i, dTwo_i, dSl_v, dSlV_t, dSlV_r, dRev_v, dRevV_t, dRevV_r, dISeq_v, dISeqV_t, dISeqV_r, dIEnum_v, dIEnumV_t, dIEnumV_r, dPop_0, dPop_i, dAppend_1, dExtend_1, dSub3_i, dSortP_r, dIRng1_v, dRng1V_i,
  seqOf_tup, seqOf_rol, seqW_tup, eqK_ss, eqK_ii, eqK_bb, eqK_nn, eqK_ts, eqK_st, eqK_ti, eqK_is, eqK_ns, flatD_str, flatD_int, flatD_bl, flatD_non, isT_NoneType_bool, isT_NoneType_int, isT_NoneType_str, isT_NoneType_tuple, isT_NoneType_list, isT_bool_bool, isT_bool_int, isT_bool_str, isT_bool_tuple, isT_bool_list, isT_int_bool, isT_int_int, isT_int_str, isT_int_tuple, isT_int_list, isT_str_bool, isT_str_int, isT_str_str, isT_str_tuple, isT_str_list, isT_tuple_bool, isT_tuple_int, isT_tuple_str, isT_tuple_tuple, isT_tuple_list, isT_list_bool, isT_list_int, isT_list_str, isT_list_tuple, isT_list_list, isNon_non, isNon_bl, isNon_int, isNon_str, isNon_tup, tyD_non, tyD_bl, tyD_int, tyD_str, tyD_tup, truD_bl, truD_int, truD_tup,
  atI_0, atI_1, atI_2, atI_3, atI_4, atI_m1, atI_m2, atI_m3, Option.some.injEq, exists_eq_left', exists_eq_left, beq_self_eq_true, Bool.not_true, Bool.not_false, if_true, if_false, true_and, and_true, Bool.false_eq_true, ↓reduceIte,
  List.getElem?_cons_zero, List.getElem?_cons_succ, List.set_cons_zero, List.set_cons_succ, List.map_cons, List.map_nil, List.length_cons, List.length_nil, mset_same, mset_mset, List.isEmpty_nil, List.isEmpty_cons, decide_eq_true_eq, beq_iff_eq, seqI_0, List.eraseIdx_cons_zero, List.eraseIdx_cons_succ, ixN_40, ixN_41, ixN_42, ixN_43, Nat.reduceAdd])
local macro_rules | `(tactic| walk_at "ne") => `(tactic| first | assumption | exact Ne.symm (by assumption))
local macro_rules | `(tactic| walk_at "mu") => `(tactic| first | exact mset_same | assumption | exact mset_skip (by walk_at "ne") (by walk_at "mu"))
local macro_rules | `(tactic| walk_at "go") => `(tactic| repeat (first | walk_at "pd" | refine ⟨_, seqOf_ref (by walk_at "mu"), ?_⟩ | refine ⟨⟨_, _, lstOf_ref (by walk_at "mu")⟩, ?_⟩ | refine ⟨_, _, lstOf_ref (by walk_at "mu"), ?_⟩ | refine ⟨(show CMul _ _ from Or.inr ⟨by decide, by decide⟩), ?_⟩ | refine ⟨(show CDiv _ _ from ⟨by decide, by decide⟩), ?_⟩))
/-! ### the pool of drawn numbers -/
def Pool (m : Mu) (a q : Addr) : Prop := a ≠ q ∧ ∃ (xs : List Int) (b c e : Int), m a = some (.lst [.ref q, .int b, .int c, .int e]) ∧ m q = some (.lst (xs.map .int))
theorem Pool.new {m : Mu} {a q p : Addr} {o : MO} (h : Pool m a q) (hp : m p = none) : Pool (mset m p o) a q :=
  let ⟨n, xs, b, c, e, h1, h2⟩ := h
  ⟨n, xs, b, c, e, mset_new hp h1, mset_new hp h2⟩
theorem Pool.set {m : Mu} {a q p : Addr} {o : MO} (h : Pool m a q) (n1 : p ≠ a) (n2 : p ≠ q) : Pool (mset m p o) a q :=
  let ⟨n, xs, b, c, e, h1, h2⟩ := h
  ⟨n, xs, b, c, e, by rw [mset_ne n1.symm]; exact h1, by rw [mset_ne n2.symm]; exact h2⟩
theorem Pool.neA {m : Mu} {a q p : Addr} (h : Pool m a q) (hp : m p = none) : p ≠ a := let ⟨_, _, _, _, _, h1, _⟩ := h; (mne hp h1).symm
theorem Pool.neQ {m : Mu} {a q p : Addr} (h : Pool m a q) (hp : m p = none) : p ≠ q := let ⟨_, _, _, _, _, _, h2⟩ := h; (mne hp h2).symm
section
variable {P : Program} {w : World} {K : PySem.W.Frag} {mg : Str → Option Value} {base : Heap}
def sp__law_pick : SpD := fun ds m Q => ∃ (a q : Addr) (n : Int), ds = [.ref a, .int n] ∧ Pool m a q ∧ 0 < n ∧ n < 1073741824 ∧ ∀ r m', 0 ≤ r → r < n → Pool m' a q → OffS a q m m' → Q (.int r) m'
theorem ok__law_pick  (T : Txt K mg)  : FnOk P w K mg base CX0 (1) T.f__law_pick T.fd__law_pick ["pool", "many"] (spL K 2 sp__law_pick) := by
  refine fn_ok T.F__law_pick sc__law_pick (fun cdv A outer s H E hr =>
(gss_cons (gs_if (gw_and (gt_cmpR (op_eqS hr.units) lr_eq (ge_ix (gv 0) ge_int) ge_int (nomark _)) (gw_and1 (gt_cmpR op_gt lr_cmp (ge_callB call_lenU lc_len (by rfl) T.z_len PySem.boot_len (ga_cons (ge_ix (gv 0) ge_int) ga_nil)) ge_int (nomark _)))).gt
 (gss_cons (gs_set (i := 2) sc__law_pick.nd rfl (.inl rfl) (ge_callTy call_int1 lc_int (by rfl) T.z_int (by decide +kernel) (ga_cons (ge_bm PySem.F.slot_list_pop PySem.F.type_list_pop mt_popU lm_pop (ge_ix (gv 0) ge_int) (ga_cons ge_int ga_nil)) ga_nil)))
 (gss_cons (gs_if (gt_cmpR op_lt lr_cmp (gv 2) ge_int (nomark _))
 (gss_cons (gs_set (i := 2) sc__law_pick.nd rfl (.inl rfl) (ge_op op_sub lr_sub ge_int (gv 2)))
 (gss_one (gs_asg (ge_op op_addU lr_add (ge_ix (gv 0) ge_int) ge_int) (gg_sub (gv 0) ge_int))))
 gss_nil)
 (gss_one (gs_if (gt_cmpR op_ge lr_cmp (gv 2) ge_int (nomark _))
 (gss_one (gs_asg (gv 2) (gg_sub (gv 0) ge_int)))
 (gss_one (gs_asg (ge_op op_mod lr_int2 (ge_callTy call_int1 lc_int (by rfl) T.z_int (by decide +kernel) (ga_cons (ge_op op_addU lr_add (ge_op op_addU lr_add (ge_op op_mulU lr_mul (ge_ix (gv 0) ge_int) ge_int) (ge_op op_mulU lr_mul (gv 2) ge_int)) ge_int) ga_nil)) ge_int) (gg_sub (gv 0) ge_int)))))))
 gss_nil)
 (gss_cons (gs_if (gt_cmpR op_gt lr_cmp (ge_ix (gv 0) ge_int) ge_int (nomark _))
 (gss_cons (gs_set (i := 3) sc__law_pick.nd rfl (.inl rfl) (ge_op op_mod lr_int2 (ge_callTy call_int1 lc_int (by rfl) T.z_int (by decide +kernel) (ga_cons (ge_ix (gv 0) ge_int) ga_nil)) (gv 1)))
 (gss_cons (gs_asg (ge_op op_fdiv lr_int2 (ge_ix (gv 0) ge_int) (gv 1)) (gg_sub (gv 0) ge_int))
 (gss_one (gs_ret (gv 3)))))
 gss_nil)
 (gss_cons (gs_asg (ge_op op_addU lr_add (ge_ix (gv 0) ge_int) ge_int) (gg_sub (gv 0) ge_int))
 (gss_cons (gs_asg (ge_op op_mod lr_int2 (ge_callTy call_int1 lc_int (by rfl) T.z_int (by decide +kernel) (ga_cons (ge_op op_addU lr_add (ge_op op_addU lr_add (ge_op op_mulU lr_mul (ge_ix (gv 0) ge_int) ge_int) (ge_op op_mulU lr_mul (ge_ix (gv 0) ge_int) ge_int)) ge_int) ga_nil)) ge_int) (gg_sub (gv 0) ge_int))
 (gss_one (gs_ret (ge_op op_mod lr_int2 (ge_callTy call_int1 lc_int (by rfl) T.z_int (by decide +kernel) (ga_cons (ge_op op_fdiv lr_int2 (ge_ix (gv 0) ge_int) ge_int) ga_nil)) (gv 1))))))))) (fun ds m Q h => ?_)
  obtain ⟨a, q, n, rfl, ⟨hne, xs, b, c, e, ha, hq⟩, hn0, hn1, h⟩ := h
  rw [show startD N__law_pick [.ref a, .int n] = [some (.ref a), some (.int n), none, none] from rfl]
  refine seq_cut (fun s' m' => (∃ u v, s' = [some (.ref a), some (.int n), u, v]) ∧ Pool m' a q ∧ OffS a q m m') (fun R hR => ?_) ?_
  · have h0 : ∀ u v, R [some (.ref a), some (.int n), u, v] m := fun u v => hR _ _ ⟨⟨_, _, rfl⟩, ⟨hne, xs, b, c, e, ha, hq⟩, .refl a q m⟩
    walk_at "go"
    split
    · walk_at "go"
      cases xs with
      | nil =>
        walk_at "go"
        exact h0 _ _
      | cons x xs =>
        walk_at "go"
        rw [if_pos (by omega)]
        walk_at "go"
        have leaf : ∀ (x b' c' : Int), R [some (.ref a), some (.int n), some (.int x), none] (mset (mset m q (.lst (xs.map .int))) a (.lst [.ref q, .int b', .int c', .int e])) := fun x b' c' =>
          hR _ _ ⟨⟨_, _, rfl⟩, ⟨hne, xs, b', c', e, mset_same, mset_skip hne.symm mset_same⟩, (OffS.refl a q m).setQ.setA⟩
        split
        · walk_at "go"
          split
          · walk_at "go"
            exact leaf _ _ _
          · walk_at "go"
            exact leaf _ _ _
        · split
          · walk_at "go"
            exact leaf _ _ _
          · walk_at "go"
            exact leaf _ _ _
    · exact h0 _ _
  · rintro s' m' ⟨⟨u, v, rfl⟩, ⟨_, xs, b, c, e, ha, hq⟩, ho⟩
    walk_at "go"
    have leaf : ∀ (r b' c' e' : Int), 0 ≤ r → r < n → Q (.int r) (mset m' a (.lst [.ref q, .int b', .int c', .int e'])) := fun r b' c' e' h1 h2 =>
      h r _ h1 h2 ⟨hne, xs, b', c', e', mset_same, mset_skip hne.symm hq⟩ ho.setA
    split
    · walk_at "go"
      refine ⟨hn0, ?_⟩
      walk_at "go"
      refine ⟨⟨hn0, hn1⟩, ?_⟩
      walk_at "go"
      exact sub_refl_fin (leaf _ _ _ _ (Int.emod_nonneg _ (by omega)) (Int.emod_lt_of_pos _ hn0))
    · walk_at "go"
      refine ⟨hn0, ?_⟩
      walk_at "go"
      exact sub_refl_fin (leaf _ _ _ _ (Int.emod_nonneg _ (by omega)) (Int.emod_lt_of_pos _ hn0))
end
end K19

set_option Elab.async false
set_option linter.all false
set_option maxRecDepth 100000
set_option maxHeartbeats 4000000
namespace K19
open PySem PySem.Spec PyProof.Rows L2 PD
local macro_rules | `(tactic| walk_at "pd") => `(tactic| simp (config := { decide := true, maxSteps := 400000 }) only [dSeq, dSet, dAsg, dgN, dRet, dRetN, dIfS, dFor, dLoop, dDrop, dNext, dVar, dC, dNil, dCons, dOp, dUn, dTest, dTru, dAnd, dOr, dNot, dAndV, dOrV, dNotV, dIfE, dTup, dLst, dCB, dCall, dBM, dBM0, dLc, dComp, dYes, dgTup, dgCons, dgNil, dgSub, dPart, dNoPart, dAug, dIsi, dEq, dNe, wipeD, endsOf,
  dAdd_i, dAdd_s, dAdd_t, dAdd_r, dSub_i, dInt2_i, dMul_i, dMul_s, dNeg_i, dCmp_i, dIsN_n, dNotN_n, dInG_t, dInG_r, dIx_s, dIx_t, dIx_r, dLen_s, dLen_t, dLen_r, dTuple_1, dList_1, dInt1_i, dTwo_i, dSl_v, dSlV_t, dSlV_r, dRev_v, dRevV_t, dRevV_r, dISeq_v, dISeqV_t, dISeqV_r, dIEnum_v, dIEnumV_t, dIEnumV_r, dPop_0, dPop_i, dAppend_1, dExtend_1, dSub3_i, dSortP_r, dIRng1_v, dRng1V_i,
  seqOf_tup, seqOf_rol, seqW_tup, eqK_ss, eqK_ii, eqK_bb, eqK_nn, eqK_ts, eqK_st, eqK_ti, eqK_is, eqK_ns, flatD_str, flatD_int, flatD_bl, flatD_non, isT_NoneType_bool, isT_NoneType_int, isT_NoneType_str, isT_NoneType_tuple, isT_NoneType_list, isT_bool_bool, isT_bool_int, isT_bool_str, isT_bool_tuple, isT_bool_list, isT_int_bool, isT_int_int, isT_int_str, isT_int_tuple, isT_int_list, isT_str_bool, isT_str_int, isT_str_str, isT_str_tuple, isT_str_list, isT_tuple_bool, isT_tuple_int, isT_tuple_str, isT_tuple_tuple, isT_tuple_list, isT_list_bool, isT_list_int, isT_list_str, isT_list_tuple, isT_list_list, isNon_non, isNon_bl, isNon_int, isNon_str, isNon_tup, tyD_non, tyD_bl, tyD_int, tyD_str, tyD_tup, truD_bl, truD_int, truD_tup,
  atI_0, atI_1, atI_2, atI_3, atI_4, atI_m1, atI_m2, atI_m3, Option.some.injEq, exists_eq_left', exists_eq_left, beq_self_eq_true, Bool.not_true, Bool.not_false, if_true, if_false, true_and, and_true, Bool.false_eq_true, ↓reduceIte,
  List.getElem?_cons_zero, List.getElem?_cons_succ, List.set_cons_zero, List.set_cons_succ, List.map_cons, List.map_nil, List.length_cons, List.length_nil, mset_same, mset_mset, List.isEmpty_nil, List.isEmpty_cons, decide_eq_true_eq, beq_iff_eq, seqI_0, List.eraseIdx_cons_zero, List.eraseIdx_cons_succ, ixN_40, ixN_41, ixN_42, ixN_43, Nat.reduceAdd])
local macro_rules | `(tactic| walk_at "ne") => `(tactic| first | assumption | exact Ne.symm (by assumption))
local macro_rules | `(tactic| walk_at "mu") => `(tactic| first | exact mset_same | assumption | exact mset_skip (by walk_at "ne") (by walk_at "mu"))
local macro_rules | `(tactic| walk_at "go") => `(tactic| repeat (first | walk_at "pd" | refine ⟨_, seqOf_ref (by walk_at "mu"), ?_⟩ | refine ⟨⟨_, _, lstOf_ref (by walk_at "mu")⟩, ?_⟩ | refine ⟨_, _, lstOf_ref (by walk_at "mu"), ?_⟩ | refine ⟨(show CMul _ _ from Or.inr ⟨by decide, by decide⟩), ?_⟩ | refine ⟨(show CDiv _ _ from ⟨by decide, by decide⟩), ?_⟩))
/-! ### the same, of one kind -/
def OkS : Nat → D → Prop
  | 0, d => flatD d = true
  | n + 1, d => flatD d = true ∨ ∃ ds, d = .tup ds ∧ ds.length ≤ 1000 ∧ ∀ x ∈ ds, OkS n x
theorem OkS.flat {n : Nat} {d : D} (h : flatD d = true) : OkS n d := by
  cases n with
  | zero => exact h
  | succ n => exact .inl h
theorem OkS.tup {n : Nat} {ds : List D} (h : ds.length ≤ 1000) (h2 : ∀ x ∈ ds, OkS n x) : OkS (n + 1) (.tup ds) := .inr ⟨ds, rfl, h, h2⟩
def sp_same (n : Nat) : SpD := fun ds m Q => ∃ d, ds = [d, d] ∧ OkS n d ∧ Q (.bl true) m
section
variable {P : Program} {w : World} {K : PySem.W.Frag} {mg : Str → Option Value} {base : Heap}
theorem same_turn {k j : Nat} {sq : SpD} {n : Nat} (hkj : j ≤ k) (T : Txt K mg) (hs : ∀ d m Q, n = 0 ∨ OkS (n - 1) d → 0 < n → Q (.bl true) m → sq [d, d] m Q) (G__law_same : FnOk P w K mg base CX0 j T.f__law_same T.fd__law_same ["told", "due"] (spL K 2 sq)) :
    FnOk P w K mg base CX0 (k + 1) T.f__law_same T.fd__law_same ["told", "due"] (spL K 2 (sp_same n)) := by
  refine fn_ok T.F__law_same sc__law_same (fun cdv A outer s H E hr =>
(gss_cons (gs_if (gt_cmpR op_isN lr_isN (gv 1) ge_non (nomark _))
 (gss_one (gs_ret (ge_cmpR op_isN lr_isN (gv 0) ge_non (nomark _))))
 gss_nil)
 (gss_cons (gs_if (gt_val (ge_isi (T := "bool") rfl (by rfl) T.z_isinstance (gv 1) (by rfl) T.z_bool (by decide +kernel)))
 (gss_one (gs_ret (ge_and (ge_isi (T := "bool") rfl (by rfl) T.z_isinstance (gv 0) (by rfl) T.z_bool (by decide +kernel)) (ge_one (ge_cmpR (op_eqS hr.units) lr_eq (gv 0) (gv 1) (nomark _))))))
 gss_nil)
 (gss_cons (gs_if (gt_val (ge_isi (T := "int") rfl (by rfl) T.z_isinstance (gv 1) (by rfl) T.z_int (by decide +kernel)))
 (gss_one (gs_ret (ge_and (ge_isi (T := "int") rfl (by rfl) T.z_isinstance (gv 0) (by rfl) T.z_int (by decide +kernel)) (ge_and (ge_not (ge_isi (T := "bool") rfl (by rfl) T.z_isinstance (gv 0) (by rfl) T.z_bool (by decide +kernel))) (ge_one (ge_cmpR (op_eqS hr.units) lr_eq (gv 0) (gv 1) (nomark _)))))))
 gss_nil)
 (gss_cons (gs_if (gt_val (ge_isi (T := "str") rfl (by rfl) T.z_isinstance (gv 1) (by rfl) T.z_str (by decide +kernel)))
 (gss_one (gs_ret (ge_and (ge_isi (T := "str") rfl (by rfl) T.z_isinstance (gv 0) (by rfl) T.z_str (by decide +kernel)) (ge_one (ge_cmpR (op_eqS hr.units) lr_eq (gv 0) (gv 1) (nomark _))))))
 gss_nil)
 (gss_cons (gs_if (gw_or (gt_not (gt_val (ge_isi (T := "tuple") rfl (by rfl) T.z_isinstance (gv 1) (by rfl) T.z_tuple (by decide +kernel)))) (gw_or (gt_not (gt_val (ge_isi (T := "tuple") rfl (by rfl) T.z_isinstance (gv 0) (by rfl) T.z_tuple (by decide +kernel)))) (gw_or1 (gt_cmpR (op_neS hr.units) lr_ne (ge_callB call_lenU lc_len (by rfl) T.z_len PySem.boot_len (ga_cons (gv 0) ga_nil)) (ge_callB call_lenU lc_len (by rfl) T.z_len PySem.boot_len (ga_cons (gv 1) ga_nil)) (nomark _))))).gt
 (gss_one (gs_ret ge_bl))
 gss_nil)
 (gss_cons (gs_for PassesOwn.never rfl (gi_rng1 (by rfl) T.z_range (ga_cons (ge_callB call_lenU lc_len (by rfl) T.z_len PySem.boot_len (ga_cons (gv 1) ga_nil)) ga_nil)) (gg_name (i := 2) sc__law_same.nd rfl (.inl rfl))
 (gss_one (gs_if (gt_not (gt_val (ge_call G__law_same (hr.mono (by omega)) (by rfl) T.g__law_same T.F__law_same.kp T.b__law_same (ga_cons (ge_ix (gv 0) (gv 2)) (ga_cons (ge_ix (gv 1) (gv 2)) ga_nil)))))
 (gss_one (gs_ret ge_bl))
 gss_nil)))
 (gss_one (gs_ret ge_bl))))))))) (fun ds m Q h => ?_)
  obtain ⟨d, rfl, hd, h⟩ := h
  rw [show startD N__law_same [d, d] = [some (d), some (d), none] from rfl]
  cases d with
  | non => walk_at "go"; exact sub_refl_fin h
  | bl b => walk_at "go"; exact sub_refl_fin h
  | int b => walk_at "go"; exact sub_refl_fin h
  | str b => walk_at "go"; exact sub_refl_fin h
  | ref a => cases n with
    | zero => exact absurd hd Bool.false_ne_true
    | succ n => rcases hd with hd | ⟨_, e, _⟩; exact absurd hd Bool.false_ne_true; cases e
  | rol a => cases n with
    | zero => exact absurd hd Bool.false_ne_true
    | succ n => rcases hd with hd | ⟨_, e, _⟩; exact absurd hd Bool.false_ne_true; cases e
  | tup xs =>
    cases n with
    | zero => exact absurd hd Bool.false_ne_true
    | succ n =>
      rcases hd with hd | ⟨ds, e, hl, hd⟩
      · exact absurd hd Bool.false_ne_true
      · cases e
        walk_at "go"
        refine ⟨by omega, by omega, ?_⟩
        rw [Int.toNat_natCast]
        refine loop_range (fun i s' m' => (∃ c, s' = [some (.tup xs), some (.tup xs), c]) ∧ m' = m) (fun i s' m' R hi hR ⟨⟨c, e⟩, e2⟩ => ?_) (fun s' m' ⟨⟨c, e⟩, e2⟩ => ?_) ⟨⟨_, rfl⟩, rfl⟩
        · subst e e2
          walk_at "go"
          refine ⟨_, atI_getD hi, _, atI_getD hi, ?_⟩
          refine hs _ _ _ (.inr (hd _ (List.getElem_mem hi))) (Nat.succ_pos _) ?_
          walk_at "go"
          exact hR _ _ ⟨⟨_, rfl⟩, rfl⟩
        · subst e e2
          walk_at "go"
          exact sub_refl_fin h
theorem same_all (T : Txt K mg) : ∀ n : Nat, FnOk P w K mg base CX0 (n + 1) T.f__law_same T.fd__law_same ["told", "due"] (spL K 2 (sp_same n))
  | 0 => same_turn (j := 0) (k := 0) (n := 0) (Nat.le_refl _) T (fun _ _ _ _ h _ => absurd h (Nat.lt_irrefl 0)) FnOk_falso
  | n + 1 => same_turn (j := n + 1) (k := n + 1) (n := n + 1) (Nat.le_refl _) T (fun d m Q h1 _ h => ⟨d, rfl, by rcases h1 with h1 | h1; cases h1; exact h1, h⟩) (same_all T n)
end
end K19

set_option Elab.async false
set_option linter.all false
set_option maxRecDepth 100000
set_option maxHeartbeats 4000000
namespace K19
open PySem PySem.Spec PyProof.Rows L2 PD
local macro_rules | `(tactic| walk_at "pd") => `(tactic| simp (config := { decide := true, maxSteps := 400000 }) only [dSeq, dSet, dAsg, dgN, dRet, dRetN, dIfS, dFor, dLoop, dDrop, dNext, dVar, dC, dNil, dCons, dOp, dUn, dTest, dTru, dAnd, dOr, dNot, dAndV, dOrV, dNotV, dIfE, dTup, dLst, dCB, dCall, dBM, dBM0, dLc, dComp, dYes, dgTup, dgCons, dgNil, dgSub, dPart, dNoPart, dAug, dIsi, dEq, dNe, wipeD, endsOf,
  dAdd_i, dAdd_s, dAdd_t, dAdd_r, dSub_i, dInt2_i, dMul_i, dMul_s, dNeg_i, dCmp_i, dIsN_n, dNotN_n, dInG_t, dInG_r, dIx_s, dIx_t, dIx_r, dLen_s, dLen_t, dLen_r, dTuple_1, dList_1, dInt1_i, dTwo_i, dSl_v, dSlV_t, dSlV_r, dRev_v, dRevV_t, dRevV_r, dISeq_v, dISeqV_t, dISeqV_r, dIEnum_v, dIEnumV_t, dIEnumV_r, dPop_0, dPop_i, dAppend_1, dExtend_1, dSub3_i, dSortP_r, dIRng1_v, dRng1V_i,
  seqOf_tup, seqOf_rol, seqW_tup, eqK_ss, eqK_ii, eqK_bb, eqK_nn, eqK_ts, eqK_st, eqK_ti, eqK_is, eqK_ns, flatD_str, flatD_int, flatD_bl, flatD_non, isT_NoneType_bool, isT_NoneType_int, isT_NoneType_str, isT_NoneType_tuple, isT_NoneType_list, isT_bool_bool, isT_bool_int, isT_bool_str, isT_bool_tuple, isT_bool_list, isT_int_bool, isT_int_int, isT_int_str, isT_int_tuple, isT_int_list, isT_str_bool, isT_str_int, isT_str_str, isT_str_tuple, isT_str_list, isT_tuple_bool, isT_tuple_int, isT_tuple_str, isT_tuple_tuple, isT_tuple_list, isT_list_bool, isT_list_int, isT_list_str, isT_list_tuple, isT_list_list, isNon_non, isNon_bl, isNon_int, isNon_str, isNon_tup, tyD_non, tyD_bl, tyD_int, tyD_str, tyD_tup, truD_bl, truD_int, truD_tup,
  atI_0, atI_1, atI_2, atI_3, atI_4, atI_m1, atI_m2, atI_m3, Option.some.injEq, exists_eq_left', exists_eq_left, beq_self_eq_true, Bool.not_true, Bool.not_false, if_true, if_false, true_and, and_true, Bool.false_eq_true, ↓reduceIte,
  List.getElem?_cons_zero, List.getElem?_cons_succ, List.set_cons_zero, List.set_cons_succ, List.map_cons, List.map_nil, List.length_cons, List.length_nil, mset_same, mset_mset, List.isEmpty_nil, List.isEmpty_cons, decide_eq_true_eq, beq_iff_eq, seqI_0, List.eraseIdx_cons_zero, List.eraseIdx_cons_succ, ixN_40, ixN_41, ixN_42, ixN_43, Nat.reduceAdd])
local macro_rules | `(tactic| walk_at "ne") => `(tactic| first | assumption | exact Ne.symm (by assumption))
local macro_rules | `(tactic| walk_at "mu") => `(tactic| first | exact mset_same | assumption | exact mset_skip (by walk_at "ne") (by walk_at "mu"))
local macro_rules | `(tactic| walk_at "go") => `(tactic| repeat (first | walk_at "pd" | refine ⟨_, seqOf_ref (by walk_at "mu"), ?_⟩ | refine ⟨⟨_, _, lstOf_ref (by walk_at "mu")⟩, ?_⟩ | refine ⟨_, _, lstOf_ref (by walk_at "mu"), ?_⟩ | refine ⟨(show CMul _ _ from Or.inr ⟨by decide, by decide⟩), ?_⟩ | refine ⟨(show CDiv _ _ from ⟨by decide, by decide⟩), ?_⟩))
section
variable {P : Program} {w : World} {K : PySem.W.Frag} {mg : Str → Option Value} {base : Heap}
def Words (m : Mu) (p : Addr) : Prop := ∃ x y z : Str, m p = some (.lst [.str x, .str y, .str z])
def sp__law_words : SpD := fun ds m Q => ∃ a q, ds = [.ref a] ∧ Pool m a q ∧ ∀ p m', m p = none → p ≠ a → p ≠ q → Words m' p → Pool m' a q → OffS a q m m' → Q (.ref p) m'
theorem small10 {n : Nat} (h : n ≤ 100) : n ≤ sizeLine := Nat.le_trans h (by decide)
theorem ok__law_words  (T : Txt K mg) (G__law_pick : FnOk P w K mg base CX0 (1) T.f__law_pick T.fd__law_pick ["pool", "many"] (spL K 2 sp__law_pick)) : FnOk P w K mg base CX0 (2) T.f__law_words T.fd__law_words ["pool"] (spL K 1 sp__law_words) := by
  refine fn_ok T.F__law_words sc__law_words (fun cdv A outer s H E hr =>
(gss_cons (gs_if (gt_cmpR (op_eqS hr.units) lr_eq (ge_call G__law_pick (hr.mono (by omega)) (by rfl) T.g__law_pick T.F__law_pick.kp T.b__law_pick (ga_cons (gv 0) (ga_cons ge_int ga_nil))) ge_int (nomark _))
 (gss_cons (gs_set (i := 3) sc__law_words.nd rfl (.inl rfl) (ge_ix ge_str (ge_call G__law_pick (hr.mono (by omega)) (by rfl) T.g__law_pick T.F__law_pick.kp T.b__law_pick (ga_cons (gv 0) (ga_cons ge_int ga_nil)))))
 (gss_one (gs_ret (ge_lst (ga_cons (gv 3) (ga_cons (ge_op op_mulU lr_mul (gv 3) (ge_op op_addU lr_add ge_int (ge_call G__law_pick (hr.mono (by omega)) (by rfl) T.g__law_pick T.F__law_pick.kp T.b__law_pick (ga_cons (gv 0) (ga_cons ge_int ga_nil))))) (ga_cons (ge_op op_mulU lr_mul (gv 3) (ge_op op_addU lr_add ge_int (ge_call G__law_pick (hr.mono (by omega)) (by rfl) T.g__law_pick T.F__law_pick.kp T.b__law_pick (ga_cons (gv 0) (ga_cons ge_int ga_nil))))) ga_nil)))))))
 gss_nil)
 (gss_cons (gs_set (i := 1) sc__law_words.nd rfl (.inl rfl) (ge_op op_mulU lr_mul (ge_ix ge_str (ge_call G__law_pick (hr.mono (by omega)) (by rfl) T.g__law_pick T.F__law_pick.kp T.b__law_pick (ga_cons (gv 0) (ga_cons ge_int ga_nil)))) (ge_op op_addU lr_add ge_int (ge_call G__law_pick (hr.mono (by omega)) (by rfl) T.g__law_pick T.F__law_pick.kp T.b__law_pick (ga_cons (gv 0) (ga_cons ge_int ga_nil))))))
 (gss_cons (gs_set (i := 2) sc__law_words.nd rfl (.inl rfl) (ge_op op_mulU lr_mul (ge_ix ge_str (ge_call G__law_pick (hr.mono (by omega)) (by rfl) T.g__law_pick T.F__law_pick.kp T.b__law_pick (ga_cons (gv 0) (ga_cons ge_int ga_nil)))) (ge_call G__law_pick (hr.mono (by omega)) (by rfl) T.g__law_pick T.F__law_pick.kp T.b__law_pick (ga_cons (gv 0) (ga_cons ge_int ga_nil)))))
 (gss_one (gs_ret (ge_lst (ga_cons (ge_op op_addU lr_add (ge_op op_addU lr_add (gv 1) ge_str) (gv 2)) (ga_cons (ge_op op_addU lr_add (ge_op op_addU lr_add (gv 1) ge_str) (gv 2)) (ga_cons (ge_op op_addU lr_add (ge_op op_addU lr_add (gv 1) ge_str) (gv 2)) ga_nil)))))))))) (fun ds m Q h => ?_)
  obtain ⟨a, q, rfl, hP, h⟩ := h
  rw [show startD N__law_words [.ref a] = [some (.ref a), none, none, none] from rfl]
  walk_at "go"
  refine ⟨_, _, _, rfl, by assumption, by omega, by omega, fun r1 m1 r1_0 r1_1 P1 O1 => ?_⟩
  walk_at "go"
  have l1 : ∀ c : Nat, (⟨#[c]⟩ : Str).length = 1 := fun _ => rfl
  split
  · refine ⟨_, _, _, rfl, by assumption, by omega, by omega, fun r2 m2 r2_0 r2_1 P2 O2 => ?_⟩
    walk_at "go"
    obtain ⟨c, hc, _⟩ := atI_ex (xs := (Str.ofString "bcdfgk").cps.toList) r2_0 (by exact r2_1)
    refine ⟨c, hc, ?_⟩
    walk_at "go"
    refine ⟨_, _, _, rfl, by assumption, by omega, by omega, fun r3 m3 r3_0 r3_1 P3 O3 => ?_⟩
    walk_at "go"
    refine ⟨by omega, by omega, by rw [l1]; omega, ?_⟩
    walk_at "go"
    refine ⟨_, _, _, rfl, by assumption, by omega, by omega, fun r4 m4 r4_0 r4_1 P4 O4 => ?_⟩
    walk_at "go"
    refine ⟨by omega, by omega, by rw [l1]; omega, ?_⟩
    walk_at "go"
    intro p hp
    refine sub_refl_fin (h p _ ?_ (P4.neA hp) (P4.neQ hp) ⟨_, _, _, mset_same⟩ (P4.new hp) ((((O1.trans O2).trans O3).trans O4).new hp))
    cases e : m p with
    | none => rfl
    | some o => exact absurd ((((O1.trans O2).trans O3).trans O4) p o (P4.neA hp) (P4.neQ hp) e) (by rw [hp]; intro z; cases z)
  · walk_at "go"
    refine ⟨_, _, _, rfl, by assumption, by omega, by omega, fun r2 m2 r2_0 r2_1 P2 O2 => ?_⟩
    walk_at "go"
    obtain ⟨c, hc, _⟩ := atI_ex (xs := (Str.ofString "hmp").cps.toList) r2_0 (by exact r2_1)
    refine ⟨c, hc, ?_⟩
    walk_at "go"
    refine ⟨_, _, _, rfl, by assumption, by omega, by omega, fun r3 m3 r3_0 r3_1 P3 O3 => ?_⟩
    walk_at "go"
    refine ⟨by omega, by omega, by rw [l1]; omega, ?_⟩
    walk_at "go"
    refine ⟨_, _, _, rfl, by assumption, by omega, by omega, fun r4 m4 r4_0 r4_1 P4 O4 => ?_⟩
    walk_at "go"
    obtain ⟨d, hd, _⟩ := atI_ex (xs := (Str.ofString "vw3").cps.toList) r4_0 (by exact r4_1)
    refine ⟨d, hd, ?_⟩
    walk_at "go"
    refine ⟨_, _, _, rfl, by assumption, by omega, by omega, fun r5 m5 r5_0 r5_1 P5 O5 => ?_⟩
    walk_at "go"
    refine ⟨by omega, by omega, by rw [l1]; omega, ?_⟩
    walk_at "go"
    have e1 : (1 + r3).toNat ≤ 5 := by omega
    have e2 : r5.toNat ≤ 5 := by omega
    have c1 : (Str.ofString "c").length = 1 := rfl
    have c2 : (Str.ofString "7").length = 1 := rfl
    have c3 : (Str.ofString "q").length = 1 := rfl
    have z1 : (repS ⟨#[c]⟩ (1 + r3).toNat).length ≤ 5 := by rw [repS_len, l1]; omega
    have z2 : (repS ⟨#[d]⟩ r5.toNat).length ≤ 5 := by rw [repS_len, l1]; omega
    refine ⟨small10 (by rw [c1]; omega), small10 (by rw [slen_app, c1]; omega), small10 (by rw [c2]; omega), small10 (by rw [slen_app, c2]; omega), small10 (by rw [c3]; omega), small10 (by rw [slen_app, c3]; omega), ?_⟩
    intro p hp
    refine sub_refl_fin (h p _ ?_ (P5.neA hp) (P5.neQ hp) ⟨_, _, _, mset_same⟩ (P5.new hp) (((((O1.trans O2).trans O3).trans O4).trans O5).new hp))
    cases e : m p with
    | none => rfl
    | some o => exact absurd (((((O1.trans O2).trans O3).trans O4).trans O5) p o (P5.neA hp) (P5.neQ hp) e) (by rw [hp]; intro z; cases z)
def isMark (x : Str) : Prop := x = "sign" ∨ x = "none" ∨ x = "run"
def sp__law_mark : SpD := fun ds m Q => ∃ a q x, ds = [.ref a, .str x] ∧ isMark x ∧ Pool m a q ∧ ∀ rest m', Pool m' a q → OffS a q m m' → Q (mkD (x, rest)) m'
theorem ok__law_mark  (T : Txt K mg) (G__law_pick : FnOk P w K mg base CX0 (1) T.f__law_pick T.fd__law_pick ["pool", "many"] (spL K 2 sp__law_pick)) : FnOk P w K mg base CX0 (2) T.f__law_mark T.fd__law_mark ["pool", "word"] (spL K 2 sp__law_mark) := by
  refine fn_ok T.F__law_mark sc__law_mark (fun cdv A outer s H E hr =>
(gss_cons (gs_if (gt_cmpR (op_eqS hr.units) lr_eq (gv 1) ge_str (nomark _))
 (gss_one (gs_ret (ge_tup (ga_cons ge_str (ga_cons (ge_ix (ge_lst (ga_cons ge_str (ga_cons ge_str (ga_cons ge_str (ga_cons ge_str (ga_cons ge_str (ga_cons ge_str ga_nil))))))) (ge_call G__law_pick (hr.mono (by omega)) (by rfl) T.g__law_pick T.F__law_pick.kp T.b__law_pick (ga_cons (gv 0) (ga_cons ge_int ga_nil)))) ga_nil)))))
 gss_nil)
 (gss_cons (gs_if (gt_cmpR (op_eqS hr.units) lr_eq (gv 1) ge_str (nomark _))
 (gss_one (gs_ret (ge_tup (ga_cons ge_str ga_nil))))
 gss_nil)
 (gss_cons (gs_set (i := 2) sc__law_mark.nd rfl (.inl rfl) (ge_ix (ge_lst (ga_cons ge_int (ga_cons ge_int (ga_cons ge_int (ga_cons ge_int (ga_cons ge_int ga_nil)))))) (ge_call G__law_pick (hr.mono (by omega)) (by rfl) T.g__law_pick T.F__law_pick.kp T.b__law_pick (ga_cons (gv 0) (ga_cons ge_int ga_nil)))))
 (gss_one (gs_ret (ge_tup (ga_cons ge_str (ga_cons (gv 2) (ga_cons (ge_ix (ge_lst (ga_cons ge_non (ga_cons (gv 2) (ga_cons ge_int (ga_cons (ge_callB (call_min2 rfl) lc_two (by rfl) T.z_min (by decide +kernel) (ga_cons ge_int (ga_cons (ge_op op_addU lr_add (gv 2) ge_int) ga_nil))) ga_nil))))) (ge_call G__law_pick (hr.mono (by omega)) (by rfl) T.g__law_pick T.F__law_pick.kp T.b__law_pick (ga_cons (gv 0) (ga_cons ge_int ga_nil)))) ga_nil)))))))))) (fun ds m Q h => ?_)
  obtain ⟨a, q, x, rfl, hx, hP, h⟩ := h
  rw [show startD N__law_mark [.ref a, .str x] = [some (.ref a), some (.str x), none] from rfl]
  unfold mkD at h
  rcases hx with rfl | rfl | rfl
  · walk_at "go"
    intro p hp
    have P0 : Pool (mset m p (.lst [.str "", .str "a", .str "ba", .str "cab", .str "dcba", .str "fedcba"])) a q := hP.new hp
    refine ⟨_, _, _, rfl, by assumption, by omega, by omega, fun r1 m1 r1_0 r1_1 P1 O1 => ?_⟩
    walk_at "go"
    have h1 := O1 p _ (hP.neA hp) (hP.neQ hp) mset_same
    refine ⟨_, seqOf_ref h1, ?_⟩
    obtain ⟨v, hv, _⟩ := atI_ex (xs := [D.str "", .str "a", .str "ba", .str "cab", .str "dcba", .str "fedcba"]) r1_0 (by exact r1_1)
    refine ⟨v, hv, ?_⟩
    walk_at "go"
    exact sub_refl_fin (h _ _ P1 (((OffS.refl a q m).new hp).trans O1))
  · walk_at "go"
    exact sub_refl_fin (h [] _ hP (.refl _ _ _))
  · walk_at "go"
    intro p hp
    have P0 : Pool (mset m p (.lst [.int 0, .int 1, .int 2, .int 80, .int 79])) a q := hP.new hp
    refine ⟨_, _, _, rfl, by assumption, by omega, by omega, fun r1 m1 r1_0 r1_1 P1 O1 => ?_⟩
    walk_at "go"
    have h1 := O1 p _ (hP.neA hp) (hP.neQ hp) mset_same
    refine ⟨_, seqOf_ref h1, ?_⟩
    obtain ⟨v, hv, hm⟩ := atI_ex (xs := [D.int 0, .int 1, .int 2, .int 80, .int 79]) r1_0 (by exact r1_1)
    refine ⟨v, hv, ?_⟩
    have hi : ∃ i : Int, v = .int i := by
      simp only [List.mem_cons, List.not_mem_nil, or_false] at hm
      rcases hm with e | e | e | e | e <;> exact ⟨_, e⟩
    obtain ⟨i, rfl⟩ := hi
    walk_at "go"
    intro p2 hp2
    have P2' := P1.new (o := .lst [.non, .int i, .int 80, .int (if i + 3 < 80 then i + 3 else 80)]) hp2
    refine ⟨_, _, _, rfl, by assumption, by omega, by omega, fun r2 m2 r2_0 r2_1 P2 O2 => ?_⟩
    walk_at "go"
    have h2 := O2 p2 _ (P1.neA hp2) (P1.neQ hp2) mset_same
    refine ⟨_, seqOf_ref h2, ?_⟩
    obtain ⟨u, hu, _⟩ := atI_ex (xs := [D.non, .int i, .int 80, .int (if i + 3 < 80 then i + 3 else 80)]) r2_0 (by exact r2_1)
    refine ⟨u, hu, ?_⟩
    walk_at "go"
    exact sub_refl_fin (h _ _ P2 (((((OffS.refl a q m).new hp).trans O1).new hp2).trans O2))
end
end K19

set_option Elab.async false
set_option linter.all false
set_option maxRecDepth 100000
set_option maxHeartbeats 4000000
namespace K19
open PySem PySem.Spec PyProof.Rows L2 PD
local macro_rules | `(tactic| walk_at "pd") => `(tactic| simp (config := { decide := true, maxSteps := 400000 }) only [dSeq, dSet, dAsg, dgN, dRet, dRetN, dIfS, dFor, dLoop, dDrop, dNext, dVar, dC, dNil, dCons, dOp, dUn, dTest, dTru, dAnd, dOr, dNot, dAndV, dOrV, dNotV, dIfE, dTup, dLst, dCB, dCall, dBM, dBM0, dLc, dComp, dYes, dgTup, dgCons, dgNil, dgSub, dPart, dNoPart, dAug, dIsi, dEq, dNe, wipeD, endsOf,
  dAdd_i, dAdd_s, dAdd_t, dAdd_r, dSub_i, dInt2_i, dMul_i, dMul_s, dNeg_i, dCmp_i, dIsN_n, dNotN_n, dInG_t, dInG_r, dIx_s, dIx_t, dIx_r, dLen_s, dLen_t, dLen_r, dTuple_1, dList_1, dInt1_i, dTwo_i, dSl_v, dSlV_t, dSlV_r, dRev_v, dRevV_t, dRevV_r, dISeq_v, dISeqV_t, dISeqV_r, dIEnum_v, dIEnumV_t, dIEnumV_r, dPop_0, dPop_i, dAppend_1, dExtend_1, dSub3_i, dSortP_r, dIRng1_v, dRng1V_i,
  seqOf_tup, seqOf_rol, seqW_tup, eqK_ss, eqK_ii, eqK_bb, eqK_nn, eqK_ts, eqK_st, eqK_ti, eqK_is, eqK_ns, flatD_str, flatD_int, flatD_bl, flatD_non, isT_NoneType_bool, isT_NoneType_int, isT_NoneType_str, isT_NoneType_tuple, isT_NoneType_list, isT_bool_bool, isT_bool_int, isT_bool_str, isT_bool_tuple, isT_bool_list, isT_int_bool, isT_int_int, isT_int_str, isT_int_tuple, isT_int_list, isT_str_bool, isT_str_int, isT_str_str, isT_str_tuple, isT_str_list, isT_tuple_bool, isT_tuple_int, isT_tuple_str, isT_tuple_tuple, isT_tuple_list, isT_list_bool, isT_list_int, isT_list_str, isT_list_tuple, isT_list_list, isNon_non, isNon_bl, isNon_int, isNon_str, isNon_tup, tyD_non, tyD_bl, tyD_int, tyD_str, tyD_tup, truD_bl, truD_int, truD_tup,
  atI_0, atI_1, atI_2, atI_3, atI_4, atI_m1, atI_m2, atI_m3, Option.some.injEq, exists_eq_left', exists_eq_left, beq_self_eq_true, Bool.not_true, Bool.not_false, if_true, if_false, true_and, and_true, Bool.false_eq_true, ↓reduceIte,
  List.getElem?_cons_zero, List.getElem?_cons_succ, List.set_cons_zero, List.set_cons_succ, List.map_cons, List.map_nil, List.length_cons, List.length_nil, mset_same, mset_mset, List.isEmpty_nil, List.isEmpty_cons, decide_eq_true_eq, beq_iff_eq, seqI_0, List.eraseIdx_cons_zero, List.eraseIdx_cons_succ, ixN_40, ixN_41, ixN_42, ixN_43, Nat.reduceAdd])
local macro_rules | `(tactic| walk_at "ne") => `(tactic| first | assumption | exact Ne.symm (by assumption))
local macro_rules | `(tactic| walk_at "mu") => `(tactic| first | exact mset_same | assumption | exact mset_skip (by walk_at "ne") (by walk_at "mu"))
local macro_rules | `(tactic| walk_at "go") => `(tactic| repeat (first | walk_at "pd" | refine ⟨_, seqOf_ref (by walk_at "mu"), ?_⟩ | refine ⟨⟨_, _, lstOf_ref (by walk_at "mu")⟩, ?_⟩ | refine ⟨_, _, lstOf_ref (by walk_at "mu"), ?_⟩ | refine ⟨(show CMul _ _ from Or.inr ⟨by decide, by decide⟩), ?_⟩ | refine ⟨(show CDiv _ _ from ⟨by decide, by decide⟩), ?_⟩))
theorem offF {a q p : Addr} {m m1 : Mu} {o : MO} (h : OffS a q m m1) (hp : m p = none) : OffS a q m (mset m1 p o) := fun x u n1 n2 e => by
  by_cases hx : x = p
  · subst hx; rw [hp] at e; cases e
  · rw [mset_ne hx]; exact h x u n1 n2 e
theorem offFree {a q p : Addr} {m m1 : Mu} (h : OffS a q m m1) (n1 : p ≠ a) (n2 : p ≠ q) (hp : m1 p = none) : m p = none := by
  cases e : m p with
  | none => rfl
  | some o => have z := h p o n1 n2 e; rw [hp] at z; cases z
def CodeIs (a q : Addr) (n : Nat) (m : Mu) (c : D) : Kd → Prop
  | none => c = .str "lot"
  | some ws => ∃ r, c = .ref r ∧ r ≠ a ∧ r ≠ q ∧ m r = some (.lst (ws.map .str)) ∧ ws.length = n ∧ ∀ x ∈ ws, isMark x
def CodesL (a q : Addr) (n : Nat) (m : Mu) : List D → List Kd → Prop
  | [], [] => True
  | c :: cs, k :: ks => CodeIs a q n m c k ∧ CodesL a q n m cs ks
  | _, _ => False
theorem CodeIs.off {a q : Addr} {n : Nat} {m m' : Mu} {c : D} {k : Kd} (h : CodeIs a q n m c k) (o : OffS a q m m') : CodeIs a q n m' c k := by
  cases k with
  | none => exact h
  | some ws =>
    obtain ⟨r, e, h1, h2, h3, h4⟩ := h
    exact ⟨r, e, h1, h2, o r _ h1 h2 h3, h4⟩
theorem CodesL.off {a q : Addr} {n : Nat} {m m' : Mu} (o : OffS a q m m') : ∀ {cs : List D} {ks : List Kd}, CodesL a q n m cs ks → CodesL a q n m' cs ks
  | [], [], _ => trivial
  | c :: cs, k :: ks, h => ⟨h.1.off o, CodesL.off o h.2⟩
  | [], _ :: _, h => h.elim
  | _ :: _, [], h => h.elim
theorem CodesL.app {a q : Addr} {n : Nat} {m : Mu} {c : D} {k : Kd} (h2 : CodeIs a q n m c k) : ∀ {cs : List D} {ks : List Kd}, CodesL a q n m cs ks → CodesL a q n m (cs ++ [c]) (ks ++ [k])
  | [], [], _ => ⟨h2, trivial⟩
  | d :: cs, k :: ks, h => ⟨h.1, CodesL.app h2 h.2⟩
  | [], _ :: _, h => h.elim
  | _ :: _, [], h => h.elim
theorem CodeIs.setP {a q p : Addr} {n : Nat} {m : Mu} {o : MO} {c : D} {k : Kd} (h : CodeIs a q n m c k) (hn : c ≠ .ref p) : CodeIs a q n (mset m p o) c k := by
  cases k with
  | none => exact h
  | some ws =>
    obtain ⟨r, e, h1, h2, h3, h4⟩ := h
    refine ⟨r, e, h1, h2, ?_, h4⟩
    rw [mset_ne (fun z => hn (by rw [e, z]))]; exact h3
theorem CodesL.setP {a q p : Addr} {n : Nat} {m : Mu} {o : MO} : ∀ {cs : List D} {ks : List Kd}, CodesL a q n m cs ks → (∀ d ∈ cs, d ≠ .ref p) → CodesL a q n (mset m p o) cs ks
  | [], [], _, _ => trivial
  | c :: cs, k :: ks, h, hn => ⟨h.1.setP (hn c (List.mem_cons_self ..)), CodesL.setP h.2 fun d hd => hn d (List.mem_cons_of_mem _ hd)⟩
  | [], _ :: _, h, _ => h.elim
  | _ :: _, [], h, _ => h.elim
theorem CodesL.len {a q : Addr} {n : Nat} {m : Mu} : ∀ {cs : List D} {ks : List Kd}, CodesL a q n m cs ks → cs.length = ks.length
  | [], [], _ => rfl
  | _ :: _, _ :: _, h => by rw [List.length_cons, List.length_cons, CodesL.len h.2]
  | [], _ :: _, h => h.elim
  | _ :: _, [], h => h.elim
def CodesAt (a q : Addr) (n : Nat) (m : Mu) (p : Addr) (ks : List Kd) : Prop := p ≠ a ∧ p ≠ q ∧ ks.length ≤ 5 ∧ ∃ cs, m p = some (.lst cs) ∧ CodesL a q n m cs ks
theorem CodesAt.off {a q : Addr} {n : Nat} {m m' : Mu} {p : Addr} {ks : List Kd} (h : CodesAt a q n m p ks) (o : OffS a q m m') : CodesAt a q n m' p ks := by
  obtain ⟨h1, h2, h3, cs, h4, h5⟩ := h
  exact ⟨h1, h2, h3, cs, o p _ h1 h2 h4, h5.off o⟩
section
variable {P : Program} {w : World} {K : PySem.W.Frag} {mg : Str → Option Value} {base : Heap}
def sp__law_codes : SpD := fun ds m Q => ∃ a q n, ds = [.ref a, .int (n : Nat)] ∧ 1 ≤ n ∧ n ≤ 2 ∧ Pool m a q ∧ ∀ p ks m', CodesAt a q n m' p ks → Pool m' a q → OffS a q m m' → Q (.ref p) m'
theorem ok__law_codes  (T : Txt K mg) (G__law_pick : FnOk P w K mg base CX0 (1) T.f__law_pick T.fd__law_pick ["pool", "many"] (spL K 2 sp__law_pick)) : FnOk P w K mg base CX0 (2) T.f__law_codes T.fd__law_codes ["pool", "rows"] (spL K 2 sp__law_codes) := by
  refine fn_ok T.F__law_codes sc__law_codes (fun cdv A outer s H E hr =>
(gss_cons (gs_set (i := 2) sc__law_codes.nd rfl (.inl rfl) (ge_op op_addU lr_add ge_int (ge_call G__law_pick (hr.mono (by omega)) (by rfl) T.g__law_pick T.F__law_pick.kp T.b__law_pick (ga_cons (gv 0) (ga_cons ge_int ga_nil)))))
 (gss_cons (gs_if (gt_cmpR (op_eqS hr.units) lr_eq (ge_call G__law_pick (hr.mono (by omega)) (by rfl) T.g__law_pick T.F__law_pick.kp T.b__law_pick (ga_cons (gv 0) (ga_cons ge_int ga_nil))) ge_int (nomark _))
 (gss_one (gs_set (i := 2) sc__law_codes.nd rfl (.inl rfl) (ge_op op_sub lr_sub ge_int (ge_call G__law_pick (hr.mono (by omega)) (by rfl) T.g__law_pick T.F__law_pick.kp T.b__law_pick (ga_cons (gv 0) (ga_cons ge_int ga_nil))))))
 gss_nil)
 (gss_cons (gs_set (i := 3) sc__law_codes.nd rfl (.inl rfl) (ge_call G__law_pick (hr.mono (by omega)) (by rfl) T.g__law_pick T.F__law_pick.kp T.b__law_pick (ga_cons (gv 0) (ga_cons ge_int ga_nil))))
 (gss_cons (gs_set (i := 4) sc__law_codes.nd rfl (.inl rfl) (ge_lst ga_nil))
 (gss_cons (gs_for PassesOwn.never rfl (gi_rng1 (by rfl) T.z_range (ga_cons (gv 2) ga_nil)) (gg_name (i := 5) sc__law_codes.nd rfl (.inl rfl))
 (gss_one (gs_if (gw_or (gt_cmpR (op_eqS hr.units) lr_eq (gv 3) ge_int (nomark _)) (gw_or1 (gw_and (gt_cmpR op_gt lr_cmp (gv 3) ge_int (nomark _)) (gw_and1 (gt_cmpR op_lt lr_cmp (ge_call G__law_pick (hr.mono (by omega)) (by rfl) T.g__law_pick T.F__law_pick.kp T.b__law_pick (ga_cons (gv 0) (ga_cons ge_int ga_nil))) ge_int (nomark _)))).gt)).gt
 (gss_one (gs_expr (ge_bm PySem.F.slot_list_append PySem.F.type_list_append mt_append lm_append (gv 4) (ga_cons ge_str ga_nil))))
 (gss_one (gs_expr (ge_bm PySem.F.slot_list_append PySem.F.type_list_append mt_append lm_append (gv 4) (ga_cons (ge_lc (own := [("row", 6)]) rfl sc__law_codes.nd (gi_rng1 (by rfl) T.z_range (ga_cons (gv 1) ga_nil)) (blkOk_by (N := N__law_codes) (sc := defScope s__law_codes) (by decide +kernel)) (fun _ _ _ _ _ => (gg_name (i := 6) sc__law_codes.nd rfl (.inl rfl))) (fun _ _ _ _ _ => gts_nil) (fun _ _ _ _ _ => (ge_ix (ge_lst (ga_cons ge_str (ga_cons ge_str (ga_cons ge_str ga_nil)))) (ge_call G__law_pick (hr.mono (by omega)) (by rfl) T.g__law_pick T.F__law_pick.kp T.b__law_pick (ga_cons (gv 0) (ga_cons ge_int ga_nil))))) (by decide)) ga_nil)))))))
 (gss_one (gs_ret (gv 4))))))))) (fun ds m Q h => ?_)
  obtain ⟨a, q, n, rfl, hn1, hn2, hP, h⟩ := h
  rw [show startD N__law_codes [.ref a, .int (n : Nat)] = [some (.ref a), some (.int (n : Nat)), none, none, none, none, none] from rfl]
  refine seq_cut (fun s' m' => (∃ mn : Int, 1 ≤ mn ∧ mn ≤ 5 ∧ s' = [some (.ref a), some (.int (n : Nat)), some (.int mn), none, none, none, none]) ∧ Pool m' a q ∧ OffS a q m m') (fun R hR => ?_) ?_
  · walk_at "go"
    refine ⟨_, _, _, rfl, by assumption, by omega, by omega, fun r1 m1 r1_0 r1_1 P1 O1 => ?_⟩
    walk_at "go"
    exact hR _ _ ⟨⟨_, by omega, by omega, rfl⟩, P1, O1⟩
  rintro s' m' ⟨⟨mn, h1, h2, rfl⟩, P', O'⟩
  refine seq_cut (fun s' m' => (∃ mn : Int, 1 ≤ mn ∧ mn ≤ 5 ∧ s' = [some (.ref a), some (.int (n : Nat)), some (.int mn), none, none, none, none]) ∧ Pool m' a q ∧ OffS a q m m') (fun R hR => ?_) ?_
  · walk_at "go"
    refine ⟨_, _, _, rfl, by assumption, by omega, by omega, fun r1 m1 r1_0 r1_1 P1 O1 => ?_⟩
    walk_at "go"
    split
    · refine ⟨_, _, _, rfl, by assumption, by omega, by omega, fun r2 m2 r2_0 r2_1 P2 O2 => ?_⟩
      walk_at "go"
      exact hR _ _ ⟨⟨_, by omega, by omega, rfl⟩, P2, (O'.trans O1).trans O2⟩
    · exact hR _ _ ⟨⟨_, h1, h2, rfl⟩, P1, O'.trans O1⟩
  clear P' O'
  rintro s' m' ⟨⟨mn, h1, h2, rfl⟩, P', O'⟩
  walk_at "go"
  refine ⟨_, _, _, rfl, by assumption, by omega, by omega, fun r1 m1 r1_0 r1_1 P1 O1 => ?_⟩
  walk_at "go"
  intro p hp
  refine ⟨by omega, by omega, ?_⟩
  have hpa := P1.neA hp
  have hpq := P1.neQ hp
  refine loop_range (fun i s' m2 => ∃ ks c1 c2, ks.length = i ∧ s' = [some (.ref a), some (.int (n : Nat)), some (.int mn), some (.int r1), some (.ref p), c1, c2] ∧ Pool m2 a q ∧ OffS a q m m2 ∧ ∃ cs, m2 p = some (.lst cs) ∧ CodesL a q n m2 cs ks ∧ ∀ d ∈ cs, d ≠ .ref p) (fun i s' m2 R hi hR hJ => ?_) (fun s' m2 hJ => ?_) ⟨[], _, _, rfl, rfl, P1.new hp, (O'.trans O1).new hp, [], mset_same, trivial, fun d hd => absurd hd List.not_mem_nil⟩
  · obtain ⟨ks, c1, c2, hl, rfl, P2, O2, cs, hc, hcs, hne⟩ := hJ
    have hcl := hcs.len
    have hz : cs.length < sizeLine := Nat.lt_of_lt_of_le (by omega : _ < 100) (by decide)
    have step : ∀ (c1 c2 : Option D) (m3 : Mu) (c : D) (k : Kd), Pool m3 a q → OffS a q m2 m3 → CodeIs a q n m3 c k → c ≠ .ref p → R [some (.ref a), some (.int (n : Nat)), some (.int mn), some (.int r1), some (.ref p), c1, c2] (mset m3 p (.lst (cs ++ [c]))) := fun c1 c2 m3 c k P3 O3 hk hcp => by
      refine hR _ _ ⟨ks ++ [k], _, _, by rw [List.length_append, hl]; rfl, rfl, P3.set hpa hpq, offF (O2.trans O3) (offFree (O'.trans O1) hpa hpq hp), cs ++ [c], mset_same, ?_, ?_⟩
      · exact CodesL.app (hk.setP hcp) ((hcs.off O3).setP hne)
      · intro d hd
        rcases List.mem_append.mp hd with h1 | h1
        · exact hne d h1
        · rw [List.mem_singleton] at h1; rw [h1]; exact hcp
    have comp : ∀ (c1 c2 : Option D) (m3 : Mu), Pool m3 a q → OffS a q m2 m3 → ∀ r, m3 r = none → dComp (fun _ => True) (dgN 6) dYes (dOp dIx (dLst (dCons (dC (.str "sign")) (dCons (dC (.str "none")) (dCons (dC (.str "run")) dNil)))) (dCall 2 sp__law_pick (dCons (dVar 0) (dCons (dC (.int 3)) dNil)))) r [some (.ref a), some (.int (n : Nat)), some (.int mn), some (.int r1), some (.ref p), c1, none] (fun x m1 => ∃ a_2 es, lstOf m1 (.ref p) = some (a_2, es) ∧ es.length < sizeLine ∧ R [some (.ref a), some (.int (n : Nat)), some (.int mn), some (.int r1), some (.ref p), c1, c2] (mset m1 a_2 (.lst (es ++ [x])))) (rangeD 0 (n : Nat)) [] (mset m3 r (.lst [])) := fun c1 c2 m3 P3 O3 r hr => by
      have hra := P3.neA hr
      have hrq := P3.neQ hr
      have hrp : r ≠ p := fun z => by subst z; have z := O3 r _ hpa hpq hc; rw [hr] at z; cases z
      refine comp_inv (fun rem acc m' => ∃ ws : List Str, acc = ws.map .str ∧ (∀ x ∈ ws, isMark x) ∧ ws.length + rem.length = n ∧ Pool m' a q ∧ OffS a q m3 m' ∧ m' r = some (.lst acc)) (fun d rem acc m4 R2 hR2 ⟨ws, e1, e2, e3, P4, O4, e4⟩ => ?_) (fun acc m4 ⟨ws, e1, e2, e3, P4, O4, e4⟩ => ?_) ⟨[], rfl, fun x hx => absurd hx List.not_mem_nil, by rw [rangeD_len]; exact Nat.zero_add _, P3.new hr, (OffS.refl a q m3).new hr, mset_same⟩
      · refine ⟨trivial, ?_⟩
        walk_at "go"
        intro u hu
        have P0 : Pool (mset m4 u (.lst [.str "sign", .str "none", .str "run"])) a q := P4.new hu
        refine ⟨_, _, _, rfl, by assumption, by omega, by omega, fun r9 m9 r9_0 r9_1 P9 O9 => ?_⟩
        have hu9 := O9 u _ (P4.neA hu) (P4.neQ hu) mset_same
        have hur : r ≠ u := fun z => by subst z; rw [e4] at hu; cases hu
        have hr9 := O9 r _ hra hrq (mset_skip hur e4)
        refine ⟨_, seqOf_ref hu9, ?_⟩
        obtain ⟨v, hv, hm⟩ := atI_ex (xs := [D.str "sign", .str "none", .str "run"]) r9_0 (by exact r9_1)
        refine ⟨v, hv, ?_⟩
        have hi : ∃ x : Str, v = .str x ∧ isMark x := by
          simp only [List.mem_cons, List.not_mem_nil, or_false] at hm
          rcases hm with e | e | e
          · exact ⟨_, e, .inl rfl⟩
          · exact ⟨_, e, .inr (.inl rfl)⟩
          · exact ⟨_, e, .inr (.inr rfl)⟩
        obtain ⟨x, rfl, hx⟩ := hi
        rw [List.length_cons] at e3
        refine ⟨hr9, ?_, hR2 _ _ ⟨ws ++ [x], by rw [e1, List.map_append]; rfl, fun y hy => ?_, by rw [List.length_append, List.length_singleton]; omega, P9.set hra hrq, offF ((O4.new hu).trans O9) hr, mset_same⟩⟩
        · rw [e1, List.length_map]
          exact Nat.lt_of_lt_of_le (by omega : _ < 100) (by decide)
        · rcases List.mem_append.mp hy with h1 | h1
          · exact e2 y h1
          · rw [List.mem_singleton] at h1; rw [h1]; exact hx
      · refine ⟨trivial, e4, p, cs, lstOf_ref (O4 p _ hpa hpq (O3 p _ hpa hpq hc)), hz, ?_⟩
        exact step _ _ _ _ (some ws) P4 (O3.trans O4) ⟨r, rfl, hra, hrq, by rw [e4, e1], by simpa using e3, e2⟩ (by intro z; injection z with z; exact hrp z)
    walk_at "go"
    split
    · refine ⟨⟨_, _, lstOf_ref hc⟩, p, cs, lstOf_ref hc, hz, ?_⟩
      exact step _ _ _ _ none P2 (.refl _ _ _) rfl (by intro z; cases z)
    split
    · refine ⟨_, _, _, rfl, by assumption, by omega, by omega, fun r8 m8 r8_0 r8_1 P8 O8 => ?_⟩
      have hc8 := O8 p _ hpa hpq hc
      walk_at "go"
      split
      · refine ⟨⟨_, _, lstOf_ref hc8⟩, p, cs, lstOf_ref hc8, hz, ?_⟩
        exact step _ _ _ _ none P8 O8 rfl (by intro z; cases z)
      · refine ⟨⟨_, _, lstOf_ref hc8⟩, by omega, by omega, fun r hr => comp _ _ _ P8 O8 r hr⟩
    · refine ⟨⟨_, _, lstOf_ref hc⟩, by omega, by omega, fun r hr => comp _ _ _ P2 (.refl _ _ _) r hr⟩
  · obtain ⟨ks, c1, c2, hl, rfl, P2, O2, cs, hc, hcs, hne⟩ := hJ
    walk_at "go"
    exact sub_refl_fin (h p ks _ ⟨hpa, hpq, by omega, cs, hc, hcs⟩ P2 O2)
end
end K19

set_option Elab.async false
set_option linter.all false
set_option maxRecDepth 100000
set_option maxHeartbeats 4000000
namespace K19
open PySem PySem.Spec PyProof.Rows L2 PD
local macro_rules | `(tactic| walk_at "pd") => `(tactic| simp (config := { decide := true, maxSteps := 400000 }) only [dSeq, dSet, dAsg, dgN, dRet, dRetN, dIfS, dFor, dLoop, dDrop, dNext, dVar, dC, dNil, dCons, dOp, dUn, dTest, dTru, dAnd, dOr, dNot, dAndV, dOrV, dNotV, dIfE, dTup, dLst, dCB, dCall, dBM, dBM0, dLc, dComp, dYes, dgTup, dgCons, dgNil, dgSub, dPart, dNoPart, dAug, dIsi, dEq, dNe, wipeD, endsOf,
  dAdd_i, dAdd_s, dAdd_t, dAdd_r, dSub_i, dInt2_i, dMul_i, dMul_s, dNeg_i, dCmp_i, dIsN_n, dNotN_n, dInG_t, dInG_r, dIx_s, dIx_t, dIx_r, dLen_s, dLen_t, dLen_r, dTuple_1, dList_1, dInt1_i, dTwo_i, dSl_v, dSlV_t, dSlV_r, dRev_v, dRevV_t, dRevV_r, dISeq_v, dISeqV_t, dISeqV_r, dIEnum_v, dIEnumV_t, dIEnumV_r, dPop_0, dPop_i, dAppend_1, dExtend_1, dSub3_i, dSortP_r, dIRng1_v, dRng1V_i,
  seqOf_tup, seqOf_rol, seqW_tup, eqK_ss, eqK_ii, eqK_bb, eqK_nn, eqK_ts, eqK_st, eqK_ti, eqK_is, eqK_ns, flatD_str, flatD_int, flatD_bl, flatD_non, isT_NoneType_bool, isT_NoneType_int, isT_NoneType_str, isT_NoneType_tuple, isT_NoneType_list, isT_bool_bool, isT_bool_int, isT_bool_str, isT_bool_tuple, isT_bool_list, isT_int_bool, isT_int_int, isT_int_str, isT_int_tuple, isT_int_list, isT_str_bool, isT_str_int, isT_str_str, isT_str_tuple, isT_str_list, isT_tuple_bool, isT_tuple_int, isT_tuple_str, isT_tuple_tuple, isT_tuple_list, isT_list_bool, isT_list_int, isT_list_str, isT_list_tuple, isT_list_list, isNon_non, isNon_bl, isNon_int, isNon_str, isNon_tup, tyD_non, tyD_bl, tyD_int, tyD_str, tyD_tup, truD_bl, truD_int, truD_tup,
  atI_0, atI_1, atI_2, atI_3, atI_4, atI_m1, atI_m2, atI_m3, Option.some.injEq, exists_eq_left', exists_eq_left, beq_self_eq_true, Bool.not_true, Bool.not_false, if_true, if_false, true_and, and_true, Bool.false_eq_true, ↓reduceIte,
  List.getElem?_cons_zero, List.getElem?_cons_succ, List.set_cons_zero, List.set_cons_succ, List.map_cons, List.map_nil, List.length_cons, List.length_nil, mset_same, mset_mset, List.isEmpty_nil, List.isEmpty_cons, decide_eq_true_eq, beq_iff_eq, seqI_0, List.eraseIdx_cons_zero, List.eraseIdx_cons_succ, ixN_40, ixN_41, ixN_42, ixN_43, Nat.reduceAdd])
local macro_rules | `(tactic| walk_at "ne") => `(tactic| first | assumption | exact Ne.symm (by assumption))
local macro_rules | `(tactic| walk_at "mu") => `(tactic| first | exact mset_same | assumption | exact mset_skip (by walk_at "ne") (by walk_at "mu"))
local macro_rules | `(tactic| walk_at "go") => `(tactic| repeat (first | walk_at "pd" | refine ⟨_, seqOf_ref (by walk_at "mu"), ?_⟩ | refine ⟨⟨_, _, lstOf_ref (by walk_at "mu")⟩, ?_⟩ | refine ⟨_, _, lstOf_ref (by walk_at "mu"), ?_⟩ | refine ⟨(show CMul _ _ from Or.inr ⟨by decide, by decide⟩), ?_⟩ | refine ⟨(show CDiv _ _ from ⟨by decide, by decide⟩), ?_⟩))
def hit (x : Str) (ks : List Kd) (a b : Nat) : Prop := ∃ ws, ks[a]? = some (some ws) ∧ ws[b]? = some x
theorem mem_rows {x : Str} {i : Nat} {z : Int × Int} : ∀ (xs : List Str) (j : Nat), z ∈ rowsAt [x] i j xs ↔ ∃ b : Nat, z = ((i : Int), ((j + b : Nat) : Int)) ∧ xs[b]? = some x
  | [], j => by simp [rowsAt]
  | y :: xs, j => by
    have ih := mem_rows (x := x) (i := i) (z := z) xs (j + 1)
    unfold rowsAt
    by_cases e : y ∈ [x]
    · rw [if_pos e, List.mem_cons, ih]
      have e' : y = x := List.mem_singleton.mp e
      constructor
      · rintro (h | ⟨b, h1, h2⟩)
        · exact ⟨0, h, by rw [e']; rfl⟩
        · exact ⟨b + 1, by rw [h1, show j + 1 + b = j + (b + 1) by omega], h2⟩
      · rintro ⟨b, h1, h2⟩
        cases b with
        | zero => exact .inl h1
        | succ b => exact .inr ⟨b, by rw [h1, show j + 1 + b = j + (b + 1) by omega], h2⟩
    · rw [if_neg e, ih]
      constructor
      · rintro ⟨b, h1, h2⟩
        exact ⟨b + 1, by rw [h1, show j + 1 + b = j + (b + 1) by omega], h2⟩
      · rintro ⟨b, h1, h2⟩
        cases b with
        | zero => injection h2 with h2; exact absurd (List.mem_singleton.mpr h2) e
        | succ b => exact ⟨b, by rw [h1, show j + 1 + b = j + (b + 1) by omega], h2⟩
theorem mem_refs {x : Str} {z : Int × Int} : ∀ (ks : List Kd) (i : Nat), z ∈ refsAt [x] i ks ↔ ∃ a b : Nat, z = (((i + a : Nat) : Int), (b : Int)) ∧ hit x ks a b
  | [], i => by simp [refsAt, hit]
  | none :: ks, i => by
    show z ∈ refsAt [x] (i + 1) ks ↔ _
    rw [mem_refs ks (i + 1)]
    constructor
    · rintro ⟨a, b, h1, h2⟩
      exact ⟨a + 1, b, by rw [h1, show i + 1 + a = i + (a + 1) by omega], h2⟩
    · rintro ⟨a, b, h1, ws, h2, h3⟩
      cases a with
      | zero => cases h2
      | succ a => exact ⟨a, b, by rw [h1, show i + 1 + a = i + (a + 1) by omega], ws, h2, h3⟩
  | some ws :: ks, i => by
    show z ∈ rowsAt [x] i 0 ws ++ refsAt [x] (i + 1) ks ↔ _
    rw [List.mem_append, mem_refs ks (i + 1), mem_rows]
    constructor
    · rintro (⟨b, h1, h2⟩ | ⟨a, b, h1, h2⟩)
      · exact ⟨0, b, by rw [h1, Nat.zero_add]; rfl, ws, rfl, h2⟩
      · exact ⟨a + 1, b, by rw [h1, show i + 1 + a = i + (a + 1) by omega], h2⟩
    · rintro ⟨a, b, h1, vs, h2, h3⟩
      cases a with
      | zero =>
        injection h2 with h2; injection h2 with h2; subst h2
        exact .inl ⟨b, by rw [h1, Nat.zero_add]; rfl, h3⟩
      | succ a => exact .inr ⟨a, b, by rw [h1, show i + 1 + a = i + (a + 1) by omega], vs, h2, h3⟩
def pLt (p q : Int × Int) : Prop := p.1 < q.1 ∨ (p.1 = q.1 ∧ p.2 < q.2)
theorem rows_sorted {x : Str} {i : Nat} : ∀ (xs : List Str) (j : Nat), (rowsAt [x] i j xs).Pairwise pLt
  | [], _ => .nil
  | y :: xs, j => by
    unfold rowsAt
    split
    · refine List.pairwise_cons.mpr ⟨fun z hz => ?_, rows_sorted xs (j + 1)⟩
      obtain ⟨b, rfl, _⟩ := (mem_rows xs (j + 1)).mp hz
      exact .inr ⟨rfl, by show (j : Int) < _; omega⟩
    · exact rows_sorted xs (j + 1)
theorem refs_sorted {x : Str} : ∀ (ks : List Kd) (i : Nat), (refsAt [x] i ks).Pairwise pLt
  | [], _ => .nil
  | none :: ks, i => refs_sorted ks (i + 1)
  | some ws :: ks, i => by
    show (rowsAt [x] i 0 ws ++ refsAt [x] (i + 1) ks).Pairwise pLt
    refine List.pairwise_append.mpr ⟨rows_sorted ws 0, refs_sorted ks (i + 1), fun u hu v hv => ?_⟩
    obtain ⟨b, rfl, _⟩ := (mem_rows ws 0).mp hu
    obtain ⟨c, d, rfl, _⟩ := (mem_refs ks (i + 1)).mp hv
    exact .inl (by show (i : Int) < _; omega)
theorem pLt_le {p q : Int × Int} (h : pLt p q) : pLe p q := by unfold pLt at h; unfold pLe; omega
theorem pLt_ne {p q : Int × Int} (h : pLt p q) : p ≠ q := fun e => by subst e; unfold pLt at h; omega
theorem sorted_is {x : Str} {ks : List Kd} {acc qs : List (Int × Int)} (hn : acc.Nodup) (hm : ∀ z, z ∈ acc ↔ z ∈ refsAt [x] 0 ks) (h1 : qs.Perm acc) (h2 : qs.Pairwise pLe) : qs = refsAt [x] 0 ks := by
  have s1 := refs_sorted (x := x) ks 0
  have n1 : (refsAt [x] 0 ks).Nodup := s1.imp pLt_ne
  have p1 : qs.Perm (refsAt [x] 0 ks) := h1.trans ((List.perm_ext_iff_of_nodup hn n1).mpr hm)
  refine List.Perm.eq_of_pairwise (le := pLe) (fun a b _ _ h3 h4 => ?_) h2 (s1.imp pLt_le) p1
  unfold pLe at h3 h4
  exact Prod.ext (by omega) (by omega)
theorem CodesL.get {a q : Addr} {n : Nat} {m : Mu} : ∀ {cs : List D} {ks : List Kd} {i : Nat}, CodesL a q n m cs ks → i < ks.length → ∃ c k, cs[i]? = some c ∧ ks[i]? = some k ∧ CodeIs a q n m c k
  | [], [], i, _, h => absurd h (Nat.not_lt_zero _)
  | c :: cs, k :: ks, 0, h, _ => ⟨c, k, rfl, rfl, h.1⟩
  | c :: cs, k :: ks, i + 1, h, hi => CodesL.get (i := i) h.2 (by rw [List.length_cons] at hi; omega)
  | [], _ :: _, _, h, _ => h.elim
  | _ :: _, [], _, h, _ => h.elim
theorem CodesL.rows {a q : Addr} {n : Nat} {m : Mu} {cs : List D} {ks : List Kd} {i : Nat} {ws : List Str} (h : CodesL a q n m cs ks) (hi : ks[i]? = some (some ws)) : ws.length = n := by
  have hl : i < ks.length := (List.getElem?_eq_some_iff.mp hi).1
  obtain ⟨c, k, _, h2, h3⟩ := h.get hl
  rw [hi] at h2
  injection h2 with h2
  subst h2
  obtain ⟨_, _, _, _, _, h4, _⟩ := h3
  exact h4
section
variable {P : Program} {w : World} {K : PySem.W.Frag} {mg : Str → Option Value} {base : Heap}
def sp__law_places : SpD := fun ds m Q => ∃ a q n p ks x, ds = [.ref p, .int (n : Nat), .str x] ∧ n ≤ 2 ∧ CodesAt a q n m p ks ∧ Q (.tup ((refsAt [x] 0 ks).map pD)) m
theorem ok__law_places  (T : Txt K mg)  : FnOk P w K mg base CX0 (1) T.f__law_places T.fd__law_places ["codes", "rows", "word"] (spL K 3 sp__law_places) := by
  refine fn_ok T.F__law_places sc__law_places (fun cdv A outer s H E hr =>
(gss_cons (gs_set (i := 3) sc__law_places.nd rfl (.inl rfl) (ge_lst ga_nil))
 (gss_cons (gs_for PassesOwn.never rfl (gi_rng1 (by rfl) T.z_range (ga_cons (gv 1) ga_nil)) (gg_name (i := 4) sc__law_places.nd rfl (.inl rfl))
 (gss_one (gs_for PassesOwn.never rfl (gi_rng1 (by rfl) T.z_range (ga_cons (ge_callB call_lenU lc_len (by rfl) T.z_len PySem.boot_len (ga_cons (gv 0) ga_nil)) ga_nil)) (gg_name (i := 5) sc__law_places.nd rfl (.inl rfl))
 (gss_one (gs_if (gw_and (gt_cmpR (op_neS hr.units) lr_ne (ge_ix (gv 0) (gv 5)) ge_str (nomark _)) (gw_and1 (gt_cmpR (op_eqS hr.units) lr_eq (ge_ix (ge_ix (gv 0) (gv 5)) (gv 4)) (gv 2) (nomark _)))).gt
 (gss_one (gs_expr (ge_bm PySem.F.slot_list_append PySem.F.type_list_append mt_append lm_append (gv 3) (ga_cons (ge_tup (ga_cons (gv 5) (ga_cons (gv 4) ga_nil))) ga_nil))))
 gss_nil)))))
 (gss_one (gs_ret (ge_callTy call_tuple_of lc_tuple (by rfl) T.z_tuple (by decide +kernel) (ga_cons (ge_callB cr_sortedPS lc_sortP (by rfl) T.z_sorted (by decide +kernel) (ga_cons (gv 3) ga_nil)) ga_nil))))))) (fun ds m Q h => ?_)
  obtain ⟨a, q, n, p, ks, x, rfl, hn, ⟨hpa, hpq, hk5, cs, hc, hcs⟩, h⟩ := h
  rw [show startD N__law_places [.ref p, .int (n : Nat), .str x] = [some (.ref p), some (.int (n : Nat)), some (.str x), none, none, none] from rfl]
  have hcl := hcs.len
  walk_at "go"
  intro f hf
  have hfp : p ≠ f := mne hf hc
  refine ⟨by omega, by omega, ?_⟩
  refine loop_range (fun i s' m' => ∃ acc c1 c2, s' = [some (.ref p), some (.int (n : Nat)), some (.str x), some (.ref f), c1, c2] ∧ m' = mset m f (.lst (acc.map pD)) ∧ acc.length ≤ i * 5 ∧ acc.Nodup ∧ ∀ z, z ∈ acc ↔ ∃ u v : Nat, z = ((u : Int), (v : Int)) ∧ hit x ks u v ∧ v < i) (fun i s' m' R hi hR hJ => ?_) (fun s' m' hJ => ?_) ⟨[], _, _, rfl, rfl, Nat.zero_le _, List.nodup_nil, fun z => by simp⟩
  · obtain ⟨acc, c1, c2, rfl, rfl, hl, hnd, hm⟩ := hJ
    walk_at "go"
    refine ⟨by omega, by omega, ?_⟩
    refine loop_range (fun j s' m' => ∃ acc c2, s' = [some (.ref p), some (.int (n : Nat)), some (.str x), some (.ref f), some (.int (i : Nat)), c2] ∧ m' = mset m f (.lst (acc.map pD)) ∧ acc.length ≤ i * 5 + j ∧ acc.Nodup ∧ ∀ z, z ∈ acc ↔ ∃ u v : Nat, z = ((u : Int), (v : Int)) ∧ hit x ks u v ∧ (v < i ∨ (v = i ∧ u < j))) (fun j s' m' R2 hj hR2 hJ => ?_) (fun s' m' hJ => ?_) ⟨acc, _, rfl, rfl, by omega, hnd, fun z => (hm z).trans ⟨fun ⟨u, v, h1, h2, h3⟩ => ⟨u, v, h1, h2, .inl h3⟩, fun ⟨u, v, h1, h2, h3⟩ => ⟨u, v, h1, h2, by omega⟩⟩⟩
    · clear hm hnd hl acc c2
      obtain ⟨acc, c2, rfl, rfl, hl, hnd, hm⟩ := hJ
      have hj' : j < cs.length := by omega
      have hi' : i < n := by omega
      obtain ⟨c, k, g1, g2, g3⟩ := hcs.get (show j < ks.length by omega)
      have hc2 : mset m f (.lst (acc.map pD)) p = some (.lst cs) := by rw [mset_ne hfp]; exact hc
      have no : ¬ hit x ks j i → R2 [some (.ref p), some (.int (n : Nat)), some (.str x), some (.ref f), some (.int (i : Nat)), some (.int (j : Nat))] (mset m f (.lst (acc.map pD))) := fun hno => by
        refine hR2 _ _ ⟨acc, _, rfl, rfl, by omega, hnd, fun z => (hm z).trans ⟨fun ⟨u, v, h1, h2, h3⟩ => ⟨u, v, h1, h2, by omega⟩, fun ⟨u, v, h1, h2, h3⟩ => ⟨u, v, h1, h2, ?_⟩⟩⟩
        by_cases e : v = i ∧ u = j
        · exact absurd (by rw [← e.1, ← e.2]; exact h2) hno
        · omega
      walk_at "go"
      refine ⟨c, atI_nat g1, ?_⟩
      cases k with
      | none =>
        cases g3
        walk_at "go"
        refine no fun ⟨ws, h1, _⟩ => ?_
        rw [g2] at h1; cases h1
      | some ws =>
        obtain ⟨r, rfl, hra, hrq, hr, hw, _⟩ := g3
        have hrf : r ≠ f := mne hf hr
        have hr2 : mset m f (.lst (acc.map pD)) r = some (.lst (ws.map .str)) := by rw [mset_ne hrf]; exact hr
        walk_at "go"
        refine ⟨_, eqK_rs hr2, ?_⟩
        walk_at "go"
        refine ⟨_, atI_nat g1, ?_⟩
        walk_at "go"
        obtain ⟨y, hy⟩ : ∃ y, ws[i]? = some y := ⟨ws[i]'(by omega), List.getElem?_eq_getElem (by omega)⟩
        refine ⟨.str y, atI_nat (by rw [List.getElem?_map, hy]; rfl), ?_⟩
        walk_at "go"
        by_cases e : y = x
        · subst e
          rw [if_pos rfl]
          refine ⟨⟨f, _, lstOf_ref mset_same⟩, f, _, lstOf_ref mset_same, ?_, ?_⟩
          · rw [List.length_map]
            exact Nat.lt_of_lt_of_le (by omega : _ < 1000) (by decide)
          · rw [mset_mset]
            refine hR2 _ _ ⟨acc ++ [((j : Int), (i : Int))], _, rfl, by rw [List.map_append]; rfl, by rw [List.length_append, List.length_singleton]; omega, ?_, fun z => ?_⟩
            · refine List.nodup_append.mpr ⟨hnd, List.nodup_cons.mpr ⟨List.not_mem_nil, List.nodup_nil⟩, fun u hu v hv => ?_⟩
              rw [List.mem_singleton] at hv
              subst hv
              rintro rfl
              obtain ⟨u, v, h1, h2, h3⟩ := (hm _).mp hu
              injection h1 with h1 h4
              omega
            · rw [List.mem_append, List.mem_singleton, hm z]
              constructor
              · rintro (⟨u, v, h1, h2, h3⟩ | h1)
                · exact ⟨u, v, h1, h2, by omega⟩
                · exact ⟨j, i, h1, ⟨ws, g2, hy⟩, by omega⟩
              · rintro ⟨u, v, h1, h2, h3⟩
                by_cases e : v = i ∧ u = j
                · obtain ⟨rfl, rfl⟩ := e
                  exact .inr h1
                · exact .inl ⟨u, v, h1, h2, by omega⟩
        · rw [if_neg e]
          refine no fun ⟨vs, h1, h2⟩ => ?_
          rw [g2] at h1
          injection h1 with h1; injection h1 with h1; subst h1
          rw [hy] at h2
          injection h2 with h2
          exact e h2
    · clear hm hnd hl acc c2
      obtain ⟨acc, c2, rfl, rfl, hl, hnd, hm⟩ := hJ
      refine ⟨trivial, hR _ _ ⟨acc, _, _, rfl, rfl, by omega, hnd, fun z => (hm z).trans ⟨fun ⟨u, v, h1, h2, h3⟩ => ⟨u, v, h1, h2, by omega⟩, fun ⟨u, v, h1, h2, h3⟩ => ⟨u, v, h1, h2, ?_⟩⟩⟩⟩
      obtain ⟨ws, h4, _⟩ := h2
      have := (List.getElem?_eq_some_iff.mp h4).1
      omega
  · obtain ⟨acc, c1, c2, rfl, rfl, hl, hnd, hm⟩ := hJ
    walk_at "go"
    intro qs h1 h2 g hg
    refine ⟨_, seqOf_ref mset_same, m, (PD.Sub.new hf).new' ((PD.Sub.new hf).free hg), ?_⟩
    rw [sorted_is hnd (fun z => (hm z).trans ((mem_refs ks 0).trans ⟨fun ⟨u, v, h1, h2⟩ => ⟨u, v, by rw [h1, Nat.zero_add], h2, ?_⟩, fun ⟨u, v, h1, h2, _⟩ => ⟨u, v, by rw [h1, Nat.zero_add], h2⟩⟩).symm) h1 h2]
    · exact h
    · obtain ⟨ws, h4, h5⟩ := h2
      have e1 := hcs.rows h4
      have e2 := (List.getElem?_eq_some_iff.mp h5).1
      omega
end
end K19

set_option Elab.async false
set_option linter.all false
set_option maxRecDepth 100000
set_option maxHeartbeats 4000000
namespace K19
open PySem PySem.Spec PyProof.Rows L2 PD
local macro_rules | `(tactic| walk_at "pd") => `(tactic| simp (config := { decide := true, maxSteps := 400000 }) only [dSeq, dSet, dAsg, dgN, dRet, dRetN, dIfS, dFor, dLoop, dDrop, dNext, dVar, dC, dNil, dCons, dOp, dUn, dTest, dTru, dAnd, dOr, dNot, dAndV, dOrV, dNotV, dIfE, dTup, dLst, dCB, dCall, dBM, dBM0, dLc, dComp, dYes, dgTup, dgCons, dgNil, dgSub, dPart, dNoPart, dAug, dIsi, dEq, dNe, wipeD, endsOf,
  dAdd_i, dAdd_s, dAdd_t, dAdd_r, dSub_i, dInt2_i, dMul_i, dMul_s, dNeg_i, dCmp_i, dIsN_n, dNotN_n, dInG_t, dInG_r, dIx_s, dIx_t, dIx_r, dLen_s, dLen_t, dLen_r, dTuple_1, dList_1, dInt1_i, dTwo_i, dSl_v, dSlV_t, dSlV_r, dRev_v, dRevV_t, dRevV_r, dISeq_v, dISeqV_t, dISeqV_r, dIEnum_v, dIEnumV_t, dIEnumV_r, dPop_0, dPop_i, dAppend_1, dExtend_1, dSub3_i, dSortP_r, dIRng1_v, dRng1V_i,
  seqOf_tup, seqOf_rol, seqW_tup, eqK_ss, eqK_ii, eqK_bb, eqK_nn, eqK_ts, eqK_st, eqK_ti, eqK_is, eqK_ns, flatD_str, flatD_int, flatD_bl, flatD_non, isT_NoneType_bool, isT_NoneType_int, isT_NoneType_str, isT_NoneType_tuple, isT_NoneType_list, isT_bool_bool, isT_bool_int, isT_bool_str, isT_bool_tuple, isT_bool_list, isT_int_bool, isT_int_int, isT_int_str, isT_int_tuple, isT_int_list, isT_str_bool, isT_str_int, isT_str_str, isT_str_tuple, isT_str_list, isT_tuple_bool, isT_tuple_int, isT_tuple_str, isT_tuple_tuple, isT_tuple_list, isT_list_bool, isT_list_int, isT_list_str, isT_list_tuple, isT_list_list, isNon_non, isNon_bl, isNon_int, isNon_str, isNon_tup, tyD_non, tyD_bl, tyD_int, tyD_str, tyD_tup, truD_bl, truD_int, truD_tup,
  atI_0, atI_1, atI_2, atI_3, atI_4, atI_m1, atI_m2, atI_m3, Option.some.injEq, exists_eq_left', exists_eq_left, beq_self_eq_true, Bool.not_true, Bool.not_false, if_true, if_false, true_and, and_true, Bool.false_eq_true, ↓reduceIte,
  List.getElem?_cons_zero, List.getElem?_cons_succ, List.set_cons_zero, List.set_cons_succ, List.map_cons, List.map_nil, List.length_cons, List.length_nil, mset_same, mset_mset, List.isEmpty_nil, List.isEmpty_cons, decide_eq_true_eq, beq_iff_eq, seqI_0, List.eraseIdx_cons_zero, List.eraseIdx_cons_succ, ixN_40, ixN_41, ixN_42, ixN_43, Nat.reduceAdd])
local macro_rules | `(tactic| walk_at "ne") => `(tactic| first | assumption | exact Ne.symm (by assumption))
local macro_rules | `(tactic| walk_at "mu") => `(tactic| first | exact mset_same | assumption | exact mset_skip (by walk_at "ne") (by walk_at "mu"))
local macro_rules | `(tactic| walk_at "go") => `(tactic| repeat (first | walk_at "pd" | refine ⟨_, seqOf_ref (by walk_at "mu"), ?_⟩ | refine ⟨⟨_, _, lstOf_ref (by walk_at "mu")⟩, ?_⟩ | refine ⟨_, _, lstOf_ref (by walk_at "mu"), ?_⟩ | refine ⟨(show CMul _ _ from Or.inr ⟨by decide, by decide⟩), ?_⟩ | refine ⟨(show CDiv _ _ from ⟨by decide, by decide⟩), ?_⟩))
theorem Words.off {a q p : Addr} {m m' : Mu} (h : Words m p) (n1 : p ≠ a) (n2 : p ≠ q) (o : OffS a q m m') : Words m' p := by
  obtain ⟨x, y, z, e⟩ := h
  exact ⟨x, y, z, o p _ n1 n2 e⟩
theorem Words.get {p : Addr} {m : Mu} (h : Words m p) {i : Int} (h0 : 0 ≤ i) (h1 : i < 3) : ∃ xs, seqOf m (.ref p) = some xs ∧ ∃ x : Str, atI xs i = some (.str x) := by
  obtain ⟨x, y, z, e⟩ := h
  refine ⟨_, seqOf_ref e, ?_⟩
  obtain ⟨v, hv, hm⟩ := atI_ex (xs := [D.str x, .str y, .str z]) h0 (by exact h1)
  simp only [List.mem_cons, List.not_mem_nil, or_false] at hm
  rcases hm with e | e | e <;> exact ⟨_, by rw [hv, e]⟩
section
variable {P : Program} {w : World} {K : PySem.W.Frag} {mg : Str → Option Value} {base : Heap}
def sp__law_tests : SpD := fun ds m Q => ∃ a q pw es, ds = [.ref a, .ref pw, .tup es] ∧ es.length ≤ 1000 ∧ pw ≠ a ∧ pw ≠ q ∧ Words m pw ∧ Pool m a q ∧ ∀ ts m', Pool m' a q → OffS a q m m' → Q ts m'
theorem ok__law_tests  (T : Txt K mg) (G__law_pick : FnOk P w K mg base CX0 (1) T.f__law_pick T.fd__law_pick ["pool", "many"] (spL K 2 sp__law_pick)) : FnOk P w K mg base CX0 (2) T.f__law_tests T.fd__law_tests ["pool", "words", "places"] (spL K 3 sp__law_tests) := by
  refine fn_ok T.F__law_tests sc__law_tests (fun cdv A outer s H E hr =>
(gss_cons (gs_set (i := 3) sc__law_tests.nd rfl (.inl rfl) (ge_lst ga_nil))
 (gss_cons (gs_if (gt_cmpR op_gt lr_cmp (ge_callB call_lenU lc_len (by rfl) T.z_len PySem.boot_len (ga_cons (gv 2) ga_nil)) ge_int (nomark _))
 (gss_one (gs_for PassesOwn.never rfl (gi_rng1 (by rfl) T.z_range (ga_cons (ge_call G__law_pick (hr.mono (by omega)) (by rfl) T.g__law_pick T.F__law_pick.kp T.b__law_pick (ga_cons (gv 0) (ga_cons ge_int ga_nil))) ga_nil)) (gg_name (i := 4) sc__law_tests.nd rfl (.inl rfl))
 (gss_cons (gs_set (i := 5) sc__law_tests.nd rfl (.inl rfl) (ge_ix (gv 2) (ge_call G__law_pick (hr.mono (by omega)) (by rfl) T.g__law_pick T.F__law_pick.kp T.b__law_pick (ga_cons (gv 0) (ga_cons (ge_callB call_lenU lc_len (by rfl) T.z_len PySem.boot_len (ga_cons (gv 2) ga_nil)) ga_nil)))))
 (gss_one (gs_expr (ge_bm PySem.F.slot_list_append PySem.F.type_list_append mt_append lm_append (gv 3) (ga_cons (ge_tup (ga_cons (ge_ix (gv 1) (ge_call G__law_pick (hr.mono (by omega)) (by rfl) T.g__law_pick T.F__law_pick.kp T.b__law_pick (ga_cons (gv 0) (ga_cons ge_int ga_nil)))) (ga_cons (gv 5) (ga_cons (ge_ix (gv 2) (ge_call G__law_pick (hr.mono (by omega)) (by rfl) T.g__law_pick T.F__law_pick.kp T.b__law_pick (ga_cons (gv 0) (ga_cons (ge_callB call_lenU lc_len (by rfl) T.z_len PySem.boot_len (ga_cons (gv 2) ga_nil)) ga_nil)))) ga_nil)))) ga_nil)))))))
 gss_nil)
 (gss_one (gs_ret (ge_callTy call_tuple_of lc_tuple (by rfl) T.z_tuple (by decide +kernel) (ga_cons (gv 3) ga_nil))))))) (fun ds m Q h => ?_)
  obtain ⟨a, q, pw, es, rfl, hes, hwa, hwq, hw, hP, h⟩ := h
  rw [show startD N__law_tests [.ref a, .ref pw, .tup es] = [some (.ref a), some (.ref pw), some (.tup es), none, none, none] from rfl]
  walk_at "go"
  intro f hf
  have hfa := hP.neA hf
  have hfq := hP.neQ hf
  have P0 : Pool (mset m f (.lst [])) a q := hP.new hf
  split
  · refine ⟨_, _, _, rfl, by assumption, by omega, by omega, fun r1 m1 r1_0 r1_1 P1 O1 => ?_⟩
    walk_at "go"
    refine ⟨by omega, by omega, ?_⟩
    refine loop_range (fun i s' m' => ∃ c1 c2 ts, s' = [some (.ref a), some (.ref pw), some (.tup es), some (.ref f), c1, c2] ∧ Pool m' a q ∧ OffS a q m m' ∧ ts.length = i ∧ m' f = some (.lst ts)) (fun i s' m' R2 hi hR2 hJ => ?_) (fun s' m' hJ => ?_) ⟨_, _, [], rfl, P1, ((OffS.refl a q m).new hf).trans O1, rfl, O1 f _ hfa hfq mset_same⟩
    · obtain ⟨c1, c2, ts, rfl, P2, O2, hl, hts⟩ := hJ
      walk_at "go"
      refine ⟨_, _, _, rfl, by assumption, by omega, by omega, fun r3 m3 r3_0 r3_1 P3 O3 => ?_⟩
      walk_at "go"
      obtain ⟨v, hv, _⟩ := atI_ex (xs := es) r3_0 r3_1
      refine ⟨v, hv, ?_⟩
      walk_at "go"
      refine ⟨⟨_, _, lstOf_ref (O3 f _ hfa hfq hts)⟩, ?_⟩
      refine ⟨_, _, _, rfl, by assumption, by omega, by omega, fun r4 m4 r4_0 r4_1 P4 O4 => ?_⟩
      have hw4 := hw.off hwa hwq ((O2.trans O3).trans O4)
      obtain ⟨xs, hxs, x, hx⟩ := hw4.get r4_0 r4_1
      walk_at "go"
      refine ⟨xs, hxs, _, hx, ?_⟩
      walk_at "go"
      refine ⟨_, _, _, rfl, by assumption, by omega, by omega, fun r5 m5 r5_0 r5_1 P5 O5 => ?_⟩
      walk_at "go"
      obtain ⟨u, hu, _⟩ := atI_ex (xs := es) r5_0 r5_1
      refine ⟨u, hu, ?_⟩
      have hf5 := ((O3.trans O4).trans O5) f _ hfa hfq hts
      walk_at "go"
      refine ⟨?_, ?_⟩
      · exact Nat.lt_of_lt_of_le (by omega : _ < 100) (by decide)
      · exact hR2 _ _ ⟨_, _, ts ++ [.tup [.str x, v, u]], rfl, P5.set hfa hfq, offF ((((O2.trans O3).trans O4).trans O5)) hf, by rw [List.length_append, hl]; rfl, mset_same⟩
    · obtain ⟨c1, c2, ts, rfl, P2, O2, hl, hts⟩ := hJ
      walk_at "go"
      exact sub_refl_fin (h _ _ P2 O2)
  · exact ⟨_, seqOf_ref mset_same, sub_refl_fin (h _ _ P0 ((OffS.refl a q m).new hf))⟩
def sp__law_way : SpD := fun ds m Q => ∃ a q n p pw ks es, ds = [.ref a, .ref p, .ref pw, .tup es] ∧ n ≤ 2 ∧ es.length ≤ 1000 ∧ pw ≠ a ∧ pw ≠ q ∧ Words m pw ∧ CodesAt a q n m p ks ∧ Pool m a q ∧ ∀ (mk : D) (ps : List Pc) (ts : D) (m' : Mu), ps.map pcK = ks → (∀ p ∈ ps, pcOk p) → Pool m' a q → OffS a q m m' → Q (.tup [mk, .tup (ps.map pcD), ts]) m'
theorem ok__law_way  (T : Txt K mg) (G__law_tests : FnOk P w K mg base CX0 (2) T.f__law_tests T.fd__law_tests ["pool", "words", "places"] (spL K 3 sp__law_tests)) (G__law_pick : FnOk P w K mg base CX0 (1) T.f__law_pick T.fd__law_pick ["pool", "many"] (spL K 2 sp__law_pick)) (G__law_mark : FnOk P w K mg base CX0 (2) T.f__law_mark T.fd__law_mark ["pool", "word"] (spL K 2 sp__law_mark)) : FnOk P w K mg base CX0 (3) T.f__law_way T.fd__law_way ["pool", "codes", "words", "places"] (spL K 4 sp__law_way) := by
  refine fn_ok T.F__law_way sc__law_way (fun cdv A outer s H E hr =>
(gss_cons (gs_set (i := 4) sc__law_way.nd rfl (.inl rfl) (ge_lst ga_nil))
 (gss_cons (gs_for PassesOwn.never rfl (gi_seq (gv 1)) (gg_name (i := 5) sc__law_way.nd rfl (.inl rfl))
 (gss_one (gs_if (gt_cmpR (op_eqS hr.units) lr_eq (gv 5) ge_str (nomark _))
 (gss_one (gs_expr (ge_bm PySem.F.slot_list_append PySem.F.type_list_append mt_append lm_append (gv 4) (ga_cons (ge_tup (ga_cons ge_str (ga_cons (ge_ix (gv 2) (ge_call G__law_pick (hr.mono (by omega)) (by rfl) T.g__law_pick T.F__law_pick.kp T.b__law_pick (ga_cons (gv 0) (ga_cons ge_int ga_nil)))) ga_nil))) ga_nil))))
 (gss_one (gs_expr (ge_bm PySem.F.slot_list_append PySem.F.type_list_append mt_append lm_append (gv 4) (ga_cons (ge_tup (ga_cons ge_str (ga_cons (ge_callTy call_tuple_of lc_tuple (by rfl) T.z_tuple (by decide +kernel) (ga_cons (ge_lc (own := [("word", 6)]) rfl sc__law_way.nd (gi_seq (gv 5)) (blkOk_by (N := N__law_way) (sc := defScope s__law_way) (by decide +kernel)) (fun _ _ _ _ _ => (gg_name (i := 6) sc__law_way.nd rfl (.inl rfl))) (fun _ _ _ _ _ => gts_nil) (fun _ _ _ _ _ => (ge_call G__law_mark (hr.mono (by omega)) (by rfl) T.g__law_mark T.F__law_mark.kp T.b__law_mark (ga_cons (gv 0) (ga_cons (gv 6) ga_nil)))) (by decide)) ga_nil)) ga_nil))) ga_nil)))))))
 (gss_one (gs_ret (ge_tup (ga_cons (ge_ix (gv 2) (ge_call G__law_pick (hr.mono (by omega)) (by rfl) T.g__law_pick T.F__law_pick.kp T.b__law_pick (ga_cons (gv 0) (ga_cons ge_int ga_nil)))) (ga_cons (ge_callTy call_tuple_of lc_tuple (by rfl) T.z_tuple (by decide +kernel) (ga_cons (gv 4) ga_nil)) (ga_cons (ge_call G__law_tests (hr.mono (by omega)) (by rfl) T.g__law_tests T.F__law_tests.kp T.b__law_tests (ga_cons (gv 0) (ga_cons (gv 2) (ga_cons (gv 3) ga_nil)))) ga_nil))))))))) (fun ds m Q h => ?_)
  obtain ⟨a, q, n, p, pw, ks, es, rfl, hn, hes, hwa, hwq, hw, ⟨hpa, hpq, hk5, cs, hc, hcs⟩, hP, h⟩ := h
  rw [show startD N__law_way [.ref a, .ref p, .ref pw, .tup es] = [some (.ref a), some (.ref p), some (.ref pw), some (.tup es), none, none, none] from rfl]
  have hcl := hcs.len
  walk_at "go"
  intro f hf
  have hfa := hP.neA hf
  have hfq := hP.neQ hf
  have hpf : p ≠ f := mne hf hc
  walk_at "go"
  refine loop_inv (fun rem s' m' => ∃ (cpre : List D) (kpre kpost : List Kd) (ps : List Pc), cs = cpre ++ rem ∧ ks = kpre ++ kpost ∧ cpre.length = kpre.length ∧ CodesL a q n m rem kpost ∧ (∃ c1 c2, s' = [some (.ref a), some (.ref p), some (.ref pw), some (.tup es), some (.ref f), c1, c2]) ∧ ps.map pcK = kpre ∧ (∀ p ∈ ps, pcOk p) ∧ Pool m' a q ∧ OffS a q m m' ∧ m' f = some (.lst (ps.map pcD))) ?_ ?_ ⟨[], [], ks, [], rfl, rfl, rfl, hcs, ⟨_, _, rfl⟩, rfl, fun p hp => absurd hp List.not_mem_nil, hP.new hf, (OffS.refl a q m).new hf, mset_same⟩
  · rintro d rem s' m' R hR ⟨cpre, kpre, kpost, ps, e1, e2, e3, e4, ⟨c1, c2, rfl⟩, e5, e6, P2, O2, hps⟩
    have hc2 := O2 p _ hpa hpq hc
    have hlen : ps.length ≤ 5 := by
      have z := congrArg List.length e5
      rw [List.length_map] at z
      have z2 := congrArg List.length e2
      rw [List.length_append] at z2
      omega
    cases kpost with
    | nil => exact e4.elim
    | cons k kpost =>
      have leaf : ∀ (pc : Pc) (c1 c2 : Option D) (m3 : Mu), pcK pc = k → pcOk pc → Pool m3 a q → OffS a q m' m3 → R [some (.ref a), some (.ref p), some (.ref pw), some (.tup es), some (.ref f), c1, c2] (mset m3 f (.lst (ps.map pcD ++ [pcD pc]))) := fun pc c1 c2 m3 h1 h2 P3 O3 => by
        refine hR _ _ ⟨cpre ++ [d], kpre ++ [k], kpost, ps ++ [pc], by rw [e1]; simp, by rw [e2]; simp, by rw [List.length_append, List.length_append, e3]; rfl, e4.2, ⟨_, _, rfl⟩, by rw [List.map_append, e5]; simp [h1], fun x hx => ?_, P3.set hfa hfq, offF (O2.trans O3) hf, by rw [mset_same, List.map_append]; rfl⟩
        rcases List.mem_append.mp hx with h3 | h3
        · exact e6 x h3
        · rw [List.mem_singleton] at h3; rw [h3]; exact h2
      have hz : (ps.map pcD).length < sizeLine := by
        rw [List.length_map]; exact Nat.lt_of_lt_of_le (by omega : _ < 100) (by decide)
      refine ⟨seqOf_ref hc2, ?_⟩
      walk_at "go"
      cases k with
      | none =>
        cases e4.1
        walk_at "go"
        refine ⟨_, _, _, rfl, by assumption, by omega, by omega, fun r1 m1 r1_0 r1_1 P1 O1 => ?_⟩
        have hps1 := O1 f _ hfa hfq hps
        obtain ⟨xs, hxs, x, hx⟩ := (hw.off hwa hwq (O2.trans O1)).get r1_0 r1_1
        walk_at "go"
        refine ⟨xs, hxs, _, hx, ?_⟩
        refine ⟨f, _, lstOf_ref hps1, hz, ?_⟩
        exact leaf (.lot (.str x)) _ _ _ rfl trivial P1 O1
      | some ws =>
        obtain ⟨r, rfl, hra, hrq, hr, hwl, hmk⟩ := e4.1
        have hr2 := O2 r _ hra hrq hr
        refine ⟨_, eqK_rs hr2, ?_⟩
        walk_at "go"
        intro g hg
        have hga := P2.neA hg
        have hgq := P2.neQ hg
        refine comp_inv (fun rem acc m2 => ∃ (wpre wrem : List Str) (ms : List (Str × List D)), ws = wpre ++ wrem ∧ rem = wrem.map .str ∧ ms.map (·.1) = wpre ∧ acc = ms.map mkD ∧ Pool m2 a q ∧ OffS a q m' m2 ∧ m2 g = some (.lst acc)) (fun d rem acc m4 R2 hR2 ⟨wpre, wrem, ms, f1, f2, f3, f4, P4, O4, f5⟩ => ?_) (fun acc m4 ⟨wpre, wrem, ms, f1, f2, f3, f4, P4, O4, f5⟩ => ?_) ⟨[], ws, [], rfl, rfl, rfl, rfl, P2.new hg, (OffS.refl a q m').new hg, mset_same⟩
        · refine ⟨seqOf_ref (O4 r _ hra hrq hr2), ?_⟩
          cases wrem with
          | nil => cases f2
          | cons x wrem =>
            rw [List.map_cons] at f2
            injection f2 with f2 f6
            subst f2
            walk_at "go"
            refine ⟨a, q, x, rfl, hmk x (by rw [f1]; simp), P4, fun rest m5 P5 O5 => ?_⟩
            have hg5 := O5 g _ hga hgq f5
            refine ⟨hg5, ?_, hR2 _ _ ⟨wpre ++ [x], wrem, ms ++ [(x, rest)], by rw [f1]; simp, f6, by rw [List.map_append, f3]; rfl, by rw [f4, List.map_append]; rfl, P5.set hga hgq, offF (O4.trans O5) hg, mset_same⟩⟩
            have z := congrArg List.length f3
            have z2 := congrArg List.length f1
            rw [List.length_map] at z
            rw [List.length_append] at z2
            rw [f4, List.length_map]
            exact Nat.lt_of_lt_of_le (by omega : _ < 100) (by decide)
        · refine ⟨seqOf_ref (O4 r _ hra hrq hr2), f5, _, seqOf_ref f5, f, _, lstOf_ref (O4 f _ hfa hfq hps), hz, ?_⟩
          have hw0 : wrem = [] := by cases wrem with | nil => rfl | cons _ _ => cases f2
          rw [hw0, List.append_nil] at f1
          rw [f4]
          refine leaf (.plain ms) _ _ _ ?_ ?_ P4 O4
          · show some (ms.map (·.1)) = some ws
            rw [f3, f1]
          · show ms.length ≤ 1000
            have z := congrArg List.length f3
            rw [List.length_map] at z
            rw [z, ← f1, hwl]
            omega
  · rintro s' m' ⟨cpre, kpre, kpost, ps, e1, e2, e3, e4, ⟨c1, c2, rfl⟩, e5, e6, P2, O2, hps⟩
    refine ⟨seqOf_ref (O2 p _ hpa hpq hc), ?_⟩
    have hk : kpre = ks := by
      cases kpost with
      | nil => rw [e2, List.append_nil]
      | cons _ _ => exact e4.elim
    walk_at "go"
    refine ⟨_, _, _, rfl, by assumption, by omega, by omega, fun r1 m1 r1_0 r1_1 P1 O1 => ?_⟩
    obtain ⟨xs, hxs, x, hx⟩ := (hw.off hwa hwq (O2.trans O1)).get r1_0 r1_1
    have hps1 := O1 f _ hfa hfq hps
    walk_at "go"
    refine ⟨xs, hxs, _, hx, _, seqOf_ref hps1, ?_⟩
    refine ⟨a, q, pw, es, rfl, hes, hwa, hwq, hw.off hwa hwq (O2.trans O1), P1, fun ts m2 P3 O3 => ?_⟩
    exact sub_refl_fin (h _ ps _ _ (e5.trans hk) e6 P3 ((O2.trans O1).trans O3))
end
end K19

set_option Elab.async false
set_option linter.all false
set_option maxRecDepth 100000
set_option maxHeartbeats 4000000
namespace K19
open PySem PySem.Spec PyProof.Rows L2 PD
local macro_rules | `(tactic| walk_at "pd") => `(tactic| simp (config := { decide := true, maxSteps := 400000 }) only [dSeq, dSet, dAsg, dgN, dRet, dRetN, dIfS, dFor, dLoop, dDrop, dNext, dVar, dC, dNil, dCons, dOp, dUn, dTest, dTru, dAnd, dOr, dNot, dAndV, dOrV, dNotV, dIfE, dTup, dLst, dCB, dCall, dBM, dBM0, dLc, dComp, dYes, dgTup, dgCons, dgNil, dgSub, dPart, dNoPart, dAug, dIsi, dEq, dNe, wipeD, endsOf,
  dAdd_i, dAdd_s, dAdd_t, dAdd_r, dSub_i, dInt2_i, dMul_i, dMul_s, dNeg_i, dCmp_i, dIsN_n, dNotN_n, dInG_t, dInG_r, dIx_s, dIx_t, dIx_r, dLen_s, dLen_t, dLen_r, dTuple_1, dList_1, dInt1_i, dTwo_i, dSl_v, dSlV_t, dSlV_r, dRev_v, dRevV_t, dRevV_r, dISeq_v, dISeqV_t, dISeqV_r, dIEnum_v, dIEnumV_t, dIEnumV_r, dPop_0, dPop_i, dAppend_1, dExtend_1, dSub3_i, dSortP_r, dIRng1_v, dRng1V_i,
  seqOf_tup, seqOf_rol, seqW_tup, eqK_ss, eqK_ii, eqK_bb, eqK_nn, eqK_ts, eqK_st, eqK_ti, eqK_is, eqK_ns, flatD_str, flatD_int, flatD_bl, flatD_non, isT_NoneType_bool, isT_NoneType_int, isT_NoneType_str, isT_NoneType_tuple, isT_NoneType_list, isT_bool_bool, isT_bool_int, isT_bool_str, isT_bool_tuple, isT_bool_list, isT_int_bool, isT_int_int, isT_int_str, isT_int_tuple, isT_int_list, isT_str_bool, isT_str_int, isT_str_str, isT_str_tuple, isT_str_list, isT_tuple_bool, isT_tuple_int, isT_tuple_str, isT_tuple_tuple, isT_tuple_list, isT_list_bool, isT_list_int, isT_list_str, isT_list_tuple, isT_list_list, isNon_non, isNon_bl, isNon_int, isNon_str, isNon_tup, tyD_non, tyD_bl, tyD_int, tyD_str, tyD_tup, truD_bl, truD_int, truD_tup,
  atI_0, atI_1, atI_2, atI_3, atI_4, atI_m1, atI_m2, atI_m3, Option.some.injEq, exists_eq_left', exists_eq_left, beq_self_eq_true, Bool.not_true, Bool.not_false, if_true, if_false, true_and, and_true, Bool.false_eq_true, ↓reduceIte,
  List.getElem?_cons_zero, List.getElem?_cons_succ, List.set_cons_zero, List.set_cons_succ, List.map_cons, List.map_nil, List.length_cons, List.length_nil, mset_same, mset_mset, List.isEmpty_nil, List.isEmpty_cons, decide_eq_true_eq, beq_iff_eq, seqI_0, List.eraseIdx_cons_zero, List.eraseIdx_cons_succ, ixN_40, ixN_41, ixN_42, ixN_43, Nat.reduceAdd])
local macro_rules | `(tactic| walk_at "ne") => `(tactic| first | assumption | exact Ne.symm (by assumption))
local macro_rules | `(tactic| walk_at "mu") => `(tactic| first | exact mset_same | assumption | exact mset_skip (by walk_at "ne") (by walk_at "mu"))
local macro_rules | `(tactic| walk_at "go") => `(tactic| repeat (first | walk_at "pd" | refine ⟨_, seqOf_ref (by walk_at "mu"), ?_⟩ | refine ⟨⟨_, _, lstOf_ref (by walk_at "mu")⟩, ?_⟩ | refine ⟨_, _, lstOf_ref (by walk_at "mu"), ?_⟩ | refine ⟨(show CMul _ _ from Or.inr ⟨by decide, by decide⟩), ?_⟩ | refine ⟨(show CDiv _ _ from ⟨by decide, by decide⟩), ?_⟩))
def noteD (a : Ak) : D := .tup [akD a, .tup ((judgesA a).map .str), .tup ((insA a).map akD), .int (firstsA a : Nat)]
theorem firsts_le : ∀ a : Ak, firstsA a ≤ sizeA a := fun a => by
  unfold firstsA
  exact Nat.le_trans (List.length_filter_le ..) (Nat.le_of_eq (all_len a))
theorem judge_head : ∀ a : Ak, firstsA a = 0 → ∃ j js, judgesA a = j :: js
  | .one _ j, _ => ⟨j, [], rfl⟩
  | .sm _ _ j, _ => ⟨j, [], rfl⟩
  | .fst, h => absurd h (by decide)
  | .each j b, _ => ⟨j, judgesA b, rfl⟩
  | .two w a b, h => by
    rw [firsts_two] at h
    obtain ⟨j, js, e⟩ := judge_head a (by omega)
    exact ⟨j, js ++ judgesA b, by rw [judges_two, e]; rfl⟩
theorem ak_word : ∀ a : Ak, ∃ x rest, akD a = .tup (.str x :: rest) ∧ x.length ≤ 1000
  | .one w j => ⟨w.s, _, rfl, by cases w <;> decide⟩
  | .sm w n j => ⟨w.s, _, rfl, by cases w <;> decide⟩
  | .fst => ⟨_, _, rfl, by decide⟩
  | .each j b => ⟨_, _, rfl, by decide⟩
  | .two w a b => ⟨w.s, _, rfl, by cases w <;> decide⟩
def Notes (m : Mu) (u : Addr) (l : List Ak) : Prop := m u = some (.lst (l.map noteD)) ∧ ∀ x ∈ l, sizeA x ≤ 7
section
variable {P : Program} {w : World} {K : PySem.W.Frag} {mg : Str → Option Value} {base : Heap}
def sp__law_side : SpD := fun ds m Q => ∃ A u l, ds = [noteD A, .ref u] ∧ firstsA A = 0 ∧ sizeA A ≤ 7 ∧ l.length ≤ 1000 ∧ Notes m u l ∧ ∀ A' l' m', sizeA A' ≤ sizeA A → firstsA A' = 0 → Notes m' u l' → l'.length ≤ l.length + 1 → (∀ x o, x ≠ u → m x = some o → m' x = some o) → Q (noteD A') m'
theorem ok__law_side  (T : Txt K mg)  : FnOk P w K mg base CX0 (1) T.f__law_side T.fd__law_side ["note", "notes"] (spL K 2 sp__law_side) := by
  refine fn_ok T.F__law_side sc__law_side (fun cdv A outer s H E hr =>
(gss_cons (gs_if (gt_cmpR op_inU lr_in (ge_ix (ge_ix (gv 0) ge_int) ge_int) (ge_lst (ga_cons ge_str (ga_cons ge_str ga_nil))) (by rfl))
 (gss_one (gs_ret (gv 0)))
 gss_nil)
 (gss_cons (gs_set (i := 2) sc__law_side.nd rfl (.inl rfl) (ge_ix (ge_lst (ga_cons ge_str (ga_cons ge_str ga_nil))) (ge_op op_mod lr_int2 (ge_callB call_lenU lc_len (by rfl) T.z_len PySem.boot_len (ga_cons (ge_ix (ge_ix (gv 0) ge_int) ge_int) ga_nil)) ge_int)))
 (gss_cons (gs_set (i := 3) sc__law_side.nd rfl (.inl rfl) (ge_tup (ga_cons (ge_tup (ga_cons (gv 2) (ga_cons (ge_ix (ge_ix (gv 0) ge_int) ge_int) ga_nil))) (ga_cons (ge_slice (ge_ix (gv 0) ge_int) go_none (go_some ge_int)) (ga_cons (ge_tup ga_nil) (ga_cons ge_int ga_nil))))))
 (gss_cons (gs_expr (ge_bm PySem.F.slot_list_append PySem.F.type_list_append mt_append lm_append (gv 1) (ga_cons (gv 3) ga_nil)))
 (gss_one (gs_ret (gv 3)))))))) (fun ds m Q h => ?_)
  obtain ⟨A, u, l, rfl, hA, hs, hl, hn, h⟩ := h
  rw [show startD N__law_side [noteD A, .ref u] = [some (noteD A), some (.ref u), none, none] from rfl]
  obtain ⟨x, rest, e, hx⟩ := ak_word A
  obtain ⟨j, js, e2⟩ := judge_head A hA
  have hD : noteD A = .tup [.tup (.str x :: rest), .tup (.str j :: js.map .str), .tup ((insA A).map akD), .int (firstsA A : Nat)] := by unfold noteD; rw [e, e2]; rfl
  rw [hD]
  walk_at "go"
  intro p hp
  have hup : u ≠ p := mne hp hn.1
  refine ⟨_, seqOf_ref mset_same, rfl, ?_⟩
  split
  · rw [← hD]
    exact sub_refl_fin (h A l _ (Nat.le_refl _) hA ⟨by rw [mset_ne hup]; exact hn.1, hn.2⟩ (by omega) fun x o _ hx => mset_new hp hx)
  · intro p2 hp2
    refine ⟨small_line hx, ?_⟩
    refine ⟨_, seqOf_ref mset_same, ?_⟩
    have hu2 := mset_new hp2 (o := .lst [.str "least", .str "greatest"]) (show mset m p (.lst [.str "least", .str "greatest"]) u = _ by rw [mset_ne hup]; exact hn.1)
    obtain ⟨wd, hwd⟩ : ∃ wd : W1, atI [D.str "least", .str "greatest"] ((x.length : Int) % 2) = some (.str wd.s) := by
      rcases (show (x.length : Int) % 2 = 0 ∨ (x.length : Int) % 2 = 1 by omega) with e | e <;> rw [e]
      · exact ⟨.least, rfl⟩
      · exact ⟨.greatest, rfl⟩
    refine ⟨_, hwd, ⟨_, _, lstOf_ref hu2⟩, u, _, lstOf_ref hu2, ?_, ?_⟩
    · rw [List.length_map]
      exact Nat.lt_of_lt_of_le (by omega : _ < 1001) (by decide)
    · have e3 : PD.cutD (D.str j :: js.map .str) none (some 1) = [.str j] := by
        unfold PD.cutD HT.sIx
        simp
      rw [e3]
      refine sub_refl_fin (h (.one wd j) (l ++ [.one wd j]) _ (size_pos A) rfl ⟨by rw [mset_same, List.map_append]; rfl, fun y hy => ?_⟩ (by rw [List.length_append]; exact Nat.le_refl _) fun y o hy e => ?_)
      · rcases List.mem_append.mp hy with h1 | h1
        · exact hn.2 y h1
        · rw [List.mem_singleton] at h1
          subst h1
          show 1 ≤ 7
          omega
      · rw [mset_ne hy]
        exact mset_new hp2 (mset_new hp e)
end
end K19

set_option Elab.async false
set_option linter.all false
set_option maxRecDepth 100000
set_option maxHeartbeats 8000000
namespace K19
open PySem PySem.Spec PyProof.Rows L2 PD
local macro_rules | `(tactic| walk_at "pd") => `(tactic| simp (config := { decide := true, maxSteps := 400000 }) only [dSeq, dSet, dAsg, dgN, dRet, dRetN, dIfS, dFor, dLoop, dDrop, dNext, dVar, dC, dNil, dCons, dOp, dUn, dTest, dTru, dAnd, dOr, dNot, dAndV, dOrV, dNotV, dIfE, dTup, dLst, dCB, dCall, dBM, dBM0, dLc, dComp, dYes, dgTup, dgCons, dgNil, dgSub, dPart, dNoPart, dAug, dIsi, dEq, dNe, wipeD, endsOf,
  dAdd_i, dAdd_s, dAdd_t, dAdd_r, dSub_i, dInt2_i, dMul_i, dMul_s, dNeg_i, dCmp_i, dIsN_n, dNotN_n, dInG_t, dInG_r, dIx_s, dIx_t, dIx_r, dLen_s, dLen_t, dLen_r, dTuple_1, dList_1, dInt1_i, dTwo_i, dSl_v, dSlV_t, dSlV_r, dRev_v, dRevV_t, dRevV_r, dISeq_v, dISeqV_t, dISeqV_r, dIEnum_v, dIEnumV_t, dIEnumV_r, dPop_0, dPop_i, dAppend_1, dExtend_1, dSub3_i, dSortP_r, dIRng1_v, dRng1V_i,
  seqOf_tup, seqOf_rol, seqW_tup, eqK_ss, eqK_ii, eqK_bb, eqK_nn, eqK_ts, eqK_st, eqK_ti, eqK_is, eqK_ns, flatD_str, flatD_int, flatD_bl, flatD_non, isT_NoneType_bool, isT_NoneType_int, isT_NoneType_str, isT_NoneType_tuple, isT_NoneType_list, isT_bool_bool, isT_bool_int, isT_bool_str, isT_bool_tuple, isT_bool_list, isT_int_bool, isT_int_int, isT_int_str, isT_int_tuple, isT_int_list, isT_str_bool, isT_str_int, isT_str_str, isT_str_tuple, isT_str_list, isT_tuple_bool, isT_tuple_int, isT_tuple_str, isT_tuple_tuple, isT_tuple_list, isT_list_bool, isT_list_int, isT_list_str, isT_list_tuple, isT_list_list, isNon_non, isNon_bl, isNon_int, isNon_str, isNon_tup, tyD_non, tyD_bl, tyD_int, tyD_str, tyD_tup, truD_bl, truD_int, truD_tup,
  atI_0, atI_1, atI_2, atI_3, atI_4, atI_m1, atI_m2, atI_m3, Option.some.injEq, exists_eq_left', exists_eq_left, beq_self_eq_true, Bool.not_true, Bool.not_false, if_true, if_false, true_and, and_true, Bool.false_eq_true, ↓reduceIte,
  List.getElem?_cons_zero, List.getElem?_cons_succ, List.set_cons_zero, List.set_cons_succ, List.map_cons, List.map_nil, List.length_cons, List.length_nil, mset_same, mset_mset, List.isEmpty_nil, List.isEmpty_cons, decide_eq_true_eq, beq_iff_eq, seqI_0, List.eraseIdx_cons_zero, List.eraseIdx_cons_succ, ixN_40, ixN_41, ixN_42, ixN_43, Nat.reduceAdd])
local macro_rules | `(tactic| walk_at "ne") => `(tactic| first | assumption | exact Ne.symm (by assumption))
local macro_rules | `(tactic| walk_at "mu") => `(tactic| first | exact mset_same | assumption | exact mset_skip (by walk_at "ne") (by walk_at "mu"))
local macro_rules | `(tactic| walk_at "go") => `(tactic| repeat (first | walk_at "pd" | refine ⟨_, seqOf_ref (by walk_at "mu"), ?_⟩ | refine ⟨⟨_, _, lstOf_ref (by walk_at "mu")⟩, ?_⟩ | refine ⟨_, _, lstOf_ref (by walk_at "mu"), ?_⟩ | refine ⟨(show CMul _ _ from Or.inr ⟨by decide, by decide⟩), ?_⟩ | refine ⟨(show CDiv _ _ from ⟨by decide, by decide⟩), ?_⟩))
def Off3 (a q u : Addr) (m m' : Mu) : Prop := ∀ x o, x ≠ a → x ≠ q → x ≠ u → m x = some o → m' x = some o
theorem Off3.of {a q u : Addr} {m m' : Mu} (h : OffS a q m m') : Off3 a q u m m' := fun x o n1 n2 _ e => h x o n1 n2 e
theorem Off3.ofU {a q u : Addr} {m m' : Mu} (h : ∀ x o, x ≠ u → m x = some o → m' x = some o) : Off3 a q u m m' := fun x o _ _ n3 e => h x o n3 e
theorem Off3.trans {a q u : Addr} {m m1 m2 : Mu} (h : Off3 a q u m m1) (h' : Off3 a q u m1 m2) : Off3 a q u m m2 := fun x o n1 n2 n3 e => h' x o n1 n2 n3 (h x o n1 n2 n3 e)
theorem Off3.setU {a q u : Addr} {m m1 : Mu} {o : MO} (h : Off3 a q u m m1) : Off3 a q u m (mset m1 u o) := fun x v n1 n2 n3 e => by rw [mset_ne n3]; exact h x v n1 n2 n3 e
theorem Off3.new {a q u p : Addr} {m m1 : Mu} {o : MO} (h : Off3 a q u m m1) (hp : m1 p = none) : Off3 a q u m (mset m1 p o) := fun x v n1 n2 n3 e => mset_new hp (h x v n1 n2 n3 e)
theorem Words.off3 {a q u p : Addr} {m m' : Mu} (h : Words m p) (n1 : p ≠ a) (n2 : p ≠ q) (n3 : p ≠ u) (o : Off3 a q u m m') : Words m' p := by
  obtain ⟨x, y, z, e⟩ := h
  exact ⟨x, y, z, o p _ n1 n2 n3 e⟩
theorem Notes.off {a q u : Addr} {m m' : Mu} {l : List Ak} (h : Notes m u l) (n1 : u ≠ a) (n2 : u ≠ q) (o : OffS a q m m') : Notes m' u l := ⟨o u _ n1 n2 h.1, h.2⟩
theorem Pool.offU {a q u : Addr} {m m' : Mu} (h : Pool m a q) (n1 : u ≠ a) (n2 : u ≠ q) (o : ∀ x o, x ≠ u → m x = some o → m' x = some o) : Pool m' a q :=
  let ⟨n, xs, b, c, e, h1, h2⟩ := h
  ⟨n, xs, b, c, e, o a _ n1.symm h1, o q _ n2.symm h2⟩
theorem note_each (j : Str) (b : Ak) : noteD (.each j b) = .tup [.tup [.str "each", .str j, akD b], .tup ([.str j] ++ (judgesA b).map .str), .tup [akD b], .int (firstsA b : Nat)] := rfl
theorem note_two (w : W3) (a b : Ak) : noteD (.two w a b) = .tup [.tup [.str w.s, akD a, akD b], .tup ((judgesA a).map .str ++ (judgesA b).map .str), .tup [akD a, akD b], .int ((firstsA a : Nat) + (firstsA b : Nat))] := by
  unfold noteD
  rw [judges_two, firsts_two, List.map_append, Int.natCast_add]
  rfl
theorem judges_len (a : Ak) : (judgesA a).length ≤ sizeA a := Nat.le_trans (fm_len _) (Nat.le_of_eq (all_len a))
def sp_ask (n : Nat) : SpD := fun ds m Q => ∃ a q pw u room l, ds = [.ref a, .int room, .ref pw, .ref u] ∧ 1 ≤ room ∧ room ≤ n ∧ room ≤ 4 ∧ pw ≠ a ∧ pw ≠ q ∧ pw ≠ u ∧ u ≠ a ∧ u ≠ q ∧ Words m pw ∧ Pool m a q ∧ Notes m u l ∧ (l.length : Int) + 4 * room ≤ 100 ∧
  ∀ A l' m', (sizeA A : Int) ≤ 2 * room - 1 → (l'.length : Int) ≤ l.length + 4 * room - 3 → Notes m' u l' → Pool m' a q → Off3 a q u m m' → Q (noteD A) m'
section
variable {P : Program} {w : World} {K : PySem.W.Frag} {mg : Str → Option Value} {base : Heap}
theorem ask_turn {k : Nat} {sq : SpD} (n : Nat) (hk : 2 ≤ k) (T : Txt K mg) (hs : ∀ ds m Q, 0 < n → sp_ask (n - 1) ds m Q → sq ds m Q)
    (G__law_pick : FnOk P w K mg base CX0 1 T.f__law_pick T.fd__law_pick ["pool", "many"] (spL K 2 sp__law_pick))
    (G__law_side : FnOk P w K mg base CX0 1 T.f__law_side T.fd__law_side ["note", "notes"] (spL K 2 sp__law_side))
    (G__law_ask : FnOk P w K mg base CX0 k T.f__law_ask T.fd__law_ask ["pool", "room", "words", "notes"] (spL K 4 sq)) :
    FnOk P w K mg base CX0 (k + 1) T.f__law_ask T.fd__law_ask ["pool", "room", "words", "notes"] (spL K 4 (sp_ask n)) := by
  refine fn_ok T.F__law_ask sc__law_ask (fun cdv A outer s H E hr =>
(gss_cons (gs_set (i := 4) sc__law_ask.nd rfl (.inl rfl) (ge_call G__law_pick (hr.mono (by omega)) (by rfl) T.g__law_pick T.F__law_pick.kp T.b__law_pick (ga_cons (gv 0) (ga_cons ge_int ga_nil))))
 (gss_cons (gs_if (gt_cmpR (op_eqS hr.units) lr_eq (gv 1) ge_int (nomark _))
 (gss_cons (gs_set (i := 5) sc__law_ask.nd rfl (.inl rfl) (ge_lst (ga_cons ge_str (ga_cons ge_str (ga_cons ge_str (ga_cons ge_str (ga_cons ge_str (ga_cons ge_str (ga_cons ge_str (ga_cons ge_str (ga_cons ge_str ga_nil)))))))))))
 (gss_cons (gs_set (i := 6) sc__law_ask.nd rfl (.inl rfl) (ge_ix (gv 5) (ge_callB (call_min2 rfl) lc_two (by rfl) T.z_min (by decide +kernel) (ga_cons (ge_call G__law_pick (hr.mono (by omega)) (by rfl) T.g__law_pick T.F__law_pick.kp T.b__law_pick (ga_cons (gv 0) (ga_cons ge_int ga_nil))) (ga_cons ge_int ga_nil)))))
 (gss_cons (gs_set (i := 7) sc__law_ask.nd rfl (.inl rfl) (ge_ix (gv 2) (ge_call G__law_pick (hr.mono (by omega)) (by rfl) T.g__law_pick T.F__law_pick.kp T.b__law_pick (ga_cons (gv 0) (ga_cons ge_int ga_nil)))))
 (gss_cons (gs_set (i := 8) sc__law_ask.nd rfl (.inl rfl) (ge_tup (ga_cons (ge_tup (ga_cons (gv 6) (ga_cons (gv 7) ga_nil))) (ga_cons (ge_tup (ga_cons (gv 7) ga_nil)) (ga_cons (ge_tup ga_nil) (ga_cons ge_int ga_nil))))))
 (gss_one (gs_if (gt_cmpR (op_eqS hr.units) lr_eq (gv 6) ge_str (nomark _))
 (gss_one (gs_set (i := 8) sc__law_ask.nd rfl (.inl rfl) (ge_tup (ga_cons (ge_tup (ga_cons ge_str ga_nil)) (ga_cons (ge_tup ga_nil) (ga_cons (ge_tup ga_nil) (ga_cons ge_int ga_nil)))))))
 (gss_one (gs_if (gw_or (gt_cmpR (op_eqS hr.units) lr_eq (gv 6) ge_str (nomark _)) (gw_or1 (gt_cmpR (op_eqS hr.units) lr_eq (gv 6) ge_str (nomark _)))).gt
 (gss_one (gs_set (i := 8) sc__law_ask.nd rfl (.inl rfl) (ge_tup (ga_cons (ge_tup (ga_cons (gv 6) (ga_cons (ge_op op_addU lr_add ge_int (ge_call G__law_pick (hr.mono (by omega)) (by rfl) T.g__law_pick T.F__law_pick.kp T.b__law_pick (ga_cons (gv 0) (ga_cons ge_int ga_nil)))) (ga_cons (gv 7) ga_nil)))) (ga_cons (ge_tup (ga_cons (gv 7) ga_nil)) (ga_cons (ge_tup ga_nil) (ga_cons ge_int ga_nil)))))))
 (gss_one (gs_if (gt_cmpR (op_eqS hr.units) lr_eq (gv 6) ge_str (nomark _))
 (gss_one (gs_set (i := 8) sc__law_ask.nd rfl (.inl rfl) (ge_tup (ga_cons (ge_tup (ga_cons (gv 6) (ga_cons (ge_call G__law_pick (hr.mono (by omega)) (by rfl) T.g__law_pick T.F__law_pick.kp T.b__law_pick (ga_cons (gv 0) (ga_cons ge_int ga_nil))) (ga_cons (gv 7) ga_nil)))) (ga_cons (ge_tup (ga_cons (gv 7) ga_nil)) (ga_cons (ge_tup ga_nil) (ga_cons ge_int ga_nil)))))))
 gss_nil))))))))))
 (gss_one (gs_if (gt_cmpR (op_eqS hr.units) lr_eq (gv 4) ge_int (nomark _))
 (gss_cons (gs_set (i := 7) sc__law_ask.nd rfl (.inl rfl) (ge_ix (gv 2) (ge_call G__law_pick (hr.mono (by omega)) (by rfl) T.g__law_pick T.F__law_pick.kp T.b__law_pick (ga_cons (gv 0) (ga_cons ge_int ga_nil)))))
 (gss_cons (gs_set (i := 9) sc__law_ask.nd rfl (.inl rfl) (ge_call G__law_ask (hr.mono (by omega)) (by rfl) T.g__law_ask T.F__law_ask.kp T.b__law_ask (ga_cons (gv 0) (ga_cons (ge_op op_sub lr_sub (gv 1) ge_int) (ga_cons (gv 2) (ga_cons (gv 3) ga_nil))))))
 (gss_one (gs_set (i := 8) sc__law_ask.nd rfl (.inl rfl) (ge_tup (ga_cons (ge_tup (ga_cons ge_str (ga_cons (gv 7) (ga_cons (ge_ix (gv 9) ge_int) ga_nil)))) (ga_cons (ge_op op_addU lr_add (ge_tup (ga_cons (gv 7) ga_nil)) (ge_ix (gv 9) ge_int)) (ga_cons (ge_tup (ga_cons (ge_ix (gv 9) ge_int) ga_nil)) (ga_cons (ge_ix (gv 9) ge_int) ga_nil)))))))))
 (gss_cons (gs_set (i := 10) sc__law_ask.nd rfl (.inl rfl) (ge_op op_addU lr_add ge_int (ge_call G__law_pick (hr.mono (by omega)) (by rfl) T.g__law_pick T.F__law_pick.kp T.b__law_pick (ga_cons (gv 0) (ga_cons (ge_op op_sub lr_sub (gv 1) ge_int) ga_nil)))))
 (gss_cons (gs_set (i := 11) sc__law_ask.nd rfl (.inl rfl) (ge_call G__law_ask (hr.mono (by omega)) (by rfl) T.g__law_ask T.F__law_ask.kp T.b__law_ask (ga_cons (gv 0) (ga_cons (gv 10) (ga_cons (gv 2) (ga_cons (gv 3) ga_nil))))))
 (gss_cons (gs_set (i := 12) sc__law_ask.nd rfl (.inl rfl) (ge_call G__law_ask (hr.mono (by omega)) (by rfl) T.g__law_ask T.F__law_ask.kp T.b__law_ask (ga_cons (gv 0) (ga_cons (ge_op op_sub lr_sub (gv 1) (gv 10)) (ga_cons (gv 2) (ga_cons (gv 3) ga_nil))))))
 (gss_cons (gs_set (i := 6) sc__law_ask.nd rfl (.inl rfl) (ge_ix (ge_lst (ga_cons ge_str (ga_cons ge_str (ga_cons ge_str ga_nil)))) (ge_op op_sub lr_sub (gv 4) ge_int)))
 (gss_cons (gs_if (gw_and (gt_cmpR (op_neS hr.units) lr_ne (gv 4) ge_int (nomark _)) (gw_and1 (gt_cmpR op_gt lr_cmp (ge_op op_addU lr_add (ge_ix (gv 11) ge_int) (ge_op op_mulU lr_mul (ge_ix (gv 12) ge_int) (ge_op op_sub lr_sub (gv 4) ge_int))) ge_int (nomark _)))).gt
 (gss_one (gs_set (i := 6) sc__law_ask.nd rfl (.inl rfl) ge_str))
 gss_nil)
 (gss_cons (gs_if (gt_cmpR (op_neS hr.units) lr_ne (gv 6) ge_str (nomark _))
 (gss_one (gs_set (i := 11) sc__law_ask.nd rfl (.inl rfl) (ge_call G__law_side (hr.mono (by omega)) (by rfl) T.g__law_side T.F__law_side.kp T.b__law_side (ga_cons (gv 11) (ga_cons (gv 3) ga_nil)))))
 gss_nil)
 (gss_cons (gs_if (gt_cmpR (op_eqS hr.units) lr_eq (gv 6) ge_str (nomark _))
 (gss_one (gs_set (i := 12) sc__law_ask.nd rfl (.inl rfl) (ge_call G__law_side (hr.mono (by omega)) (by rfl) T.g__law_side T.F__law_side.kp T.b__law_side (ga_cons (gv 12) (ga_cons (gv 3) ga_nil)))))
 gss_nil)
 (gss_one (gs_set (i := 8) sc__law_ask.nd rfl (.inl rfl) (ge_tup (ga_cons (ge_tup (ga_cons (gv 6) (ga_cons (ge_ix (gv 11) ge_int) (ga_cons (ge_ix (gv 12) ge_int) ga_nil)))) (ga_cons (ge_op op_addU lr_add (ge_ix (gv 11) ge_int) (ge_ix (gv 12) ge_int)) (ga_cons (ge_tup (ga_cons (ge_ix (gv 11) ge_int) (ga_cons (ge_ix (gv 12) ge_int) ga_nil))) (ga_cons (ge_op op_addU lr_add (ge_ix (gv 11) ge_int) (ge_ix (gv 12) ge_int)) ga_nil)))))))))))))))))
 (gss_cons (gs_expr (ge_bm PySem.F.slot_list_append PySem.F.type_list_append mt_append lm_append (gv 3) (ga_cons (gv 8) ga_nil)))
 (gss_one (gs_ret (gv 8))))))) (fun ds m Q h => ?_)
  obtain ⟨a, q, pw, u, room, l, rfl, hr1, hrn, hr4, wa, wq, wu, ua, uq, hw, hP, hN, hl, h⟩ := h
  rw [show startD N__law_ask [.ref a, .int room, .ref pw, .ref u] = [some (.ref a), some (.int room), some (.ref pw), some (.ref u), none, none, none, none, none, none, none, none, none] from rfl]
  have fin : ∀ (A : Ak) (l2 : List Ak) (m2 : Mu), (sizeA A : Int) ≤ 2 * room - 1 → (l2.length : Int) + 1 ≤ l.length + 4 * room - 3 → Notes m2 u l2 → Pool m2 a q → Off3 a q u m m2 → (∃ a ds, lstOf m2 (.ref u) = some (a, ds)) ∧ ∃ a_1 es, lstOf m2 (.ref u) = some (a_1, es) ∧ es.length < sizeLine ∧ ∃ m'', PD.Sub m'' (mset m2 a_1 (.lst (es ++ [noteD A]))) ∧ Q (noteD A) m'' := fun A l2 m2 h1 h2 h3 h4 h5 => by
    refine ⟨⟨_, _, lstOf_ref h3.1⟩, u, _, lstOf_ref h3.1, ?_, sub_refl_fin (h A (l2 ++ [A]) _ h1 ?_ ⟨by rw [mset_same, List.map_append]; rfl, fun y hy => ?_⟩ (h4.set ua uq) h5.setU)⟩
    · rw [List.length_map]
      exact Nat.lt_of_lt_of_le (by omega : _ < 1001) (by decide)
    · rw [List.length_append, List.length_singleton]; omega
    · rcases List.mem_append.mp hy with h6 | h6
      · exact h3.2 y h6
      · rw [List.mem_singleton] at h6
        subst h6
        omega
  walk_at "go"
  refine ⟨_, _, _, rfl, by assumption, by omega, by omega, fun r1 m1 r1_0 r1_1 P1 O1 => ?_⟩
  walk_at "go"
  split
  · rename_i hroom
    subst hroom
    walk_at "go"
    intro p hp
    have hpa := P1.neA hp
    have hpq := P1.neQ hp
    have hup : u ≠ p := mne hp (O1 u _ ua uq hN.1)
    have P0 : Pool (mset m1 p (.lst [.str "least", .str "greatest", .str "best", .str "ends", .str "within", .str "spread", .str "total", .str "names", .str "first"])) a q := P1.new hp
    have O0 := O1.new hp (o := .lst [.str "least", .str "greatest", .str "best", .str "ends", .str "within", .str "spread", .str "total", .str "names", .str "first"])
    refine ⟨_, _, _, rfl, by assumption, by omega, by omega, fun r2 m2 r2_0 r2_1 P2 O2 => ?_⟩
    have hp2 := O2 p _ hpa hpq mset_same
    walk_at "go"
    have e0 : 0 ≤ (if 8 < r2 then 8 else r2 : Int) ∧ (if 8 < r2 then 8 else r2 : Int) < 9 := by split <;> omega
    obtain ⟨v, hv, hm⟩ := atI_ex (xs := [D.str "least", .str "greatest", .str "best", .str "ends", .str "within", .str "spread", .str "total", .str "names", .str "first"]) e0.1 (by exact e0.2)
    refine ⟨v, hv, ?_⟩
    clear hv e0
    walk_at "go"
    refine ⟨_, _, _, rfl, by assumption, by omega, by omega, fun r3 m3 r3_0 r3_1 P3 O3 => ?_⟩
    obtain ⟨xs, hxs, x, hx⟩ := (hw.off wa wq ((O0.trans O2).trans O3)).get r3_0 r3_1
    have O3' := (O0.trans O2).trans O3
    have one := fun wd : W1 => fin (.one wd x) l m3 (by show ((1 : Nat) : Int) ≤ 2 * 1 - 1; decide) (by omega) (hN.off ua uq O3') P3 (.of O3')
    have sm := fun (wd : W2) (i : Int) (m4 : Mu) (P4 : Pool m4 a q) (O4 : OffS a q m3 m4) => fin (.sm wd i x) l m4 (by show ((1 : Nat) : Int) ≤ 2 * 1 - 1; decide) (by omega) (hN.off ua uq (O3'.trans O4)) P4 (.of (O3'.trans O4))
    have fst := fin .fst l m3 (by show ((1 : Nat) : Int) ≤ 2 * 1 - 1; decide) (by omega) (hN.off ua uq O3') P3 (.of O3')
    walk_at "pd"
    refine ⟨xs, hxs, _, hx, ?_⟩
    simp only [List.mem_cons, List.not_mem_nil, or_false] at hm
    rcases hm with rfl | rfl | rfl | rfl | rfl | rfl | rfl | rfl | rfl
    · walk_at "pd"
      exact one .least
    · walk_at "pd"
      exact one .greatest
    · walk_at "pd"
      refine ⟨_, _, _, rfl, by assumption, by omega, by omega, fun r4 m4 r4_0 r4_1 P4 O4 => ?_⟩
      walk_at "pd"
      exact sm .best _ _ P4 O4
    · walk_at "pd"
      refine ⟨_, _, _, rfl, by assumption, by omega, by omega, fun r4 m4 r4_0 r4_1 P4 O4 => ?_⟩
      walk_at "pd"
      exact sm .ends _ _ P4 O4
    · walk_at "pd"
      refine ⟨_, _, _, rfl, by assumption, by omega, by omega, fun r4 m4 r4_0 r4_1 P4 O4 => ?_⟩
      walk_at "pd"
      exact sm .within _ _ P4 O4
    · walk_at "pd"
      exact one .spread
    · walk_at "pd"
      exact one .total
    · walk_at "pd"
      exact one .names
    · walk_at "pd"
      exact fst
  split
  · rename_i hroom hz
    subst hz
    refine ⟨_, _, _, rfl, by assumption, by omega, by omega, fun r2 m2 r2_0 r2_1 P2 O2 => ?_⟩
    obtain ⟨xs, hxs, x, hx⟩ := (hw.off wa wq (O1.trans O2)).get r2_0 r2_1
    walk_at "pd"
    refine ⟨xs, hxs, _, hx, ?_⟩
    refine hs _ _ _ (by omega) ⟨a, q, pw, u, room - 1, l, rfl, by omega, by omega, by omega, wa, wq, wu, ua, uq, hw.off wa wq (O1.trans O2), P2, hN.off ua uq (O1.trans O2), by omega, fun B l3 m3 s3 g3 N3 P3 O3 => ?_⟩
    have hB : noteD B = .tup [akD B, .tup ((judgesA B).map .str), .tup ((insA B).map akD), .int (firstsA B : Nat)] := rfl
    rw [hB]
    walk_at "pd"
    have jB := judges_len B
    refine ⟨small_line (by rw [List.length_map]; omega), ?_⟩
    have f := fin (.each x B) l3 m3 (by show ((sizeA B + 1 : Nat) : Int) ≤ _; omega) (by omega) N3 P3 ((Off3.of (O1.trans O2)).trans O3)
    rw [note_each] at f
    exact f
  · rename_i hroom hz
    have two : ∀ (w3 : W3) (A B : Ak) (l2 : List Ak) (m2 : Mu), (sizeA A : Int) + sizeA B + 1 ≤ 2 * room - 1 → (l2.length : Int) + 1 ≤ l.length + 4 * room - 3 → Notes m2 u l2 → Pool m2 a q → Off3 a q u m m2 → ((judgesA A).map D.str).length + ((judgesA B).map D.str).length ≤ sizeLine ∧ (∃ a ds, lstOf m2 (.ref u) = some (a, ds)) ∧ ∃ a_1 es, lstOf m2 (.ref u) = some (a_1, es) ∧ es.length < sizeLine ∧ ∃ m'', PD.Sub m'' (mset m2 a_1 (.lst (es ++ [.tup [.tup [.str w3.s, akD A, akD B], .tup ((judgesA A).map .str ++ (judgesA B).map .str), .tup [akD A, akD B], .int ((firstsA A : Nat) + (firstsA B : Nat))]]))) ∧ Q (.tup [.tup [.str w3.s, akD A, akD B], .tup ((judgesA A).map .str ++ (judgesA B).map .str), .tup [akD A, akD B], .int ((firstsA A : Nat) + (firstsA B : Nat))]) m'' := fun w3 A B l2 m2 h1 h2 h3 h4 h5 => by
      have jA := judges_len A
      have jB := judges_len B
      refine ⟨small_line (by rw [List.length_map, List.length_map]; omega), ?_⟩
      have f := fin (.two w3 A B) l2 m2 (by show ((sizeA A + sizeA B + 1 : Nat) : Int) ≤ _; omega) h2 h3 h4 h5
      rw [note_two] at f
      exact f
    refine ⟨_, _, _, rfl, by assumption, by omega, by omega, fun r2 m2 r2_0 r2_1 P2 O2 => ?_⟩
    walk_at "pd"
    refine hs _ _ _ (by omega) ⟨a, q, pw, u, 1 + r2, l, rfl, by omega, by omega, by omega, wa, wq, wu, ua, uq, hw.off wa wq (O1.trans O2), P2, hN.off ua uq (O1.trans O2), by omega, fun A l3 m3 s3 g3 N3 P3 O3 => ?_⟩
    have hA : noteD A = .tup [akD A, .tup ((judgesA A).map .str), .tup ((insA A).map akD), .int (firstsA A : Nat)] := rfl
    walk_at "pd"
    have Q3 := (Off3.of (u := u) (O1.trans O2)).trans O3
    refine hs _ _ _ (by omega) ⟨a, q, pw, u, room - (1 + r2), l3, rfl, by omega, by omega, by omega, wa, wq, wu, ua, uq, hw.off3 wa wq wu Q3, P3, N3, by omega, fun B l4 m4 s4 g4 N4 P4 O4 => ?_⟩
    have hB : noteD B = .tup [akD B, .tup ((judgesA B).map .str), .tup ((insA B).map akD), .int (firstsA B : Nat)] := rfl
    have Q4 := Q3.trans O4
    rw [hA, hB]
    intro p hp
    refine ⟨_, seqOf_ref mset_same, ?_⟩
    have N5 : Notes (mset m4 p (.lst [.str "then", .str "beside", .str "against"])) u l4 := ⟨mset_new hp N4.1, N4.2⟩
    have P5 : Pool (mset m4 p (.lst [.str "then", .str "beside", .str "against"])) a q := P4.new hp
    have Q5 : Off3 a q u m (mset m4 p (.lst [.str "then", .str "beside", .str "against"])) := Q4.new hp
    have sA : sizeA A ≤ 7 := by omega
    have sB : sizeA B ≤ 7 := by omega
    rcases (show r1 = 1 ∨ r1 = 2 ∨ r1 = 3 by omega) with rfl | rfl | rfl
    · refine ⟨_, rfl, ?_⟩
      walk_at "pd"
      refine ⟨.inr ⟨by decide, by decide⟩, ?_⟩
      split
      · exact two .beside A B l4 _ (by omega) (by omega) N5 P5 Q5
      · rename_i hf
        have fA : firstsA A = 0 := by omega
        refine ⟨A, u, l4, rfl, fA, sA, by omega, N5, fun A' l5 m5 s5 f5 N6 g5 o5 => ?_⟩
        have hA' : noteD A' = .tup [akD A', .tup ((judgesA A').map .str), .tup ((insA A').map akD), .int (firstsA A' : Nat)] := rfl
        rw [hA']
        walk_at "pd"
        exact two .thn A' B l5 _ (by omega) (by omega) N6 (P5.offU ua uq o5) (Q5.trans (.ofU o5))
    · refine ⟨_, rfl, ?_⟩
      walk_at "pd"
      exact two .beside A B l4 _ (by omega) (by omega) N5 P5 Q5
    · refine ⟨_, rfl, ?_⟩
      walk_at "pd"
      refine ⟨.inr ⟨by decide, by decide⟩, ?_⟩
      split
      · exact two .beside A B l4 _ (by omega) (by omega) N5 P5 Q5
      · rename_i hf
        have fA : firstsA A = 0 := by omega
        have fB : firstsA B = 0 := by omega
        refine ⟨A, u, l4, rfl, fA, sA, by omega, N5, fun A' l5 m5 s5 f5 N6 g5 o5 => ?_⟩
        refine ⟨B, u, l5, rfl, fB, sB, by omega, N6, fun B' l6 m6 s6 f6 N7 g6 o6 => ?_⟩
        have hA' : noteD A' = .tup [akD A', .tup ((judgesA A').map .str), .tup ((insA A').map akD), .int (firstsA A' : Nat)] := rfl
        have hB' : noteD B' = .tup [akD B', .tup ((judgesA B').map .str), .tup ((insA B').map akD), .int (firstsA B' : Nat)] := rfl
        rw [hA', hB']
        walk_at "pd"
        exact two .against A' B' l6 _ (by omega) (by omega) N7 ((P5.offU ua uq o5).offU ua uq o6) ((Q5.trans (.ofU o5)).trans (.ofU o6))
theorem ask_all (T : Txt K mg)
    (G__law_pick : FnOk P w K mg base CX0 1 T.f__law_pick T.fd__law_pick ["pool", "many"] (spL K 2 sp__law_pick))
    (G__law_side : FnOk P w K mg base CX0 1 T.f__law_side T.fd__law_side ["note", "notes"] (spL K 2 sp__law_side)) : ∀ n : Nat, FnOk P w K mg base CX0 (n + 3) T.f__law_ask T.fd__law_ask ["pool", "room", "words", "notes"] (spL K 4 (sp_ask n))
  | 0 => ask_turn (k := 2) (sq := fun _ _ _ => False) 0 (Nat.le_refl _) T (fun _ _ _ h _ => absurd h (Nat.lt_irrefl 0)) G__law_pick G__law_side FnOk_falso
  | n + 1 => ask_turn (k := n + 3) (sq := sp_ask n) (n + 1) (by omega) T (fun _ _ _ _ h => h) G__law_pick G__law_side (ask_all T G__law_pick G__law_side n)
end
end K19

set_option Elab.async false
set_option linter.all false
set_option maxRecDepth 100000
set_option maxHeartbeats 8000000
namespace K19
open PySem PySem.Spec PyProof.Rows L2 PD
local macro_rules | `(tactic| walk_at "pd") => `(tactic| simp (config := { decide := true, maxSteps := 400000 }) only [dSeq, dSet, dAsg, dgN, dRet, dRetN, dIfS, dFor, dLoop, dDrop, dNext, dVar, dC, dNil, dCons, dOp, dUn, dTest, dTru, dAnd, dOr, dNot, dAndV, dOrV, dNotV, dIfE, dTup, dLst, dCB, dCall, dBM, dBM0, dLc, dComp, dYes, dgTup, dgCons, dgNil, dgSub, dPart, dNoPart, dAug, dIsi, dEq, dNe, wipeD, endsOf,
  dAdd_i, dAdd_s, dAdd_t, dAdd_r, dSub_i, dInt2_i, dMul_i, dMul_s, dNeg_i, dCmp_i, dIsN_n, dNotN_n, dInG_t, dInG_r, dIx_s, dIx_t, dIx_r, dLen_s, dLen_t, dLen_r, dTuple_1, dList_1, dInt1_i, dTwo_i, dSl_v, dSlV_t, dSlV_r, dRev_v, dRevV_t, dRevV_r, dISeq_v, dISeqV_t, dISeqV_r, dIEnum_v, dIEnumV_t, dIEnumV_r, dPop_0, dPop_i, dAppend_1, dExtend_1, dSub3_i, dSortP_r, dIRng1_v, dRng1V_i,
  seqOf_tup, seqOf_rol, seqW_tup, eqK_ss, eqK_ii, eqK_bb, eqK_nn, eqK_ts, eqK_st, eqK_ti, eqK_is, eqK_ns, flatD_str, flatD_int, flatD_bl, flatD_non, isT_NoneType_bool, isT_NoneType_int, isT_NoneType_str, isT_NoneType_tuple, isT_NoneType_list, isT_bool_bool, isT_bool_int, isT_bool_str, isT_bool_tuple, isT_bool_list, isT_int_bool, isT_int_int, isT_int_str, isT_int_tuple, isT_int_list, isT_str_bool, isT_str_int, isT_str_str, isT_str_tuple, isT_str_list, isT_tuple_bool, isT_tuple_int, isT_tuple_str, isT_tuple_tuple, isT_tuple_list, isT_list_bool, isT_list_int, isT_list_str, isT_list_tuple, isT_list_list, isNon_non, isNon_bl, isNon_int, isNon_str, isNon_tup, tyD_non, tyD_bl, tyD_int, tyD_str, tyD_tup, truD_bl, truD_int, truD_tup,
  atI_0, atI_1, atI_2, atI_3, atI_4, atI_m1, atI_m2, atI_m3, Option.some.injEq, exists_eq_left', exists_eq_left, beq_self_eq_true, Bool.not_true, Bool.not_false, if_true, if_false, true_and, and_true, Bool.false_eq_true, ↓reduceIte,
  List.getElem?_cons_zero, List.getElem?_cons_succ, List.set_cons_zero, List.set_cons_succ, List.map_cons, List.map_nil, List.length_cons, List.length_nil, mset_same, mset_mset, List.isEmpty_nil, List.isEmpty_cons, decide_eq_true_eq, beq_iff_eq, seqI_0, List.eraseIdx_cons_zero, List.eraseIdx_cons_succ, ixN_40, ixN_41, ixN_42, ixN_43, Nat.reduceAdd])
local macro_rules | `(tactic| walk_at "ne") => `(tactic| first | assumption | exact Ne.symm (by assumption))
local macro_rules | `(tactic| walk_at "mu") => `(tactic| first | exact mset_same | assumption | exact mset_skip (by walk_at "ne") (by walk_at "mu"))
local macro_rules | `(tactic| walk_at "go") => `(tactic| repeat (first | walk_at "pd" | refine ⟨_, seqOf_ref (by walk_at "mu"), ?_⟩ | refine ⟨⟨_, _, lstOf_ref (by walk_at "mu")⟩, ?_⟩ | refine ⟨_, _, lstOf_ref (by walk_at "mu"), ?_⟩ | refine ⟨(show CMul _ _ from Or.inr ⟨by decide, by decide⟩), ?_⟩ | refine ⟨(show CDiv _ _ from ⟨by decide, by decide⟩), ?_⟩))
theorem rangeD_cons (lo : Int) (n : Nat) : rangeD lo (n + 1) = .int lo :: rangeD (lo + 1) n := by
  unfold rangeD
  rw [List.range_succ_eq_map, List.map_cons, List.map_map]
  congr 1
  · simp
  · refine List.map_congr_left fun x _ => ?_
    show D.int _ = D.int _
    congr 1
    simp only [Function.comp, Nat.succ_eq_add_one]
    omega
theorem ok_str (n : Nat) (x : Str) : OkS n (.str x) := .flat rfl
theorem ok_int (n : Nat) (x : Int) : OkS n (.int x) := .flat rfl
theorem ok_kinds {ks : List Kd} (h : ks.length ≤ 1000) (h2 : ∀ k ∈ ks, kdOk k) (n : Nat) : OkS (n + 2) (kindsD ks) := by
  refine .tup (by rw [List.length_map]; exact h) fun d hd => ?_
  obtain ⟨k, hk, rfl⟩ := List.mem_map.mp hd
  cases k with
  | none => exact ok_str _ _
  | some ws =>
    refine .tup (by rw [List.length_map]; exact h2 _ hk) fun d hd => ?_
    obtain ⟨x, _, rfl⟩ := List.mem_map.mp hd
    exact ok_str _ _
theorem parts_le : ∀ (ks : List Kd) (i : Nat), (partsAt i ks).length ≤ ks.length
  | [], _ => Nat.le_refl _
  | none :: ks, i => Nat.succ_le_succ (parts_le ks (i + 1))
  | some _ :: ks, i => Nat.le_succ_of_le (parts_le ks (i + 1))
theorem ok_parts {ks : List Kd} (h : ks.length ≤ 1000) (n : Nat) : OkS (n + 1) (.tup ((partsAt 0 ks).map natD)) := by
  refine .tup (by rw [List.length_map]; exact Nat.le_trans (parts_le ks 0) h) fun d hd => ?_
  obtain ⟨x, _, rfl⟩ := List.mem_map.mp hd
  exact ok_int _ _
theorem ok_pairs {l : List (Int × Int)} (h : l.length ≤ 1000) (n : Nat) : OkS (n + 2) (.tup (l.map pD)) := by
  refine .tup (by rw [List.length_map]; exact h) fun d hd => ?_
  obtain ⟨x, _, rfl⟩ := List.mem_map.mp hd
  refine .tup (by simp) fun d hd => ?_
  simp only [List.mem_cons, List.not_mem_nil, or_false] at hd
  rcases hd with rfl | rfl <;> exact ok_int _ _
theorem ok_ak : ∀ (a : Ak) (n : Nat), sizeA a ≤ n → OkS n (akD a)
  | .one w j, n + 1, _ => .tup (by simp) fun d hd => by
    simp only [List.mem_cons, List.not_mem_nil, or_false] at hd
    rcases hd with rfl | rfl <;> exact ok_str _ _
  | .sm w i j, n + 1, _ => .tup (by simp) fun d hd => by
    simp only [List.mem_cons, List.not_mem_nil, or_false] at hd
    rcases hd with rfl | rfl | rfl
    · exact ok_str _ _
    · exact ok_int _ _
    · exact ok_str _ _
  | .fst, n + 1, _ => .tup (by simp) fun d hd => by
    simp only [List.mem_cons, List.not_mem_nil, or_false] at hd
    rcases hd with rfl; exact ok_str _ _
  | .each j b, n + 1, h => .tup (by simp) fun d hd => by
    simp only [List.mem_cons, List.not_mem_nil, or_false] at hd
    have : sizeA b + 1 ≤ n + 1 := h
    rcases hd with rfl | rfl | rfl
    · exact ok_str _ _
    · exact ok_str _ _
    · exact ok_ak b n (by omega)
  | .two w a b, n + 1, h => .tup (by simp) fun d hd => by
    simp only [List.mem_cons, List.not_mem_nil, or_false] at hd
    have : sizeA a + sizeA b + 1 ≤ n + 1 := h
    rcases hd with rfl | rfl | rfl
    · exact ok_str _ _
    · exact ok_ak a n (by omega)
    · exact ok_ak b n (by omega)
  | a, 0, h => absurd h (Nat.not_le_of_lt (size_pos a))
theorem ok_strs {l : List Str} (h : l.length ≤ 1000) (n : Nat) : OkS (n + 1) (.tup (l.map .str)) := by
  refine .tup (by rw [List.length_map]; exact h) fun d hd => ?_
  obtain ⟨x, _, rfl⟩ := List.mem_map.mp hd
  exact ok_str _ _
theorem ok_ins {a : Ak} {n : Nat} (h : sizeA a ≤ n) : OkS (n + 1) (.tup ((insA a).map akD)) := by
  have h1 := szS_ins a
  refine .tup ?_ fun d hd => ?_
  · rw [List.length_map]
    cases a <;> (simp [insA])
  · obtain ⟨b, hb, rfl⟩ := List.mem_map.mp hd
    refine ok_ak b n ?_
    cases a with
    | one _ _ => cases hb
    | sm _ _ _ => cases hb
    | fst => cases hb
    | each j c =>
      have h2 : sizeA c + 1 ≤ n := h
      have h3 : b = c := List.mem_singleton.mp hb
      rw [h3]; omega
    | two w c e =>
      have h2 : sizeA c + sizeA e + 1 ≤ n := h
      have h3 : b = c ∨ b = e := by simpa [insA] using hb
      rcases h3 with rfl | rfl <;> omega
theorem CodesL.oks {a q : Addr} {n : Nat} {m : Mu} (hn : n ≤ 2) : ∀ {cs : List D} {ks : List Kd}, CodesL a q n m cs ks → ∀ k ∈ ks, kdOk k
  | [], [], _ => fun k hk => absurd hk List.not_mem_nil
  | c :: cs, k :: ks, h => fun k2 hk => by
    rcases List.mem_cons.mp hk with rfl | hk
    · cases k2 with
      | none => trivial
      | some ws =>
        obtain ⟨r, _, _, _, _, hl, _⟩ := h.1
        show ws.length ≤ 1000
        omega
    · exact CodesL.oks hn h.2 k2 hk
  | [], _ :: _, h => h.elim
  | _ :: _, [], h => h.elim
section
variable {P : Program} {w : World} {K : PySem.W.Frag} {mg : Str → Option Value} {base : Heap}
def sp__law_same : SpD := sp_same 8
def sp__law_ask_good : SpD := fun ds m Q => ∃ A : Ak, ds = [noteD A] ∧ sizeA A ≤ 7 ∧ Q (.bl true) m
theorem ok__law_ask_good  (T : Txt K mg) (G__law_same : FnOk P w K mg base CX0 (9) T.f__law_same T.fd__law_same ["told", "due"] (spL K 2 sp__law_same)) (G_has_first : FnOk P w K mg base CX0 (3) T.f_has_first T.fd_has_first ["ask"] (spL K 1 sp_has_first)) (G_asks_in : FnOk P w K mg base CX0 (1) T.f_asks_in T.fd_asks_in ["ask"] (spL K 1 sp_asks_in)) (G_judges_of : FnOk P w K mg base CX0 (3) T.f_judges_of T.fd_judges_of ["ask"] (spL K 1 sp_judges_of)) : FnOk P w K mg base CX0 (10) T.f__law_ask_good T.fd__law_ask_good ["note"] (spL K 1 sp__law_ask_good) := by
  refine fn_ok T.F__law_ask_good sc__law_ask_good (fun cdv A outer s H E hr =>
(gss_cons (gs_if (gw_or (gt_not (gt_val (ge_call G__law_same (hr.mono (by omega)) (by rfl) T.g__law_same T.F__law_same.kp T.b__law_same (ga_cons (ge_call G_judges_of (hr.mono (by omega)) (by rfl) T.g_judges_of T.F_judges_of.kp T.b_judges_of (ga_cons (ge_ix (gv 0) ge_int) ga_nil)) (ga_cons (ge_ix (gv 0) ge_int) ga_nil))))) (gw_or1 (gt_not (gt_val (ge_call G__law_same (hr.mono (by omega)) (by rfl) T.g__law_same T.F__law_same.kp T.b__law_same (ga_cons (ge_callK G_judges_of (hr.mono (by omega)) (by rfl) T.g_judges_of T.F_judges_of.kp T.kw_judges_of (gk_cons (ge_ix (gv 0) ge_int) gk_nil)) (ga_cons (ge_ix (gv 0) ge_int) ga_nil))))))).gt
 (gss_one (gs_ret ge_bl))
 gss_nil)
 (gss_cons (gs_if (gw_or (gt_not (gt_val (ge_call G__law_same (hr.mono (by omega)) (by rfl) T.g__law_same T.F__law_same.kp T.b__law_same (ga_cons (ge_call G_asks_in (hr.mono (by omega)) (by rfl) T.g_asks_in T.F_asks_in.kp T.b_asks_in (ga_cons (ge_ix (gv 0) ge_int) ga_nil)) (ga_cons (ge_ix (gv 0) ge_int) ga_nil))))) (gw_or1 (gt_not (gt_val (ge_call G__law_same (hr.mono (by omega)) (by rfl) T.g__law_same T.F__law_same.kp T.b__law_same (ga_cons (ge_callK G_asks_in (hr.mono (by omega)) (by rfl) T.g_asks_in T.F_asks_in.kp T.kw_asks_in (gk_cons (ge_ix (gv 0) ge_int) gk_nil)) (ga_cons (ge_ix (gv 0) ge_int) ga_nil))))))).gt
 (gss_one (gs_ret ge_bl))
 gss_nil)
 (gss_one (gs_ret (ge_and (ge_call G__law_same (hr.mono (by omega)) (by rfl) T.g__law_same T.F__law_same.kp T.b__law_same (ga_cons (ge_call G_has_first (hr.mono (by omega)) (by rfl) T.g_has_first T.F_has_first.kp T.b_has_first (ga_cons (ge_ix (gv 0) ge_int) ga_nil)) (ga_cons (ge_ix (gv 0) ge_int) ga_nil))) (ge_one (ge_call G__law_same (hr.mono (by omega)) (by rfl) T.g__law_same T.F__law_same.kp T.b__law_same (ga_cons (ge_callK G_has_first (hr.mono (by omega)) (by rfl) T.g_has_first T.F_has_first.kp T.kw_has_first (gk_cons (ge_ix (gv 0) ge_int) gk_nil)) (ga_cons (ge_ix (gv 0) ge_int) ga_nil)))))))))) (fun ds m Q h => ?_)
  obtain ⟨A, rfl, hs, h⟩ := h
  rw [show startD N__law_ask_good [noteD A] = [some (noteD A)] from rfl]
  have jl := judges_len A
  have hD : noteD A = .tup [akD A, .tup ((judgesA A).map .str), .tup ((insA A).map akD), .int (firstsA A : Nat)] := rfl
  rw [hD]
  walk_at "pd"
  refine ⟨A, rfl, by omega, _, rfl, ok_strs (by omega) 7, ?_⟩
  walk_at "pd"
  refine ⟨A, rfl, by omega, _, rfl, ok_strs (by omega) 7, ?_⟩
  walk_at "pd"
  refine ⟨A, rfl, _, rfl, ok_ins hs, ?_⟩
  walk_at "pd"
  refine ⟨A, rfl, _, rfl, ok_ins hs, ?_⟩
  walk_at "pd"
  refine ⟨A, rfl, by omega, _, rfl, ok_int 8 _, ?_⟩
  walk_at "pd"
  refine ⟨A, rfl, by omega, _, rfl, ok_int 8 _, ?_⟩
  exact sub_refl_fin h
end
end K19

set_option Elab.async false
set_option linter.all false
set_option maxRecDepth 100000
set_option maxHeartbeats 8000000
namespace K19
open PySem PySem.Spec PyProof.Rows L2 PD
local macro_rules | `(tactic| walk_at "pd") => `(tactic| simp (config := { decide := true, maxSteps := 400000 }) only [dSeq, dSet, dAsg, dgN, dRet, dRetN, dIfS, dFor, dLoop, dDrop, dNext, dVar, dC, dNil, dCons, dOp, dUn, dTest, dTru, dAnd, dOr, dNot, dAndV, dOrV, dNotV, dIfE, dTup, dLst, dCB, dCall, dBM, dBM0, dLc, dComp, dYes, dgTup, dgCons, dgNil, dgSub, dPart, dNoPart, dAug, dIsi, dEq, dNe, wipeD, endsOf,
  dAdd_i, dAdd_s, dAdd_t, dAdd_r, dSub_i, dInt2_i, dMul_i, dMul_s, dNeg_i, dCmp_i, dIsN_n, dNotN_n, dInG_t, dInG_r, dIx_s, dIx_t, dIx_r, dLen_s, dLen_t, dLen_r, dTuple_1, dList_1, dInt1_i, dTwo_i, dSl_v, dSlV_t, dSlV_r, dRev_v, dRevV_t, dRevV_r, dISeq_v, dISeqV_t, dISeqV_r, dIEnum_v, dIEnumV_t, dIEnumV_r, dPop_0, dPop_i, dAppend_1, dExtend_1, dSub3_i, dSortP_r, dIRng1_v, dRng1V_i,
  seqOf_tup, seqOf_rol, seqW_tup, eqK_ss, eqK_ii, eqK_bb, eqK_nn, eqK_ts, eqK_st, eqK_ti, eqK_is, eqK_ns, flatD_str, flatD_int, flatD_bl, flatD_non, isT_NoneType_bool, isT_NoneType_int, isT_NoneType_str, isT_NoneType_tuple, isT_NoneType_list, isT_bool_bool, isT_bool_int, isT_bool_str, isT_bool_tuple, isT_bool_list, isT_int_bool, isT_int_int, isT_int_str, isT_int_tuple, isT_int_list, isT_str_bool, isT_str_int, isT_str_str, isT_str_tuple, isT_str_list, isT_tuple_bool, isT_tuple_int, isT_tuple_str, isT_tuple_tuple, isT_tuple_list, isT_list_bool, isT_list_int, isT_list_str, isT_list_tuple, isT_list_list, isNon_non, isNon_bl, isNon_int, isNon_str, isNon_tup, tyD_non, tyD_bl, tyD_int, tyD_str, tyD_tup, truD_bl, truD_int, truD_tup,
  atI_0, atI_1, atI_2, atI_3, atI_4, atI_m1, atI_m2, atI_m3, Option.some.injEq, exists_eq_left', exists_eq_left, beq_self_eq_true, Bool.not_true, Bool.not_false, if_true, if_false, true_and, and_true, Bool.false_eq_true, ↓reduceIte,
  List.getElem?_cons_zero, List.getElem?_cons_succ, List.set_cons_zero, List.set_cons_succ, List.map_cons, List.map_nil, List.length_cons, List.length_nil, mset_same, mset_mset, List.isEmpty_nil, List.isEmpty_cons, decide_eq_true_eq, beq_iff_eq, seqI_0, List.eraseIdx_cons_zero, List.eraseIdx_cons_succ, ixN_40, ixN_41, ixN_42, ixN_43, Nat.reduceAdd])
local macro_rules | `(tactic| walk_at "ne") => `(tactic| first | assumption | exact Ne.symm (by assumption))
local macro_rules | `(tactic| walk_at "mu") => `(tactic| first | exact mset_same | assumption | exact mset_skip (by walk_at "ne") (by walk_at "mu"))
local macro_rules | `(tactic| walk_at "go") => `(tactic| repeat (first | walk_at "pd" | refine ⟨_, seqOf_ref (by walk_at "mu"), ?_⟩ | refine ⟨⟨_, _, lstOf_ref (by walk_at "mu")⟩, ?_⟩ | refine ⟨_, _, lstOf_ref (by walk_at "mu"), ?_⟩ | refine ⟨(show CMul _ _ from Or.inr ⟨by decide, by decide⟩), ?_⟩ | refine ⟨(show CDiv _ _ from ⟨by decide, by decide⟩), ?_⟩))
theorem refs_len2 (x : List Str) : ∀ (ks : List Kd) (i : Nat), (∀ ws, some ws ∈ ks → ws.length ≤ 2) → (refsAt x i ks).length ≤ 2 * ks.length
  | [], _, _ => Nat.le_refl _
  | none :: ks, i, h => by
    have := refs_len2 x ks (i + 1) fun k hk => h k (List.mem_cons_of_mem _ hk)
    show (refsAt x (i + 1) ks).length ≤ 2 * (ks.length + 1)
    omega
  | some xs :: ks, i, h => by
    have h1 := refs_len2 x ks (i + 1) fun k hk => h k (List.mem_cons_of_mem _ hk)
    have h2 := rows_len x xs i 0
    have h3 := h xs (List.mem_cons_self ..)
    show (rowsAt x i 0 xs ++ refsAt x (i + 1) ks).length ≤ 2 * (ks.length + 1)
    rw [List.length_append]
    omega
section
variable {P : Program} {w : World} {K : PySem.W.Frag} {mg : Str → Option Value} {base : Heap}
def sp__law_way_good : SpD := fun ds m Q => ∃ (a q p : Addr) (n : Nat) (mk ts : D) (ps : List Pc) (ks : List Kd), ds = [.tup [mk, .tup (ps.map pcD), ts], kindsD ks, .ref p, .int (n : Nat)] ∧ n ≤ 2 ∧ CodesAt a q n m p ks ∧ ps.map pcK = ks ∧ (∀ p ∈ ps, pcOk p) ∧ Q (.bl true) m
theorem ok__law_way_good  (T : Txt K mg) (G__law_same : FnOk P w K mg base CX0 (9) T.f__law_same T.fd__law_same ["told", "due"] (spL K 2 sp__law_same)) (G_run_places : FnOk P w K mg base CX0 (2) T.f_run_places T.fd_run_places ["kinds"] (spL K 1 sp_run_places)) (G_sign_places : FnOk P w K mg base CX0 (2) T.f_sign_places T.fd_sign_places ["kinds"] (spL K 1 sp_sign_places)) (G_part_places : FnOk P w K mg base CX0 (1) T.f_part_places T.fd_part_places ["kinds"] (spL K 1 sp_part_places)) (G_kinds_of : FnOk P w K mg base CX0 (2) T.f_kinds_of T.fd_kinds_of ["way"] (spL K 1 sp_kinds_of)) (G__law_places : FnOk P w K mg base CX0 (1) T.f__law_places T.fd__law_places ["codes", "rows", "word"] (spL K 3 sp__law_places)) : FnOk P w K mg base CX0 (10) T.f__law_way_good T.fd__law_way_good ["line", "sorts", "codes", "rows"] (spL K 4 sp__law_way_good) := by
  refine fn_ok T.F__law_way_good sc__law_way_good (fun cdv A outer s H E hr =>
(gss_cons (gs_set (i := 4) sc__law_way_good.nd rfl (.inl rfl) (ge_callTy call_tuple_of lc_tuple (by rfl) T.z_tuple (by decide +kernel) (ga_cons (ge_lc (own := [("k", 8)]) rfl sc__law_way_good.nd (gi_rng1 (by rfl) T.z_range (ga_cons (ge_callB call_lenU lc_len (by rfl) T.z_len PySem.boot_len (ga_cons (gv 2) ga_nil)) ga_nil)) (blkOk_by (N := N__law_way_good) (sc := defScope s__law_way_good) (by decide +kernel)) (fun _ _ _ _ _ => (gg_name (i := 8) sc__law_way_good.nd rfl (.inl rfl))) (fun _ _ _ _ _ => (gts_one (gt_cmpR (op_eqS hr.units) lr_eq (ge_ix (gv 2) (gv 8)) ge_str (nomark _)))) (fun _ _ _ _ _ => (gv 8)) (by decide)) ga_nil)))
 (gss_cons (gs_set (i := 5) sc__law_way_good.nd rfl (.inl rfl) (ge_call G__law_places (hr.mono (by omega)) (by rfl) T.g__law_places T.F__law_places.kp T.b__law_places (ga_cons (gv 2) (ga_cons (gv 3) (ga_cons ge_str ga_nil)))))
 (gss_cons (gs_set (i := 6) sc__law_way_good.nd rfl (.inl rfl) (ge_call G__law_places (hr.mono (by omega)) (by rfl) T.g__law_places T.F__law_places.kp T.b__law_places (ga_cons (gv 2) (ga_cons (gv 3) (ga_cons ge_str ga_nil)))))
 (gss_cons (gs_for PassesOwn.never rfl (gi_rng1 (by rfl) T.z_range (ga_cons ge_int ga_nil)) (gg_name (i := 7) sc__law_way_good.nd rfl (.inl rfl))
 (gss_cons (gs_if (gw_or (gt_not (gt_val (ge_call G__law_same (hr.mono (by omega)) (by rfl) T.g__law_same T.F__law_same.kp T.b__law_same (ga_cons (ge_call G_kinds_of (hr.mono (by omega)) (by rfl) T.g_kinds_of T.F_kinds_of.kp T.b_kinds_of (ga_cons (gv 0) ga_nil)) (ga_cons (gv 1) ga_nil))))) (gw_or1 (gt_not (gt_val (ge_call G__law_same (hr.mono (by omega)) (by rfl) T.g__law_same T.F__law_same.kp T.b__law_same (ga_cons (ge_callK G_kinds_of (hr.mono (by omega)) (by rfl) T.g_kinds_of T.F_kinds_of.kp T.kw_kinds_of (gk_cons (gv 0) gk_nil)) (ga_cons (gv 1) ga_nil))))))).gt
 (gss_one (gs_ret ge_bl))
 gss_nil)
 (gss_cons (gs_if (gw_or (gt_not (gt_val (ge_call G__law_same (hr.mono (by omega)) (by rfl) T.g__law_same T.F__law_same.kp T.b__law_same (ga_cons (ge_call G_part_places (hr.mono (by omega)) (by rfl) T.g_part_places T.F_part_places.kp T.b_part_places (ga_cons (gv 1) ga_nil)) (ga_cons (gv 4) ga_nil))))) (gw_or1 (gt_not (gt_val (ge_call G__law_same (hr.mono (by omega)) (by rfl) T.g__law_same T.F__law_same.kp T.b__law_same (ga_cons (ge_callK G_part_places (hr.mono (by omega)) (by rfl) T.g_part_places T.F_part_places.kp T.kw_part_places (gk_cons (gv 1) gk_nil)) (ga_cons (gv 4) ga_nil))))))).gt
 (gss_one (gs_ret ge_bl))
 gss_nil)
 (gss_cons (gs_if (gw_or (gt_not (gt_val (ge_call G__law_same (hr.mono (by omega)) (by rfl) T.g__law_same T.F__law_same.kp T.b__law_same (ga_cons (ge_call G_sign_places (hr.mono (by omega)) (by rfl) T.g_sign_places T.F_sign_places.kp T.b_sign_places (ga_cons (gv 1) ga_nil)) (ga_cons (gv 5) ga_nil))))) (gw_or1 (gt_not (gt_val (ge_call G__law_same (hr.mono (by omega)) (by rfl) T.g__law_same T.F__law_same.kp T.b__law_same (ga_cons (ge_callK G_sign_places (hr.mono (by omega)) (by rfl) T.g_sign_places T.F_sign_places.kp T.kw_sign_places (gk_cons (gv 1) gk_nil)) (ga_cons (gv 5) ga_nil))))))).gt
 (gss_one (gs_ret ge_bl))
 gss_nil)
 (gss_one (gs_if (gw_or (gt_not (gt_val (ge_call G__law_same (hr.mono (by omega)) (by rfl) T.g__law_same T.F__law_same.kp T.b__law_same (ga_cons (ge_call G_run_places (hr.mono (by omega)) (by rfl) T.g_run_places T.F_run_places.kp T.b_run_places (ga_cons (gv 1) ga_nil)) (ga_cons (gv 6) ga_nil))))) (gw_or1 (gt_not (gt_val (ge_call G__law_same (hr.mono (by omega)) (by rfl) T.g__law_same T.F__law_same.kp T.b__law_same (ga_cons (ge_callK G_run_places (hr.mono (by omega)) (by rfl) T.g_run_places T.F_run_places.kp T.kw_run_places (gk_cons (gv 1) gk_nil)) (ga_cons (gv 6) ga_nil))))))).gt
 (gss_one (gs_ret ge_bl))
 gss_nil))))))
 (gss_one (gs_ret ge_bl))))))) (fun ds m Q h => ?_)
  obtain ⟨a, q, p, n, mk, ts, ps, ks, rfl, hn, hC, hks, hps, h⟩ := h
  rw [show startD N__law_way_good [.tup [mk, .tup (ps.map pcD), ts], kindsD ks, .ref p, .int (n : Nat)] = [some (.tup [mk, .tup (ps.map pcD), ts]), some (kindsD ks), some (.ref p), some (.int (n : Nat)), none, none, none, none, none] from rfl]
  have hC' := hC
  obtain ⟨hpa, hpq, hk5, cs, hc, hcs⟩ := hC'
  have hcl := hcs.len
  have hko := hcs.oks hn
  have hkl : ks.length ≤ 1000 := by omega
  have hpl : ps.length ≤ 1000 := by rw [← hks, List.length_map] at hk5; omega
  have hkd : D.tup (ps.map fun p => kdD (pcK p)) = kindsD ks := by
    rw [← hks]; unfold kindsD; rw [List.map_map]; rfl
  walk_at "pd"
  refine ⟨_, seqOf_ref hc, ?_⟩
  refine ⟨by omega, by omega, ?_⟩
  intro g hg
  have hpg : p ≠ g := mne hg hc
  rw [Int.toNat_natCast]
  refine comp_inv (fun rem acc m' => ∃ kpre kpost, ks = kpre ++ kpost ∧ rem = rangeD (kpre.length : Nat) kpost.length ∧ acc.length ≤ kpre.length ∧ acc ++ (partsAt kpre.length kpost).map natD = (partsAt 0 ks).map natD ∧ m' = mset m g (.lst acc)) (fun d rem acc m1 R hR ⟨kpre, kpost, e1, e2, e3, e4, e5⟩ => ?_) (fun acc m1 ⟨kpre, kpost, e1, e2, e3, e4, e5⟩ => ?_) ⟨[], ks, rfl, by rw [hcl]; rfl, Nat.le_refl _, rfl, rfl⟩
  · subst e5
    cases kpost with
    | nil => cases e2
    | cons k kpost =>
      rw [List.length_cons, rangeD_cons] at e2
      injection e2 with e2 e6
      subst e2
      have hpl1 : (kpre ++ [k]).length = kpre.length + 1 := by simp
      have hlt : kpre.length < ks.length := by rw [e1]; simp
      obtain ⟨c, k', g1, g2, g3⟩ := hcs.get hlt
      have hk' : k' = k := by
        rw [e1, List.getElem?_append_right (Nat.le_refl _), Nat.sub_self] at g2
        exact (Option.some.inj g2).symm
      subst hk'
      have hc2 : mset m g (.lst acc) p = some (.lst cs) := by rw [mset_ne hpg]; exact hc
      refine ⟨trivial, ?_⟩
      walk_at "pd"
      refine ⟨_, seqOf_ref hc2, _, atI_nat g1, ?_⟩
      cases k' with
      | none =>
        cases g3
        walk_at "pd"
        refine ⟨Nat.lt_of_lt_of_le (by omega : _ < 1000) (by decide), hR _ _ ⟨kpre ++ [none], kpost, by rw [e1]; simp, by rw [hpl1, e6]; simp, by rw [List.length_append, hpl1]; exact Nat.succ_le_succ e3, by rw [hpl1, ← e4]; simp [partsAt, natD], rfl⟩⟩
      | some ws =>
        obtain ⟨r, rfl, hra, hrq, hr, _, _⟩ := g3
        have hr2 : mset m g (.lst acc) r = some (.lst (ws.map .str)) := by rw [mset_ne (mne hg hr)]; exact hr
        refine ⟨_, eqK_rs hr2, ?_⟩
        walk_at "pd"
        refine hR _ _ ⟨kpre ++ [some ws], kpost, by rw [e1]; simp, by rw [hpl1, e6]; simp, by rw [hpl1]; omega, by rw [hpl1, ← e4]; rfl, rfl⟩
  · subst e5
    have hk0 : kpost = [] := by cases kpost with | nil => rfl | cons _ _ => rw [List.length_cons, rangeD_cons] at e2; cases e2
    subst hk0
    have e6 : acc = (partsAt 0 ks).map natD := by rw [← e4]; exact (List.append_nil _).symm
    subst e6
    refine ⟨trivial, mset_same, ?_⟩
    have Om : OffS a q m (mset m g (.lst ((partsAt 0 ks).map natD))) := (OffS.refl a q m).new hg
    have hC2 := hC.off Om
    have h' : ∃ m'', PD.Sub m'' (mset m g (.lst ((partsAt 0 ks).map natD))) ∧ Q (.bl true) m'' := ⟨m, .new hg, h⟩
    have hw2 : ∀ ws, some ws ∈ ks → ws.length ≤ 2 := fun ws hws => by
      obtain ⟨i, hi⟩ := List.getElem?_of_mem hws
      have := hcs.rows hi
      omega
    have okP := fun x => ok_pairs (l := refsAt [x] 0 ks) (by have := refs_len2 [x] ks 0 hw2; omega) 6
    have okK := ok_kinds hkl hko 6
    have okT := ok_parts hkl 7
    refine ⟨_, seqOf_ref mset_same, ?_⟩
    generalize mset m g (.lst ((partsAt 0 ks).map natD)) = m1 at *
    refine ⟨a, q, n, p, ks, _, rfl, hn, hC2, ?_⟩
    refine ⟨a, q, n, p, ks, _, rfl, hn, hC2, ?_⟩
    refine loop_range (n := 2) (fun i s' m' => (∃ c7 c8, s' = [some (.tup [mk, .tup (ps.map pcD), ts]), some (kindsD ks), some (.ref p), some (.int (n : Nat)), some (.tup ((partsAt 0 ks).map natD)), some (.tup ((refsAt ["sign"] 0 ks).map pD)), some (.tup ((refsAt ["run"] 0 ks).map pD)), c7, c8]) ∧ m' = m1) (fun i s' m' R hi hR ⟨⟨c7, c8, e1⟩, e2⟩ => ?_) (fun s' m' ⟨⟨c7, c8, e1⟩, e2⟩ => ?_) ⟨⟨_, _, rfl⟩, rfl⟩
    · subst e1 e2
      have fin := hR _ _ ⟨⟨some (.int (i : Nat)), c8, rfl⟩, rfl⟩
      clear hR
      walk_at "pd"
      refine ⟨mk, ts, ps, rfl, hpl, hps, ?_⟩
      rw [hkd]
      refine ⟨_, rfl, okK, ?_⟩
      walk_at "pd"
      refine ⟨mk, ts, ps, rfl, hpl, hps, ?_⟩
      rw [hkd]
      refine ⟨_, rfl, okK, ?_⟩
      walk_at "pd"
      refine ⟨ks, rfl, hkl, _, rfl, okT, ?_⟩
      walk_at "pd"
      refine ⟨ks, rfl, hkl, _, rfl, okT, ?_⟩
      walk_at "pd"
      refine ⟨ks, rfl, hkl, hko, _, rfl, okP _, ?_⟩
      walk_at "pd"
      refine ⟨ks, rfl, hkl, hko, _, rfl, okP _, ?_⟩
      walk_at "pd"
      refine ⟨ks, rfl, hkl, hko, _, rfl, okP _, ?_⟩
      walk_at "pd"
      refine ⟨ks, rfl, hkl, hko, _, rfl, okP _, ?_⟩
      exact fin
    · subst e1 e2
      walk_at "pd"
      exact h'
end
end K19

set_option Elab.async false
set_option linter.all false
set_option maxRecDepth 100000
set_option maxHeartbeats 8000000
namespace K19
open PySem PySem.Spec PyProof.Rows L2 PD
local macro_rules | `(tactic| walk_at "pd") => `(tactic| simp (config := { decide := true, maxSteps := 400000 }) only [dSeq, dSet, dAsg, dgN, dRet, dRetN, dIfS, dFor, dLoop, dDrop, dNext, dVar, dC, dNil, dCons, dOp, dUn, dTest, dTru, dAnd, dOr, dNot, dAndV, dOrV, dNotV, dIfE, dTup, dLst, dCB, dCall, dBM, dBM0, dLc, dComp, dYes, dgTup, dgCons, dgNil, dgSub, dPart, dNoPart, dAug, dIsi, dEq, dNe, wipeD, endsOf,
  dAdd_i, dAdd_s, dAdd_t, dAdd_r, dSub_i, dInt2_i, dMul_i, dMul_s, dNeg_i, dCmp_i, dIsN_n, dNotN_n, dInG_t, dInG_r, dIx_s, dIx_t, dIx_r, dLen_s, dLen_t, dLen_r, dTuple_1, dList_1, dInt1_i, dTwo_i, dSl_v, dSlV_t, dSlV_r, dRev_v, dRevV_t, dRevV_r, dISeq_v, dISeqV_t, dISeqV_r, dIEnum_v, dIEnumV_t, dIEnumV_r, dPop_0, dPop_i, dAppend_1, dExtend_1, dSub3_i, dSortP_r, dIRng1_v, dRng1V_i,
  seqOf_tup, seqOf_rol, seqW_tup, eqK_ss, eqK_ii, eqK_bb, eqK_nn, eqK_ts, eqK_st, eqK_ti, eqK_is, eqK_ns, flatD_str, flatD_int, flatD_bl, flatD_non, isT_NoneType_bool, isT_NoneType_int, isT_NoneType_str, isT_NoneType_tuple, isT_NoneType_list, isT_bool_bool, isT_bool_int, isT_bool_str, isT_bool_tuple, isT_bool_list, isT_int_bool, isT_int_int, isT_int_str, isT_int_tuple, isT_int_list, isT_str_bool, isT_str_int, isT_str_str, isT_str_tuple, isT_str_list, isT_tuple_bool, isT_tuple_int, isT_tuple_str, isT_tuple_tuple, isT_tuple_list, isT_list_bool, isT_list_int, isT_list_str, isT_list_tuple, isT_list_list, isNon_non, isNon_bl, isNon_int, isNon_str, isNon_tup, tyD_non, tyD_bl, tyD_int, tyD_str, tyD_tup, truD_bl, truD_int, truD_tup,
  atI_0, atI_1, atI_2, atI_3, atI_4, atI_m1, atI_m2, atI_m3, Option.some.injEq, exists_eq_left', exists_eq_left, beq_self_eq_true, Bool.not_true, Bool.not_false, if_true, if_false, true_and, and_true, Bool.false_eq_true, ↓reduceIte,
  List.getElem?_cons_zero, List.getElem?_cons_succ, List.set_cons_zero, List.set_cons_succ, List.map_cons, List.map_nil, List.length_cons, List.length_nil, mset_same, mset_mset, List.isEmpty_nil, List.isEmpty_cons, decide_eq_true_eq, beq_iff_eq, seqI_0, List.eraseIdx_cons_zero, List.eraseIdx_cons_succ, ixN_40, ixN_41, ixN_42, ixN_43, Nat.reduceAdd])
local macro_rules | `(tactic| walk_at "ne") => `(tactic| first | assumption | exact Ne.symm (by assumption))
local macro_rules | `(tactic| walk_at "mu") => `(tactic| first | exact mset_same | assumption | exact mset_skip (by walk_at "ne") (by walk_at "mu"))
local macro_rules | `(tactic| walk_at "go") => `(tactic| repeat (first | walk_at "pd" | refine ⟨_, seqOf_ref (by walk_at "mu"), ?_⟩ | refine ⟨⟨_, _, lstOf_ref (by walk_at "mu")⟩, ?_⟩ | refine ⟨_, _, lstOf_ref (by walk_at "mu"), ?_⟩ | refine ⟨(show CMul _ _ from Or.inr ⟨by decide, by decide⟩), ?_⟩ | refine ⟨(show CDiv _ _ from ⟨by decide, by decide⟩), ?_⟩))
theorem cut_mem {xs : List D} {lo hi : Option Int} {d : D} (h : d ∈ PD.cutD xs lo hi) : d ∈ xs := List.mem_of_mem_drop (List.mem_of_mem_take h)
theorem cut_len (xs : List D) (lo hi : Option Int) : (PD.cutD xs lo hi).length ≤ xs.length := by
  unfold PD.cutD
  rw [List.length_take, List.length_drop]
  omega
section
variable {P : Program} {w : World} {K : PySem.W.Frag} {mg : Str → Option Value} {base : Heap}
def sp__law_ask : SpD := sp_ask 4
def sp_law : SpD := fun ds m Q => ∃ ns : List Int, ds = [.rol (ns.map .int)] ∧ ns.length ≤ 1000 ∧ ∀ m', Q (.bl true) m'
theorem ok_law  (T : Txt K mg) (G__law_ask_good : FnOk P w K mg base CX0 (10) T.f__law_ask_good T.fd__law_ask_good ["note"] (spL K 1 sp__law_ask_good)) (G__law_ask : FnOk P w K mg base CX0 (7) T.f__law_ask T.fd__law_ask ["pool", "room", "words", "notes"] (spL K 4 sp__law_ask)) (G__law_pick : FnOk P w K mg base CX0 (1) T.f__law_pick T.fd__law_pick ["pool", "many"] (spL K 2 sp__law_pick)) (G__law_way_good : FnOk P w K mg base CX0 (10) T.f__law_way_good T.fd__law_way_good ["line", "sorts", "codes", "rows"] (spL K 4 sp__law_way_good)) (G__law_way : FnOk P w K mg base CX0 (3) T.f__law_way T.fd__law_way ["pool", "codes", "words", "places"] (spL K 4 sp__law_way)) (G__law_places : FnOk P w K mg base CX0 (1) T.f__law_places T.fd__law_places ["codes", "rows", "word"] (spL K 3 sp__law_places)) (G__law_codes : FnOk P w K mg base CX0 (2) T.f__law_codes T.fd__law_codes ["pool", "rows"] (spL K 2 sp__law_codes)) (G__law_words : FnOk P w K mg base CX0 (2) T.f__law_words T.fd__law_words ["pool"] (spL K 1 sp__law_words)) : FnOk P w K mg base CX0 (11) T.f_law T.fd_law ["script"] (spL K 1 sp_law) := by
  refine fn_ok T.F_law sc_law (fun cdv A outer s H E hr =>
(gss_cons (gs_set (i := 1) sc_law.nd rfl (.inl rfl) (ge_lst (ga_cons (ge_callTy call_list_of lc_list (by rfl) T.z_list (by decide +kernel) (ga_cons (gv 0) ga_nil)) (ga_cons ge_int (ga_cons ge_int (ga_cons ge_int ga_nil))))))
 (gss_cons (gs_set (i := 2) sc_law.nd rfl (.inl rfl) (ge_call G__law_words (hr.mono (by omega)) (by rfl) T.g__law_words T.F__law_words.kp T.b__law_words (ga_cons (gv 1) ga_nil)))
 (gss_cons (gs_for PassesOwn.never rfl (gi_rng1 (by rfl) T.z_range (ga_cons ge_int ga_nil)) (gg_name (i := 3) sc_law.nd rfl (.inl rfl))
 (gss_cons (gs_set (i := 4) sc_law.nd rfl (.inl rfl) (ge_op op_addU lr_add ge_int (ge_call G__law_pick (hr.mono (by omega)) (by rfl) T.g__law_pick T.F__law_pick.kp T.b__law_pick (ga_cons (gv 1) (ga_cons ge_int ga_nil)))))
 (gss_cons (gs_set (i := 5) sc_law.nd rfl (.inl rfl) (ge_call G__law_codes (hr.mono (by omega)) (by rfl) T.g__law_codes T.F__law_codes.kp T.b__law_codes (ga_cons (gv 1) (ga_cons (gv 4) ga_nil))))
 (gss_cons (gs_set (i := 6) sc_law.nd rfl (.inl rfl) (ge_call G__law_way (hr.mono (by omega)) (by rfl) T.g__law_way T.F__law_way.kp T.b__law_way (ga_cons (gv 1) (ga_cons (gv 5) (ga_cons (gv 2) (ga_cons (ge_call G__law_places (hr.mono (by omega)) (by rfl) T.g__law_places T.F__law_places.kp T.b__law_places (ga_cons (gv 5) (ga_cons (gv 4) (ga_cons ge_str ga_nil)))) ga_nil))))))
 (gss_cons (gs_set (i := 7) sc_law.nd rfl (.inl rfl) (ge_callTy call_tuple_of lc_tuple (by rfl) T.z_tuple (by decide +kernel) (ga_cons (ge_lc (own := [("code", 10)]) rfl sc_law.nd (gi_seq (gv 5)) (blkOk_by (N := N_law) (sc := defScope s_law) (by decide +kernel)) (fun _ _ _ _ _ => (gg_name (i := 10) sc_law.nd rfl (.inl rfl))) (fun _ _ _ _ _ => gts_nil) (fun _ _ _ _ _ => (ge_ifE (gt_cmpR (op_eqS hr.units) lr_eq (gv 10) ge_str (nomark _)) (gv 10) (ge_callTy call_tuple_of lc_tuple (by rfl) T.z_tuple (by decide +kernel) (ga_cons (gv 10) ga_nil)))) (by decide)) ga_nil)))
 (gss_one (gs_if (gt_not (gt_val (ge_call G__law_way_good (hr.mono (by omega)) (by rfl) T.g__law_way_good T.F__law_way_good.kp T.b__law_way_good (ga_cons (gv 6) (ga_cons (gv 7) (ga_cons (gv 5) (ga_cons (gv 4) ga_nil)))))))
 (gss_one (gs_ret ge_bl))
 gss_nil)))))))
 (gss_cons (gs_for PassesOwn.never rfl (gi_rng1 (by rfl) T.z_range (ga_cons ge_int ga_nil)) (gg_name (i := 3) sc_law.nd rfl (.inl rfl))
 (gss_cons (gs_set (i := 8) sc_law.nd rfl (.inl rfl) (ge_lst ga_nil))
 (gss_cons (gs_expr (ge_call G__law_ask (hr.mono (by omega)) (by rfl) T.g__law_ask T.F__law_ask.kp T.b__law_ask (ga_cons (gv 1) (ga_cons (ge_op op_addU lr_add ge_int (ge_call G__law_pick (hr.mono (by omega)) (by rfl) T.g__law_pick T.F__law_pick.kp T.b__law_pick (ga_cons (gv 1) (ga_cons ge_int ga_nil)))) (ga_cons (gv 2) (ga_cons (gv 8) ga_nil))))))
 (gss_one (gs_for PassesOwn.never rfl (gi_seq (ge_op op_addU lr_add (gv 8) (ge_slice (gv 8) go_none (go_some ge_int)))) (gg_name (i := 9) sc_law.nd rfl (.inl rfl))
 (gss_one (gs_if (gt_not (gt_val (ge_call G__law_ask_good (hr.mono (by omega)) (by rfl) T.g__law_ask_good T.F__law_ask_good.kp T.b__law_ask_good (ga_cons (gv 9) ga_nil))))
 (gss_one (gs_ret ge_bl))
 gss_nil)))))))
 (gss_one (gs_ret ge_bl))))))) (fun ds m Q h => ?_)
  obtain ⟨ns, rfl, hn, h⟩ := h
  rw [show startD N_law [.rol (ns.map .int)] = [some (.rol (ns.map .int)), none, none, none, none, none, none, none, none, none, none] from rfl]
  walk_at "pd"
  intro q hq a ha
  have haq : a ≠ q := (mne ha mset_same).symm
  have P0 : Pool (mset (mset m q (.lst (ns.map .int))) a (.lst [.ref q, .int 0, .int 7, .int 0])) a q := ⟨haq, ns, 0, 7, 0, mset_same, by rw [mset_ne haq.symm]; exact mset_same⟩
  generalize mset (mset m q (.lst (ns.map .int))) a (.lst [.ref q, .int 0, .int 7, .int 0]) = m0 at *
  refine ⟨a, q, rfl, P0, fun pw m1 _ wa wq W1 P1 _ => ?_⟩
  refine loop_range (n := 2) (fun i s' m' => (∃ c3 c4 c5 c6 c7 c8 c9 c10, s' = [some (.rol (ns.map .int)), some (.ref a), some (.ref pw), c3, c4, c5, c6, c7, c8, c9, c10]) ∧ Pool m' a q ∧ Words m' pw) (fun i s' m' R hi hR ⟨⟨c3, c4, c5, c6, c7, c8, c9, c10, e1⟩, P2, W2⟩ => ?_) (fun s' m' ⟨⟨c3, c4, c5, c6, c7, c8, c9, c10, e1⟩, P2, W2⟩ => ?_) ⟨⟨_, _, _, _, _, _, _, _, rfl⟩, P1, W1⟩
  · subst e1
    clear P0 P1 W1
    walk_at "pd"
    refine ⟨_, _, _, rfl, by assumption, by omega, by omega, fun r3 m3 r3_0 r3_1 P3 O3 => ?_⟩
    walk_at "pd"
    obtain ⟨n, hn, hn1, hn2⟩ : ∃ n : Nat, 1 + r3 = (n : Int) ∧ 1 ≤ n ∧ n ≤ 2 := ⟨(1 + r3).toNat, by omega, by omega, by omega⟩
    rw [hn]
    refine ⟨a, q, n, rfl, hn1, hn2, P3, fun p ks m4 C4 P4 O4 => ?_⟩
    refine ⟨a, q, n, p, ks, _, rfl, hn2, C4, ?_⟩
    have W4 := (W2.off wa wq O3).off wa wq O4
    obtain ⟨hpa, hpq, hk5, cs4, hc4, hcs4⟩ := id C4
    have hw2 : ∀ ws, some ws ∈ ks → ws.length ≤ 2 := fun ws hws => by
      obtain ⟨i, hi⟩ := List.getElem?_of_mem hws
      have := hcs4.rows hi
      omega
    have rl := refs_len2 ["sign"] ks 0 hw2
    refine ⟨a, q, n, p, pw, ks, _, rfl, hn2, by rw [List.length_map]; omega, wa, wq, W4, C4, P4, fun mk ps ts m5 hks hps P5 O5 => ?_⟩
    have C5 := C4.off O5
    have W5 := W4.off wa wq O5
    obtain ⟨_, _, _, cs, hc, hcs⟩ := id C5
    refine ⟨_, seqOf_ref hc, fun g hg => ?_⟩
    have hpg : p ≠ g := mne hg hc
    refine comp_inv (fun rem acc m' => ∃ kpre kpost, ks = kpre ++ kpost ∧ CodesL a q n m5 rem kpost ∧ acc = kpre.map kdD ∧ m' = mset m5 g (.lst acc)) (fun d rem acc m1 R2 hR2 ⟨kpre, kpost, e1, e2, e3, e4⟩ => ?_) (fun acc m1 ⟨kpre, kpost, e1, e2, e3, e4⟩ => ?_) ⟨[], ks, rfl, hcs, rfl, rfl⟩
    · subst e4
      have hc2 : mset m5 g (.lst acc) p = some (.lst cs) := by rw [mset_ne hpg]; exact hc
      cases kpost with
      | nil => exact e2.elim
      | cons k kpost =>
        have hz : acc.length < sizeLine := by
          have := congrArg List.length e1
          rw [List.length_append] at this
          rw [e3, List.length_map]
          exact Nat.lt_of_lt_of_le (by omega : _ < 1000) (by decide)
        have nxt := hR2 (acc ++ [kdD k]) _ ⟨kpre ++ [k], kpost, by rw [e1]; simp, e2.2, by rw [e3]; simp, rfl⟩
        refine ⟨seqOf_ref hc2, ?_⟩
        walk_at "pd"
        cases k with
        | none =>
          cases e2.1
          walk_at "pd"
          exact ⟨hz, nxt⟩
        | some ws =>
          obtain ⟨r, rfl, hra, hrq, hr, _, _⟩ := e2.1
          have hr2 : mset m5 g (.lst acc) r = some (.lst (ws.map .str)) := by rw [mset_ne (mne hg hr)]; exact hr
          refine ⟨_, eqK_rs hr2, ?_⟩
          walk_at "pd"
          refine ⟨_, seqOf_ref hr2, ?_⟩
          exact ⟨hz, nxt⟩
    · subst e4
      have hk0 : kpost = [] ∧ acc = ks.map kdD := by
        cases kpost with
        | nil => exact ⟨rfl, by rw [e3, e1, List.append_nil]⟩
        | cons _ _ => exact e2.elim
      rw [hk0.2]
      refine ⟨seqOf_ref (by rw [mset_ne hpg]; exact hc), mset_same, _, seqOf_ref mset_same, ?_⟩
      refine ⟨a, q, p, n, mk, ts, ps, ks, rfl, hn2, C5.off ((OffS.refl a q m5).new hg), hks, hps, ?_⟩
      walk_at "pd"
      exact hR _ _ ⟨⟨_, _, _, _, _, _, _, _, rfl⟩, P5.new hg, W5.off wa wq ((OffS.refl a q m5).new hg)⟩
  · subst e1
    walk_at "pd"
    refine loop_range (n := 2) (fun i s' m' => (∃ c3 c4 c5 c6 c7 c8 c9 c10, s' = [some (.rol (ns.map .int)), some (.ref a), some (.ref pw), c3, c4, c5, c6, c7, c8, c9, c10]) ∧ Pool m' a q ∧ Words m' pw) (fun i s' m' R hi hR ⟨⟨c3, c4, c5, c6, c7, c8, c9, c10, e1⟩, P2, W2⟩ => ?_) (fun s' m' ⟨⟨c3, c4, c5, c6, c7, c8, c9, c10, e1⟩, P2, W2⟩ => ?_) ⟨⟨_, _, _, _, _, _, _, _, rfl⟩, P2, W2⟩
    · subst e1
      walk_at "pd"
      intro u hu
      have ua := P2.neA hu
      have uq := P2.neQ hu
      have wu : pw ≠ u := by
        obtain ⟨_, _, _, e⟩ := W2
        exact mne hu e
      have P3 : Pool (mset m' u (.lst [])) a q := P2.new hu
      refine ⟨_, _, _, rfl, by assumption, by omega, by omega, fun r4 m4 r4_0 r4_1 P4 O4 => ?_⟩
      walk_at "pd"
      have O4' := ((OffS.refl a q m').new hu).trans O4
      have W4 := W2.off wa wq O4'
      refine ⟨a, q, pw, u, 1 + r4, [], rfl, by omega, by omega, by omega, wa, wq, wu, ua, uq, W4, P4, ⟨O4 u _ ua uq mset_same, fun x hx => absurd hx List.not_mem_nil⟩, by rw [List.length_nil]; omega, fun A l m5 _ g5 N5 P5 O5 => ?_⟩
      have W5 := W4.off3 wa wq wu O5
      rw [List.length_nil] at g5
      have hl : l.length ≤ 100 := by omega
      walk_at "pd"
      refine ⟨_, seqOf_ref N5.1, fun v hv => ?_⟩
      have cl := cut_len (l.map noteD) none (some 1)
      refine ⟨l.map noteD, PD.cutD (l.map noteD) none (some 1), mset_new hv N5.1, rfl, ?_, fun t ht => ?_⟩
      · rw [List.length_map] at cl ⊢
        exact small_line (by omega)
      · refine ⟨_, seqOf_ref mset_same, ?_⟩
        have P6 : Pool (mset (mset m5 v (.lst (PD.cutD (l.map noteD) none (some 1)))) t (.lst (l.map noteD ++ PD.cutD (l.map noteD) none (some 1)))) a q := (P5.new hv).new ht
        have W6 : Words (mset (mset m5 v (.lst (PD.cutD (l.map noteD) none (some 1)))) t (.lst (l.map noteD ++ PD.cutD (l.map noteD) none (some 1)))) pw := W5.off wa wq (((OffS.refl a q m5).new hv).new ht)
        have S6 : seqOf (mset (mset m5 v (.lst (PD.cutD (l.map noteD) none (some 1)))) t (.lst (l.map noteD ++ PD.cutD (l.map noteD) none (some 1)))) (.ref t) = some (l.map noteD ++ PD.cutD (l.map noteD) none (some 1)) := seqOf_ref mset_same
        generalize mset (mset m5 v (.lst (PD.cutD (l.map noteD) none (some 1)))) t (.lst (l.map noteD ++ PD.cutD (l.map noteD) none (some 1))) = m6 at *
        refine loop_inv (fun rem s' m' => (∀ d ∈ rem, ∃ A : Ak, d = noteD A ∧ sizeA A ≤ 7) ∧ (∃ c9, s' = [some (.rol (ns.map .int)), some (.ref a), some (.ref pw), some (.int (i : Nat)), c4, c5, c6, c7, some (.ref u), c9, c10]) ∧ m' = m6) ?_ ?_ ⟨fun d hd => ?_, ⟨_, rfl⟩, rfl⟩
        · rintro d rem s' m' R2 hR2 ⟨hd, ⟨c9, rfl⟩, rfl⟩
          obtain ⟨B, rfl, hB⟩ := hd d (List.mem_cons_self ..)
          refine ⟨S6, ?_⟩
          walk_at "pd"
          refine ⟨B, rfl, hB, ?_⟩
          walk_at "pd"
          exact hR2 _ _ ⟨fun d hd' => hd d (List.mem_cons_of_mem _ hd'), ⟨_, rfl⟩, rfl⟩
        · rintro s' m' ⟨hd, ⟨c9, rfl⟩, rfl⟩
          exact ⟨S6, hR _ _ ⟨⟨_, _, _, _, _, _, _, _, rfl⟩, P6, W6⟩⟩
        · have hx : d ∈ l.map noteD := by
            rcases List.mem_append.mp hd with h1 | h1
            · exact h1
            · exact cut_mem h1
          obtain ⟨B, hB, rfl⟩ := List.mem_map.mp hx
          exact ⟨B, rfl, N5.2 B hB⟩
    · subst e1
      walk_at "pd"
      exact sub_refl_fin (h _)
end
end K19

set_option Elab.async false
set_option linter.all false
set_option maxRecDepth 100000
set_option maxHeartbeats 4000000
namespace K19
open PySem PySem.Spec PyProof.Rows L2 PD
section
variable {P : Program} {w : World} {K : PySem.W.Frag} {mg : Str → Option Value} {base : Heap}
theorem law_all (T : Txt K mg) : FnOk P w K mg base CX0 11 T.f_law T.fd_law ["script"] (spL K 1 sp_law) := by
  have G__kind_of : FnOk P w K mg base CX0 1 T.f__kind_of T.fd__kind_of ["piece"] (spL K 1 sp__kind_of) := ok__kind_of T 
  have G_kinds_of : FnOk P w K mg base CX0 2 T.f_kinds_of T.fd_kinds_of ["way"] (spL K 1 sp_kinds_of) := ok_kinds_of T G__kind_of
  have G_part_places : FnOk P w K mg base CX0 1 T.f_part_places T.fd_part_places ["kinds"] (spL K 1 sp_part_places) := ok_part_places T 
  have G__refs_to : FnOk P w K mg base CX0 1 T.f__refs_to T.fd__refs_to ["kinds", "words"] (spL K 2 sp__refs_to) := ok__refs_to T 
  have G_sign_places : FnOk P w K mg base CX0 2 T.f_sign_places T.fd_sign_places ["kinds"] (spL K 1 sp_sign_places) := ok_sign_places T G__refs_to
  have G_run_places : FnOk P w K mg base CX0 2 T.f_run_places T.fd_run_places ["kinds"] (spL K 1 sp_run_places) := ok_run_places T G__refs_to
  have G_asks_in : FnOk P w K mg base CX0 1 T.f_asks_in T.fd_asks_in ["ask"] (spL K 1 sp_asks_in) := ok_asks_in T 
  have G_all_asks : FnOk P w K mg base CX0 2 T.f_all_asks T.fd_all_asks ["ask"] (spL K 1 sp_all_asks) := ok_all_asks T G_asks_in
  have G_own_judge : FnOk P w K mg base CX0 1 T.f_own_judge T.fd_own_judge ["ask"] (spL K 1 sp_own_judge) := ok_own_judge T 
  have G_judges_of : FnOk P w K mg base CX0 3 T.f_judges_of T.fd_judges_of ["ask"] (spL K 1 sp_judges_of) := ok_judges_of T G_all_asks G_own_judge
  have G_has_first : FnOk P w K mg base CX0 3 T.f_has_first T.fd_has_first ["ask"] (spL K 1 sp_has_first) := ok_has_first T G_all_asks
  have G__law_pick : FnOk P w K mg base CX0 1 T.f__law_pick T.fd__law_pick ["pool", "many"] (spL K 2 sp__law_pick) := ok__law_pick T 
  have G__law_same : FnOk P w K mg base CX0 9 T.f__law_same T.fd__law_same ["told", "due"] (spL K 2 sp__law_same) := same_all T 8
  have G__law_words : FnOk P w K mg base CX0 2 T.f__law_words T.fd__law_words ["pool"] (spL K 1 sp__law_words) := ok__law_words T G__law_pick
  have G__law_mark : FnOk P w K mg base CX0 2 T.f__law_mark T.fd__law_mark ["pool", "word"] (spL K 2 sp__law_mark) := ok__law_mark T G__law_pick
  have G__law_codes : FnOk P w K mg base CX0 2 T.f__law_codes T.fd__law_codes ["pool", "rows"] (spL K 2 sp__law_codes) := ok__law_codes T G__law_pick
  have G__law_places : FnOk P w K mg base CX0 1 T.f__law_places T.fd__law_places ["codes", "rows", "word"] (spL K 3 sp__law_places) := ok__law_places T 
  have G__law_tests : FnOk P w K mg base CX0 2 T.f__law_tests T.fd__law_tests ["pool", "words", "places"] (spL K 3 sp__law_tests) := ok__law_tests T G__law_pick
  have G__law_way : FnOk P w K mg base CX0 3 T.f__law_way T.fd__law_way ["pool", "codes", "words", "places"] (spL K 4 sp__law_way) := ok__law_way T G__law_tests G__law_pick G__law_mark
  have G__law_side : FnOk P w K mg base CX0 1 T.f__law_side T.fd__law_side ["note", "notes"] (spL K 2 sp__law_side) := ok__law_side T 
  have G__law_ask : FnOk P w K mg base CX0 7 T.f__law_ask T.fd__law_ask ["pool", "room", "words", "notes"] (spL K 4 sp__law_ask) := ask_all T G__law_pick G__law_side 4
  have G__law_way_good : FnOk P w K mg base CX0 10 T.f__law_way_good T.fd__law_way_good ["line", "sorts", "codes", "rows"] (spL K 4 sp__law_way_good) := ok__law_way_good T G__law_same G_run_places G_sign_places G_part_places G_kinds_of G__law_places
  have G__law_ask_good : FnOk P w K mg base CX0 10 T.f__law_ask_good T.fd__law_ask_good ["note"] (spL K 1 sp__law_ask_good) := ok__law_ask_good T G__law_same G_has_first G_asks_in G_judges_of
  have G_law : FnOk P w K mg base CX0 11 T.f_law T.fd_law ["script"] (spL K 1 sp_law) := ok_law T G__law_ask_good G__law_ask G__law_pick G__law_way_good G__law_way G__law_places G__law_codes G__law_words
  exact G_law
end
theorem all_mk {l : PySem.W.OpenLaw} {w : World} {K : PySem.W.Frag} {h : Heap} {mg : Str → Option Value} {fa : Addr} (X : K.In h) (G : h.Ns mainGlobals mg) (hfa : mg "law" = some (.ref fa))
    {f0 : Addr} {od0 an0 : Option Addr} {sl0 : Array (Option Value)} {oc0 kV0 dc0 pm0 cd0 ct0 : Value}
    (a0 : PySem.W.nsIn K mainGlobals "kinds_of" = some (some (.ref f0)))
    (l0 : K.lookup f0 = some ⟨oc0, od0, .func (PySem.W.fnOf "kinds_of" "kinds_of" (defArgs s_kinds_of) (defBody s_kinds_of) (defScope s_kinds_of) .none kV0 dc0 pm0 an0 cd0 ct0), sl0⟩)
    (c0 : PySem.W.codeIn K cd0 "kinds_of" = true) (k0 : PySem.W.keepIn K (.ref f0) = true)
    {f1 : Addr} {od1 an1 : Option Addr} {sl1 : Array (Option Value)} {oc1 kV1 dc1 pm1 cd1 ct1 : Value}
    (a1 : PySem.W.nsIn K mainGlobals "part_places" = some (some (.ref f1)))
    (l1 : K.lookup f1 = some ⟨oc1, od1, .func (PySem.W.fnOf "part_places" "part_places" (defArgs s_part_places) (defBody s_part_places) (defScope s_part_places) .none kV1 dc1 pm1 an1 cd1 ct1), sl1⟩)
    (c1 : PySem.W.codeIn K cd1 "part_places" = true) (k1 : PySem.W.keepIn K (.ref f1) = true)
    {f2 : Addr} {od2 an2 : Option Addr} {sl2 : Array (Option Value)} {oc2 kV2 dc2 pm2 cd2 ct2 : Value}
    (a2 : PySem.W.nsIn K mainGlobals "sign_places" = some (some (.ref f2)))
    (l2 : K.lookup f2 = some ⟨oc2, od2, .func (PySem.W.fnOf "sign_places" "sign_places" (defArgs s_sign_places) (defBody s_sign_places) (defScope s_sign_places) .none kV2 dc2 pm2 an2 cd2 ct2), sl2⟩)
    (c2 : PySem.W.codeIn K cd2 "sign_places" = true) (k2 : PySem.W.keepIn K (.ref f2) = true)
    {f3 : Addr} {od3 an3 : Option Addr} {sl3 : Array (Option Value)} {oc3 kV3 dc3 pm3 cd3 ct3 : Value}
    (a3 : PySem.W.nsIn K mainGlobals "run_places" = some (some (.ref f3)))
    (l3 : K.lookup f3 = some ⟨oc3, od3, .func (PySem.W.fnOf "run_places" "run_places" (defArgs s_run_places) (defBody s_run_places) (defScope s_run_places) .none kV3 dc3 pm3 an3 cd3 ct3), sl3⟩)
    (c3 : PySem.W.codeIn K cd3 "run_places" = true) (k3 : PySem.W.keepIn K (.ref f3) = true)
    {f4 : Addr} {od4 an4 : Option Addr} {sl4 : Array (Option Value)} {oc4 kV4 dc4 pm4 cd4 ct4 : Value}
    (a4 : PySem.W.nsIn K mainGlobals "_kind_of" = some (some (.ref f4)))
    (l4 : K.lookup f4 = some ⟨oc4, od4, .func (PySem.W.fnOf "_kind_of" "_kind_of" (defArgs s__kind_of) (defBody s__kind_of) (defScope s__kind_of) .none kV4 dc4 pm4 an4 cd4 ct4), sl4⟩)
    (c4 : PySem.W.codeIn K cd4 "_kind_of" = true) (k4 : PySem.W.keepIn K (.ref f4) = true)
    {f5 : Addr} {od5 an5 : Option Addr} {sl5 : Array (Option Value)} {oc5 kV5 dc5 pm5 cd5 ct5 : Value}
    (a5 : PySem.W.nsIn K mainGlobals "_refs_to" = some (some (.ref f5)))
    (l5 : K.lookup f5 = some ⟨oc5, od5, .func (PySem.W.fnOf "_refs_to" "_refs_to" (defArgs s__refs_to) (defBody s__refs_to) (defScope s__refs_to) .none kV5 dc5 pm5 an5 cd5 ct5), sl5⟩)
    (c5 : PySem.W.codeIn K cd5 "_refs_to" = true) (k5 : PySem.W.keepIn K (.ref f5) = true)
    {f6 : Addr} {od6 an6 : Option Addr} {sl6 : Array (Option Value)} {oc6 kV6 dc6 pm6 cd6 ct6 : Value}
    (a6 : PySem.W.nsIn K mainGlobals "judges_of" = some (some (.ref f6)))
    (l6 : K.lookup f6 = some ⟨oc6, od6, .func (PySem.W.fnOf "judges_of" "judges_of" (defArgs s_judges_of) (defBody s_judges_of) (defScope s_judges_of) .none kV6 dc6 pm6 an6 cd6 ct6), sl6⟩)
    (c6 : PySem.W.codeIn K cd6 "judges_of" = true) (k6 : PySem.W.keepIn K (.ref f6) = true)
    {f7 : Addr} {od7 an7 : Option Addr} {sl7 : Array (Option Value)} {oc7 kV7 dc7 pm7 cd7 ct7 : Value}
    (a7 : PySem.W.nsIn K mainGlobals "asks_in" = some (some (.ref f7)))
    (l7 : K.lookup f7 = some ⟨oc7, od7, .func (PySem.W.fnOf "asks_in" "asks_in" (defArgs s_asks_in) (defBody s_asks_in) (defScope s_asks_in) .none kV7 dc7 pm7 an7 cd7 ct7), sl7⟩)
    (c7 : PySem.W.codeIn K cd7 "asks_in" = true) (k7 : PySem.W.keepIn K (.ref f7) = true)
    {f8 : Addr} {od8 an8 : Option Addr} {sl8 : Array (Option Value)} {oc8 kV8 dc8 pm8 cd8 ct8 : Value}
    (a8 : PySem.W.nsIn K mainGlobals "has_first" = some (some (.ref f8)))
    (l8 : K.lookup f8 = some ⟨oc8, od8, .func (PySem.W.fnOf "has_first" "has_first" (defArgs s_has_first) (defBody s_has_first) (defScope s_has_first) .none kV8 dc8 pm8 an8 cd8 ct8), sl8⟩)
    (c8 : PySem.W.codeIn K cd8 "has_first" = true) (k8 : PySem.W.keepIn K (.ref f8) = true)
    {f9 : Addr} {od9 an9 : Option Addr} {sl9 : Array (Option Value)} {oc9 kV9 dc9 pm9 cd9 ct9 : Value}
    (a9 : PySem.W.nsIn K mainGlobals "all_asks" = some (some (.ref f9)))
    (l9 : K.lookup f9 = some ⟨oc9, od9, .func (PySem.W.fnOf "all_asks" "all_asks" (defArgs s_all_asks) (defBody s_all_asks) (defScope s_all_asks) .none kV9 dc9 pm9 an9 cd9 ct9), sl9⟩)
    (c9 : PySem.W.codeIn K cd9 "all_asks" = true) (k9 : PySem.W.keepIn K (.ref f9) = true)
    {f10 : Addr} {od10 an10 : Option Addr} {sl10 : Array (Option Value)} {oc10 kV10 dc10 pm10 cd10 ct10 : Value}
    (a10 : PySem.W.nsIn K mainGlobals "own_judge" = some (some (.ref f10)))
    (l10 : K.lookup f10 = some ⟨oc10, od10, .func (PySem.W.fnOf "own_judge" "own_judge" (defArgs s_own_judge) (defBody s_own_judge) (defScope s_own_judge) .none kV10 dc10 pm10 an10 cd10 ct10), sl10⟩)
    (c10 : PySem.W.codeIn K cd10 "own_judge" = true) (k10 : PySem.W.keepIn K (.ref f10) = true)
    {f11 : Addr} {od11 an11 : Option Addr} {sl11 : Array (Option Value)} {oc11 kV11 dc11 pm11 cd11 ct11 : Value}
    (a11 : PySem.W.nsIn K mainGlobals "_law_pick" = some (some (.ref f11)))
    (l11 : K.lookup f11 = some ⟨oc11, od11, .func (PySem.W.fnOf "_law_pick" "_law_pick" (defArgs s__law_pick) (defBody s__law_pick) (defScope s__law_pick) .none kV11 dc11 pm11 an11 cd11 ct11), sl11⟩)
    (c11 : PySem.W.codeIn K cd11 "_law_pick" = true) (k11 : PySem.W.keepIn K (.ref f11) = true)
    {f12 : Addr} {od12 an12 : Option Addr} {sl12 : Array (Option Value)} {oc12 kV12 dc12 pm12 cd12 ct12 : Value}
    (a12 : PySem.W.nsIn K mainGlobals "_law_same" = some (some (.ref f12)))
    (l12 : K.lookup f12 = some ⟨oc12, od12, .func (PySem.W.fnOf "_law_same" "_law_same" (defArgs s__law_same) (defBody s__law_same) (defScope s__law_same) .none kV12 dc12 pm12 an12 cd12 ct12), sl12⟩)
    (c12 : PySem.W.codeIn K cd12 "_law_same" = true) (k12 : PySem.W.keepIn K (.ref f12) = true)
    {f13 : Addr} {od13 an13 : Option Addr} {sl13 : Array (Option Value)} {oc13 kV13 dc13 pm13 cd13 ct13 : Value}
    (a13 : PySem.W.nsIn K mainGlobals "_law_words" = some (some (.ref f13)))
    (l13 : K.lookup f13 = some ⟨oc13, od13, .func (PySem.W.fnOf "_law_words" "_law_words" (defArgs s__law_words) (defBody s__law_words) (defScope s__law_words) .none kV13 dc13 pm13 an13 cd13 ct13), sl13⟩)
    (c13 : PySem.W.codeIn K cd13 "_law_words" = true) (k13 : PySem.W.keepIn K (.ref f13) = true)
    {f14 : Addr} {od14 an14 : Option Addr} {sl14 : Array (Option Value)} {oc14 kV14 dc14 pm14 cd14 ct14 : Value}
    (a14 : PySem.W.nsIn K mainGlobals "_law_mark" = some (some (.ref f14)))
    (l14 : K.lookup f14 = some ⟨oc14, od14, .func (PySem.W.fnOf "_law_mark" "_law_mark" (defArgs s__law_mark) (defBody s__law_mark) (defScope s__law_mark) .none kV14 dc14 pm14 an14 cd14 ct14), sl14⟩)
    (c14 : PySem.W.codeIn K cd14 "_law_mark" = true) (k14 : PySem.W.keepIn K (.ref f14) = true)
    {f15 : Addr} {od15 an15 : Option Addr} {sl15 : Array (Option Value)} {oc15 kV15 dc15 pm15 cd15 ct15 : Value}
    (a15 : PySem.W.nsIn K mainGlobals "_law_codes" = some (some (.ref f15)))
    (l15 : K.lookup f15 = some ⟨oc15, od15, .func (PySem.W.fnOf "_law_codes" "_law_codes" (defArgs s__law_codes) (defBody s__law_codes) (defScope s__law_codes) .none kV15 dc15 pm15 an15 cd15 ct15), sl15⟩)
    (c15 : PySem.W.codeIn K cd15 "_law_codes" = true) (k15 : PySem.W.keepIn K (.ref f15) = true)
    {f16 : Addr} {od16 an16 : Option Addr} {sl16 : Array (Option Value)} {oc16 kV16 dc16 pm16 cd16 ct16 : Value}
    (a16 : PySem.W.nsIn K mainGlobals "_law_places" = some (some (.ref f16)))
    (l16 : K.lookup f16 = some ⟨oc16, od16, .func (PySem.W.fnOf "_law_places" "_law_places" (defArgs s__law_places) (defBody s__law_places) (defScope s__law_places) .none kV16 dc16 pm16 an16 cd16 ct16), sl16⟩)
    (c16 : PySem.W.codeIn K cd16 "_law_places" = true) (k16 : PySem.W.keepIn K (.ref f16) = true)
    {f17 : Addr} {od17 an17 : Option Addr} {sl17 : Array (Option Value)} {oc17 kV17 dc17 pm17 cd17 ct17 : Value}
    (a17 : PySem.W.nsIn K mainGlobals "_law_tests" = some (some (.ref f17)))
    (l17 : K.lookup f17 = some ⟨oc17, od17, .func (PySem.W.fnOf "_law_tests" "_law_tests" (defArgs s__law_tests) (defBody s__law_tests) (defScope s__law_tests) .none kV17 dc17 pm17 an17 cd17 ct17), sl17⟩)
    (c17 : PySem.W.codeIn K cd17 "_law_tests" = true) (k17 : PySem.W.keepIn K (.ref f17) = true)
    {f18 : Addr} {od18 an18 : Option Addr} {sl18 : Array (Option Value)} {oc18 kV18 dc18 pm18 cd18 ct18 : Value}
    (a18 : PySem.W.nsIn K mainGlobals "_law_way" = some (some (.ref f18)))
    (l18 : K.lookup f18 = some ⟨oc18, od18, .func (PySem.W.fnOf "_law_way" "_law_way" (defArgs s__law_way) (defBody s__law_way) (defScope s__law_way) .none kV18 dc18 pm18 an18 cd18 ct18), sl18⟩)
    (c18 : PySem.W.codeIn K cd18 "_law_way" = true) (k18 : PySem.W.keepIn K (.ref f18) = true)
    {f19 : Addr} {od19 an19 : Option Addr} {sl19 : Array (Option Value)} {oc19 kV19 dc19 pm19 cd19 ct19 : Value}
    (a19 : PySem.W.nsIn K mainGlobals "_law_side" = some (some (.ref f19)))
    (l19 : K.lookup f19 = some ⟨oc19, od19, .func (PySem.W.fnOf "_law_side" "_law_side" (defArgs s__law_side) (defBody s__law_side) (defScope s__law_side) .none kV19 dc19 pm19 an19 cd19 ct19), sl19⟩)
    (c19 : PySem.W.codeIn K cd19 "_law_side" = true) (k19 : PySem.W.keepIn K (.ref f19) = true)
    {f20 : Addr} {od20 an20 : Option Addr} {sl20 : Array (Option Value)} {oc20 kV20 dc20 pm20 cd20 ct20 : Value}
    (a20 : PySem.W.nsIn K mainGlobals "_law_ask" = some (some (.ref f20)))
    (l20 : K.lookup f20 = some ⟨oc20, od20, .func (PySem.W.fnOf "_law_ask" "_law_ask" (defArgs s__law_ask) (defBody s__law_ask) (defScope s__law_ask) .none kV20 dc20 pm20 an20 cd20 ct20), sl20⟩)
    (c20 : PySem.W.codeIn K cd20 "_law_ask" = true) (k20 : PySem.W.keepIn K (.ref f20) = true)
    {f21 : Addr} {od21 an21 : Option Addr} {sl21 : Array (Option Value)} {oc21 kV21 dc21 pm21 cd21 ct21 : Value}
    (a21 : PySem.W.nsIn K mainGlobals "_law_way_good" = some (some (.ref f21)))
    (l21 : K.lookup f21 = some ⟨oc21, od21, .func (PySem.W.fnOf "_law_way_good" "_law_way_good" (defArgs s__law_way_good) (defBody s__law_way_good) (defScope s__law_way_good) .none kV21 dc21 pm21 an21 cd21 ct21), sl21⟩)
    (c21 : PySem.W.codeIn K cd21 "_law_way_good" = true) (k21 : PySem.W.keepIn K (.ref f21) = true)
    {f22 : Addr} {od22 an22 : Option Addr} {sl22 : Array (Option Value)} {oc22 kV22 dc22 pm22 cd22 ct22 : Value}
    (a22 : PySem.W.nsIn K mainGlobals "_law_ask_good" = some (some (.ref f22)))
    (l22 : K.lookup f22 = some ⟨oc22, od22, .func (PySem.W.fnOf "_law_ask_good" "_law_ask_good" (defArgs s__law_ask_good) (defBody s__law_ask_good) (defScope s__law_ask_good) .none kV22 dc22 pm22 an22 cd22 ct22), sl22⟩)
    (c22 : PySem.W.codeIn K cd22 "_law_ask_good" = true) (k22 : PySem.W.keepIn K (.ref f22) = true)
    {f23 : Addr} {od23 an23 : Option Addr} {sl23 : Array (Option Value)} {oc23 kV23 dc23 pm23 cd23 ct23 : Value}
    (a23 : PySem.W.nsIn K mainGlobals "law" = some (some (.ref f23)))
    (l23 : K.lookup f23 = some ⟨oc23, od23, .func (PySem.W.fnOf "law" "law" (defArgs s_law) (defBody s_law) (defScope s_law) .none kV23 dc23 pm23 an23 cd23 ct23), sl23⟩)
    (c23 : PySem.W.codeIn K cd23 "law" = true) (k23 : PySem.W.keepIn K (.ref f23) = true)
    (z_tuple : PySem.W.nsIn K mainGlobals "tuple" = some none)
    (z_enumerate : PySem.W.nsIn K mainGlobals "enumerate" = some none)
    (z_len : PySem.W.nsIn K mainGlobals "len" = some none)
    (z_int : PySem.W.nsIn K mainGlobals "int" = some none)
    (z_range : PySem.W.nsIn K mainGlobals "range" = some none)
    (z_isinstance : PySem.W.nsIn K mainGlobals "isinstance" = some none)
    (z_str : PySem.W.nsIn K mainGlobals "str" = some none)
    (z_bool : PySem.W.nsIn K mainGlobals "bool" = some none)
    (z_min : PySem.W.nsIn K mainGlobals "min" = some none)
    (z_sorted : PySem.W.nsIn K mainGlobals "sorted" = some none)
    (z_list : PySem.W.nsIn K mainGlobals "list" = some none)
    : ∃ fd : FuncData, (∀ (s : Shared) (v : Value), BindsTo s fd ⟨[v], []⟩ [("script", v)]) ∧ ∀ base : Heap, K.In base → base.Ns mainGlobals mg → FnOk l.prog w K mg base CX0 11 fa fd ["script"] (spL K 1 sp_law) := by
  have e := hfa.symm.trans (PySem.W.mg_of X G a23)
  cases e
  let T : Txt K mg := {
    f_kinds_of := f0, fd_kinds_of := _, F_kinds_of := fun_mk (st := s_kinds_of) l0 c0 k0, g_kinds_of := PySem.W.mg_of X G a0
    f_part_places := f1, fd_part_places := _, F_part_places := fun_mk (st := s_part_places) l1 c1 k1, g_part_places := PySem.W.mg_of X G a1
    f_sign_places := f2, fd_sign_places := _, F_sign_places := fun_mk (st := s_sign_places) l2 c2 k2, g_sign_places := PySem.W.mg_of X G a2
    f_run_places := f3, fd_run_places := _, F_run_places := fun_mk (st := s_run_places) l3 c3 k3, g_run_places := PySem.W.mg_of X G a3
    f__kind_of := f4, fd__kind_of := _, F__kind_of := fun_mk (st := s__kind_of) l4 c4 k4, g__kind_of := PySem.W.mg_of X G a4
    f__refs_to := f5, fd__refs_to := _, F__refs_to := fun_mk (st := s__refs_to) l5 c5 k5, g__refs_to := PySem.W.mg_of X G a5
    f_judges_of := f6, fd_judges_of := _, F_judges_of := fun_mk (st := s_judges_of) l6 c6 k6, g_judges_of := PySem.W.mg_of X G a6
    f_asks_in := f7, fd_asks_in := _, F_asks_in := fun_mk (st := s_asks_in) l7 c7 k7, g_asks_in := PySem.W.mg_of X G a7
    f_has_first := f8, fd_has_first := _, F_has_first := fun_mk (st := s_has_first) l8 c8 k8, g_has_first := PySem.W.mg_of X G a8
    f_all_asks := f9, fd_all_asks := _, F_all_asks := fun_mk (st := s_all_asks) l9 c9 k9, g_all_asks := PySem.W.mg_of X G a9
    f_own_judge := f10, fd_own_judge := _, F_own_judge := fun_mk (st := s_own_judge) l10 c10 k10, g_own_judge := PySem.W.mg_of X G a10
    f__law_pick := f11, fd__law_pick := _, F__law_pick := fun_mk (st := s__law_pick) l11 c11 k11, g__law_pick := PySem.W.mg_of X G a11
    f__law_same := f12, fd__law_same := _, F__law_same := fun_mk (st := s__law_same) l12 c12 k12, g__law_same := PySem.W.mg_of X G a12
    f__law_words := f13, fd__law_words := _, F__law_words := fun_mk (st := s__law_words) l13 c13 k13, g__law_words := PySem.W.mg_of X G a13
    f__law_mark := f14, fd__law_mark := _, F__law_mark := fun_mk (st := s__law_mark) l14 c14 k14, g__law_mark := PySem.W.mg_of X G a14
    f__law_codes := f15, fd__law_codes := _, F__law_codes := fun_mk (st := s__law_codes) l15 c15 k15, g__law_codes := PySem.W.mg_of X G a15
    f__law_places := f16, fd__law_places := _, F__law_places := fun_mk (st := s__law_places) l16 c16 k16, g__law_places := PySem.W.mg_of X G a16
    f__law_tests := f17, fd__law_tests := _, F__law_tests := fun_mk (st := s__law_tests) l17 c17 k17, g__law_tests := PySem.W.mg_of X G a17
    f__law_way := f18, fd__law_way := _, F__law_way := fun_mk (st := s__law_way) l18 c18 k18, g__law_way := PySem.W.mg_of X G a18
    f__law_side := f19, fd__law_side := _, F__law_side := fun_mk (st := s__law_side) l19 c19 k19, g__law_side := PySem.W.mg_of X G a19
    f__law_ask := f20, fd__law_ask := _, F__law_ask := fun_mk (st := s__law_ask) l20 c20 k20, g__law_ask := PySem.W.mg_of X G a20
    f__law_way_good := f21, fd__law_way_good := _, F__law_way_good := fun_mk (st := s__law_way_good) l21 c21 k21, g__law_way_good := PySem.W.mg_of X G a21
    f__law_ask_good := f22, fd__law_ask_good := _, F__law_ask_good := fun_mk (st := s__law_ask_good) l22 c22 k22, g__law_ask_good := PySem.W.mg_of X G a22
    f_law := fa, fd_law := _, F_law := fun_mk (st := s_law) l23 c23 k23, g_law := PySem.W.mg_of X G a23
    z_tuple := PySem.W.mg_none_of X G z_tuple
    z_enumerate := PySem.W.mg_none_of X G z_enumerate
    z_len := PySem.W.mg_none_of X G z_len
    z_int := PySem.W.mg_none_of X G z_int
    z_range := PySem.W.mg_none_of X G z_range
    z_isinstance := PySem.W.mg_none_of X G z_isinstance
    z_str := PySem.W.mg_none_of X G z_str
    z_bool := PySem.W.mg_none_of X G z_bool
    z_min := PySem.W.mg_none_of X G z_min
    z_sorted := PySem.W.mg_none_of X G z_sorted
    z_list := PySem.W.mg_none_of X G z_list
  }
  exact ⟨T.fd_law, fun s v => .of_eq rfl, fun base _ _ => law_all T⟩
theorem start {K : PySem.W.Frag} {H : Hp} {a : Addr} {ns : List Int} {E : XK} (hl : ns.length ≤ 63) (hO : L2.Only H) (hS : SqL K H a (ns.map V.int)) : spL K 1 sp_law [.ref a] H (fun v _ => v = .bl true) E := by
  have hr : RoL K H a (ns.map V.int) := by
    rcases hS with (h | ⟨u, h⟩) | h
    · rcases hO a with e | ⟨u, xs, e⟩
      · rw [e] at h; cases h
      · rw [e] at h; cases h
    · exact .inl ⟨u, h⟩
    · exact .inr h
  have hL : ∀ l : List Int, RepL K H (l.map D.int) (l.map V.int) := fun l => by
    induction l with
    | nil => exact .nil
    | cons x l ih => exact .cons (.int x) ih
  refine ⟨[.rol (ns.map D.int)], fun _ => none, fun v _ => v = .bl true, .cons (.rol hr (hL ns)) .nil, fun _ _ e => (by cases e), ⟨rfl, ns, rfl, by omega, fun _ => rfl⟩, fun v H' dv m' _ _ hv hq => ?_⟩
  subst hq
  cases hv
  rfl
end K19
open PySem PySem.W PyProof.Rows
set_option maxHeartbeats 0 in
theorem PySem.Challenge.cw_chooseonce_k19_kinds_places_and_asks_apa_holds : PySem.Challenge.rw_chooseonce_k19_kinds_places_and_asks_apa.Holds := by
  w_on; o_law; k_head; (case hw => w_witness2)
  k_fill
  refine L2.walk_of (l := PySem.Challenge.rw_chooseonce_k19_kinds_places_and_asks_apa) (n := 63) (k := 11) (x := "script") (CX := fun _ => L2.CX0) (sp := fun w => PD.spL _ 1 K19.sp_law) rfl (by decide) rfl ⟨rfl, by decide, by decide⟩ (fun w h Y => PySem.W.kIn_of Y) ?F (fun _ _ a ns hl hO hS => K19.start hl hO hS) (fun _ _ _ _ _ h => h)
  case F =>
    intro w mg fa h KX G hmg
    refine' K19.all_mk KX G hmg ?a0 ?l0 ?c0 ?k0 ?a1 ?l1 ?c1 ?k1 ?a2 ?l2 ?c2 ?k2 ?a3 ?l3 ?c3 ?k3 ?a4 ?l4 ?c4 ?k4 ?a5 ?l5 ?c5 ?k5 ?a6 ?l6 ?c6 ?k6 ?a7 ?l7 ?c7 ?k7 ?a8 ?l8 ?c8 ?k8 ?a9 ?l9 ?c9 ?k9 ?a10 ?l10 ?c10 ?k10 ?a11 ?l11 ?c11 ?k11 ?a12 ?l12 ?c12 ?k12 ?a13 ?l13 ?c13 ?k13 ?a14 ?l14 ?c14 ?k14 ?a15 ?l15 ?c15 ?k15 ?a16 ?l16 ?c16 ?k16 ?a17 ?l17 ?c17 ?k17 ?a18 ?l18 ?c18 ?k18 ?a19 ?l19 ?c19 ?k19 ?a20 ?l20 ?c20 ?k20 ?a21 ?l21 ?c21 ?k21 ?a22 ?l22 ?c22 ?k22 ?a23 ?l23 ?c23 ?k23 ?z_tuple ?z_enumerate ?z_len ?z_int ?z_range ?z_isinstance ?z_str ?z_bool ?z_min ?z_sorted ?z_list
    (case a0 => k_is); (case l0 => k_is); (case c0 => k_is); (case k0 => k_is)
    (case a1 => k_is); (case l1 => k_is); (case c1 => k_is); (case k1 => k_is)
    (case a2 => k_is); (case l2 => k_is); (case c2 => k_is); (case k2 => k_is)
    (case a3 => k_is); (case l3 => k_is); (case c3 => k_is); (case k3 => k_is)
    (case a4 => k_is); (case l4 => k_is); (case c4 => k_is); (case k4 => k_is)
    (case a5 => k_is); (case l5 => k_is); (case c5 => k_is); (case k5 => k_is)
    (case a6 => k_is); (case l6 => k_is); (case c6 => k_is); (case k6 => k_is)
    (case a7 => k_is); (case l7 => k_is); (case c7 => k_is); (case k7 => k_is)
    (case a8 => k_is); (case l8 => k_is); (case c8 => k_is); (case k8 => k_is)
    (case a9 => k_is); (case l9 => k_is); (case c9 => k_is); (case k9 => k_is)
    (case a10 => k_is); (case l10 => k_is); (case c10 => k_is); (case k10 => k_is)
    (case a11 => k_is); (case l11 => k_is); (case c11 => k_is); (case k11 => k_is)
    (case a12 => k_is); (case l12 => k_is); (case c12 => k_is); (case k12 => k_is)
    (case a13 => k_is); (case l13 => k_is); (case c13 => k_is); (case k13 => k_is)
    (case a14 => k_is); (case l14 => k_is); (case c14 => k_is); (case k14 => k_is)
    (case a15 => k_is); (case l15 => k_is); (case c15 => k_is); (case k15 => k_is)
    (case a16 => k_is); (case l16 => k_is); (case c16 => k_is); (case k16 => k_is)
    (case a17 => k_is); (case l17 => k_is); (case c17 => k_is); (case k17 => k_is)
    (case a18 => k_is); (case l18 => k_is); (case c18 => k_is); (case k18 => k_is)
    (case a19 => k_is); (case l19 => k_is); (case c19 => k_is); (case k19 => k_is)
    (case a20 => k_is); (case l20 => k_is); (case c20 => k_is); (case k20 => k_is)
    (case a21 => k_is); (case l21 => k_is); (case c21 => k_is); (case k21 => k_is)
    (case a22 => k_is); (case l22 => k_is); (case c22 => k_is); (case k22 => k_is)
    (case a23 => k_is); (case l23 => k_is); (case c23 => k_is); (case k23 => k_is)
    (case z_tuple => k_is)
    (case z_enumerate => k_is)
    (case z_len => k_is)
    (case z_int => k_is)
    (case z_range => k_is)
    (case z_isinstance => k_is)
    (case z_str => k_is)
    (case z_bool => k_is)
    (case z_min => k_is)
    (case z_sorted => k_is)
    (case z_list => k_is)

