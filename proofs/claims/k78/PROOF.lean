import PyProof.Rows.All
import Wide.All
import OpenK.AllK
import Wide.FinOn
import HandS.ForMost
import HandS.TupAny
import HandS.Style
import HandS.IsInst
import HandS.SortRule
import HandS.Flow
import KE.GoesMore
import HandS.SetKeys
import HandS.WordsExc
import HandS.ExcInit
import HandS.Zip
import HandS.SortInts
import KE.DataCmp
import KE.DataMinMax
import KE.SortData
import KE.DataEq
import HandS.SetTxt0
import HandS.Set
import HandS.SetFor
import HandS.Strs
import HandS.Iter
import HandS.Text
import HandS.Exc
import HandS.TryMany
import HandS.Flt
import HandS.ExcIs
import HandS.ExcField
import KE.KExcIs
import HandS.Wide
import PySem.Challenge.RW_chooseonce_k78_whole_shelf_by_all_ways
set_option Elab.async false
set_option linter.all false
set_option maxRecDepth 100000
set_option maxHeartbeats 4000000
/-! A layer of plain data over the hand layer: values without addresses, a store of lists by address. -/
namespace PD
open PySem PySem.Spec PyProof.Rows L2

/-- a value without xs9 tuples' addresses -/
inductive D where
  | non | bl (b : Bool) | int (i : Int) | str (x : Str) | tup (ds : List D) | ref (a : Addr)
  /-- a list that is read only -/
  | rol (ds : List D)
/-- what stands at an address: a list -/
inductive MO where
  | lst (ds : List D)
  /-- a dict with ints and texts for keys; one with tuples of them -/
  | dct (kvs : List (Key × D))
  | dcT (kvs : List (List Key × D))
  /-- an instance of the class at C, its fields -/
  | ins (C : Addr) (fs : List (Str × D))
  /-- a set of ints and texts: its members, how many -/
  | sset (P : Program) (w : World) (S : Key → Bool) (n : Nat)
  /-- any other thing, by what is true of it -/
  | oth (u : HO)
/-- a list that never changes -/
def RoL (K : PySem.W.Frag) (H : Hp) (a : Addr) (xs : List V) : Prop :=
  (∃ o, H a = some (.frz o (.lst xs))) ∨ ∃ (o : Obj) (xs9 : Array Value) (n : Nat), K.lookup a = some o ∧ o.cls = .type "list" ∧ o.dict = none ∧ o.data = .seq xs9 n ∧ xs9.size ≤ sizeLine ∧ Vals xs xs9.toList
theorem RoL.sq {K : PySem.W.Frag} {H : Hp} {a : Addr} {xs : List V} (h : RoL K H a xs) : SqL K H a xs := by
  rcases h with ⟨o, h⟩ | h
  · exact .inl (.inr ⟨o, h⟩)
  · exact .inr h
abbrev Mu := Addr → Option MO
def mset (m : Mu) (a : Addr) (o : MO) : Mu := fun b => if b = a then some o else m b
theorem mset_same {m : Mu} {a : Addr} {o : MO} : mset m a o a = some o := by unfold mset; rw [if_pos rfl]
theorem mset_ne {m : Mu} {a b : Addr} {o : MO} (h : b ≠ a) : mset m a o b = m b := by unfold mset; rw [if_neg h]
theorem mset_new {m : Mu} {a b : Addr} {o o' : MO} (h : m a = none) (e : m b = some o') : mset m a o b = some o' := by
  rw [mset_ne (fun z => by rw [z, h] at e; cases e)]; exact e
theorem mset_mset {m : Mu} {a : Addr} {o u : MO} : mset (mset m a o) a u = mset m a u := by
  funext b; unfold mset; split <;> rfl
theorem mne {m : Mu} {a b : Addr} {o : MO} (h : m a = none) (e : m b = some o) : b ≠ a := fun z => by rw [z, h] at e; cases e

mutual
inductive Rep (K : PySem.W.Frag) (H : Hp) : D → V → Prop
  | non : Rep K H .non .non
  | bl (b : Bool) : Rep K H (.bl b) (.bl b)
  | int (i : Int) : Rep K H (.int i) (.int i)
  | str (x : Str) : Rep K H (.str x) (.str x)
  | ref (a : Addr) : Rep K H (.ref a) (.ref a)
  | tup {ds : List D} {a : Addr} {vs : List V} : SqT K H a vs → RepL K H ds vs → Rep K H (.tup ds) (.ref a)
  | rol {ds : List D} {a : Addr} {vs : List V} : RoL K H a vs → RepL K H ds vs → Rep K H (.rol ds) (.ref a)
inductive RepL (K : PySem.W.Frag) (H : Hp) : List D → List V → Prop
  | nil : RepL K H [] []
  | cons {d : D} {ds : List D} {v : V} {vs : List V} : Rep K H d v → RepL K H ds vs → RepL K H (d :: ds) (v :: vs)
end

def Imm : HO → Prop
  | .tup _ => True
  | .frz _ _ => True
  | _ => False
/-- what never changes is kept -/
def TX (H H' : Hp) : Prop := ∀ a u, Imm u → H a = some u → H' a = some u
theorem TX.refl (H : Hp) : TX H H := fun _ _ _ h => h
theorem TX.trans {H H1 H2 : Hp} (a : TX H H1) (b : TX H1 H2) : TX H H2 := fun c o i h => b c o i (a c o i h)
theorem TX.new {H : Hp} {p : Addr} {o : HO} (h : H p = none) : TX H (upd H p o) := fun a u _ e => by
  rw [upd_ne (ne_of_none e h)]; exact e
theorem TX.lst {H : Hp} {p : Addr} {xs : List V} {o : HO} (h : H p = some (.lst xs)) : TX H (upd H p o) := fun a u i e => by
  rw [upd_ne (fun z => by rw [z, h] at e; cases e; exact i)]; exact e
theorem TX.sqT {K : PySem.W.Frag} {H H' : Hp} (t : TX H H') {a : Addr} {xs : List V} (h : SqT K H a xs) : SqT K H' a xs := by
  rcases h with (h | ⟨o, h⟩) | h
  · exact .inl (.inl (t _ _ trivial h))
  · exact .inl (.inr ⟨o, t _ _ trivial h⟩)
  · exact .inr h
theorem TX.ro {K : PySem.W.Frag} {H H' : Hp} (t : TX H H') {a : Addr} {xs : List V} (h : RoL K H a xs) : RoL K H' a xs := by
  rcases h with ⟨o, h⟩ | h
  · exact .inl ⟨o, t _ _ trivial h⟩
  · exact .inr h
mutual
theorem Rep.mono {K : PySem.W.Frag} {H H' : Hp} (t : TX H H') : ∀ {d : D} {v : V}, Rep K H d v → Rep K H' d v
  | _, _, .non => .non
  | _, _, .bl b => .bl b
  | _, _, .int i => .int i
  | _, _, .str x => .str x
  | _, _, .ref a => .ref a
  | _, _, .tup s r => .tup (t.sqT s) (RepL.mono t r)
  | _, _, .rol s r => .rol (t.ro s) (RepL.mono t r)
theorem RepL.mono {K : PySem.W.Frag} {H H' : Hp} (t : TX H H') : ∀ {ds : List D} {vs : List V}, RepL K H ds vs → RepL K H' ds vs
  | _, _, .nil => .nil
  | _, _, .cons a b => .cons (Rep.mono t a) (RepL.mono t b)
end
theorem RepL.length {K : PySem.W.Frag} {H : Hp} : ∀ {ds : List D} {vs : List V}, RepL K H ds vs → ds.length = vs.length
  | _, _, .nil => rfl
  | _, _, .cons _ b => by rw [List.length_cons, List.length_cons, RepL.length b]
theorem RepL.append {K : PySem.W.Frag} {H : Hp} : ∀ {ds es : List D} {vs ws : List V}, RepL K H ds vs → RepL K H es ws → RepL K H (ds ++ es) (vs ++ ws)
  | _, _, _, _, .nil, s => s
  | _, _, _, _, .cons a b, s => .cons a (RepL.append b s)
theorem RepL.get {K : PySem.W.Frag} {H : Hp} : ∀ {ds : List D} {vs : List V} {i : Nat} {d : D}, RepL K H ds vs → ds[i]? = some d → ∃ v, vs[i]? = some v ∧ Rep K H d v
  | _, _, _, _, .nil, e => by simp at e
  | _, _, 0, _, .cons a _, e => by simp at e; subst e; exact ⟨_, rfl, a⟩
  | _, _, i + 1, d, .cons _ b, e => by
    obtain ⟨v, h1, h2⟩ := RepL.get (i := i) (d := d) b (by simpa using e)
    exact ⟨v, by simpa using h1, h2⟩
theorem RepL.getV {K : PySem.W.Frag} {H : Hp} {ds : List D} {vs : List V} {i : Nat} {v : V} (r : RepL K H ds vs) (e : vs[i]? = some v) : ∃ d, ds[i]? = some d ∧ Rep K H d v := by
  have hl := r.length
  obtain ⟨h1, _⟩ := List.getElem?_eq_some_iff.mp e
  have h2 : i < ds.length := by omega
  obtain ⟨w, e2, q⟩ := r.get (List.getElem?_eq_getElem h2)
  rw [e] at e2; cases e2
  exact ⟨_, List.getElem?_eq_getElem h2, q⟩
theorem RepL.take {K : PySem.W.Frag} {H : Hp} : ∀ {ds : List D} {vs : List V} (n : Nat), RepL K H ds vs → RepL K H (ds.take n) (vs.take n)
  | _, _, 0, _ => by rw [List.take_zero, List.take_zero]; exact .nil
  | _, _, _ + 1, .nil => .nil
  | _, _, n + 1, .cons a b => .cons a (RepL.take n b)
theorem RepL.drop {K : PySem.W.Frag} {H : Hp} : ∀ {ds : List D} {vs : List V} (n : Nat), RepL K H ds vs → RepL K H (ds.drop n) (vs.drop n)
  | _, _, 0, r => r
  | _, _, _ + 1, .nil => .nil
  | _, _, n + 1, .cons _ b => RepL.drop n b
theorem RepL.set {K : PySem.W.Frag} {H : Hp} {d : D} {v : V} (r : Rep K H d v) : ∀ {ds : List D} {vs : List V} (i : Nat), RepL K H ds vs → RepL K H (ds.set i d) (vs.set i v)
  | _, _, _, .nil => .nil
  | _, _, 0, .cons _ t => .cons r t
  | _, _, i + 1, .cons q t => .cons q (RepL.set r i t)
theorem RepL.erase {K : PySem.W.Frag} {H : Hp} : ∀ {ds : List D} {vs : List V} (i : Nat), RepL K H ds vs → RepL K H (ds.eraseIdx i) (vs.eraseIdx i)
  | _, _, _, .nil => .nil
  | _, _, 0, .cons _ t => t
  | _, _, i + 1, .cons q t => .cons q (RepL.erase i t)
theorem RepL.rev {K : PySem.W.Frag} {H : Hp} : ∀ {ds : List D} {vs : List V}, RepL K H ds vs → RepL K H ds.reverse vs.reverse
  | _, _, .nil => .nil
  | _, _, .cons a b => by rw [List.reverse_cons, List.reverse_cons]; exact RepL.append (RepL.rev b) (.cons a .nil)
theorem RepL.dropLast {K : PySem.W.Frag} {H : Hp} {ds : List D} {vs : List V} (r : RepL K H ds vs) : RepL K H ds.dropLast vs.dropLast := by
  rw [List.dropLast_eq_take, List.dropLast_eq_take, r.length]
  exact r.take _
theorem RepL.nil_iff {K : PySem.W.Frag} {H : Hp} {ds : List D} {vs : List V} (r : RepL K H ds vs) : ds = [] ↔ vs = [] := by
  cases r with
  | nil => exact ⟨fun _ => rfl, fun _ => rfl⟩
  | cons a b => exact ⟨fun h => (nomatch h), fun h => (nomatch h)⟩

/-! ### states -/
abbrev Sd := List (Option D)
def MOk (K : PySem.W.Frag) (H : Hp) (a : Addr) : MO → Prop
  | .lst ds => ∃ vs, H a = some (.lst vs) ∧ RepL K H ds vs
  | .dct kvs => ∃ us, H a = some (.dK us) ∧ us.map (·.1) = kvs.map (·.1) ∧ RepL K H (kvs.map (·.2)) (us.map (·.2))
  | .dcT kvs => ∃ us, H a = some (.dT us) ∧ us.map (·.1) = kvs.map (·.1) ∧ RepL K H (kvs.map (·.2)) (us.map (·.2))
  | .sset P w S n => H a = some (SetK P w a S n)
  | .oth u => H a = some u
  | .ins C fs => ∃ dx us, H a = some (.ins C dx us) ∧ us.map (·.1) = fs.map (·.1) ∧ RepL K H (fs.map (·.2)) (us.map (·.2))
def RM (K : PySem.W.Frag) (H : Hp) (m : Mu) : Prop := ∀ a o, m a = some o → MOk K H a o
structure RS (K : PySem.W.Frag) (H : Hp) (sd : Sd) (s : L2.St) : Prop where
  len : sd.length = s.length
  at_ : ∀ (i : Nat) (d : D), sd[i]? = some (some d) → ∃ v, s[i]? = some (some v) ∧ Rep K H d v
theorem RS.mono {K : PySem.W.Frag} {H H' : Hp} {sd : Sd} {s : L2.St} (r : RS K H sd s) (t : TX H H') : RS K H' sd s :=
  ⟨r.len, fun i d e => let ⟨v, h, q⟩ := r.at_ i d e; ⟨v, h, q.mono t⟩⟩
theorem RS.set {K : PySem.W.Frag} {H : Hp} {sd : Sd} {s : L2.St} (r : RS K H sd s) {d : D} {v : V} (q : Rep K H d v) (i : Nat) : RS K H (sd.set i (some d)) (s.set i (some v)) := by
  refine ⟨by rw [List.length_set, List.length_set]; exact r.len, fun j e h => ?_⟩
  rw [List.getElem?_set] at h
  rw [List.getElem?_set]
  by_cases hij : i = j
  · subst hij
    rw [if_pos rfl] at h ⊢
    by_cases hl : i < sd.length
    · rw [if_pos hl] at h
      cases h
      rw [if_pos (by rw [← r.len]; exact hl)]
      exact ⟨v, rfl, q⟩
    · rw [if_neg hl] at h; cases h
  · rw [if_neg hij] at h ⊢
    exact r.at_ j e h
theorem MOk.tx {K : PySem.W.Frag} {H H' : Hp} {a : Addr} {o : MO} (h : MOk K H a o) (t : TX H H') (k : ∀ u, H a = some u → H' a = some u) : MOk K H' a o := by
  cases o with
  | lst ds => obtain ⟨vs, e, r⟩ := h; exact ⟨vs, k _ e, r.mono t⟩
  | dct kvs => obtain ⟨us, e, e2, r⟩ := h; exact ⟨us, k _ e, e2, r.mono t⟩
  | dcT kvs => obtain ⟨us, e, e2, r⟩ := h; exact ⟨us, k _ e, e2, r.mono t⟩
  | ins C fs => obtain ⟨dx, us, e, e2, r⟩ := h; exact ⟨dx, us, k _ e, e2, r.mono t⟩
  | sset P w S n => exact k _ h
  | oth u => exact k _ h
theorem MOk.some {K : PySem.W.Frag} {H : Hp} {a : Addr} {o : MO} (h : MOk K H a o) : ∃ u, H a = some u := by
  cases o with
  | lst ds => obtain ⟨vs, e, r⟩ := h; exact ⟨_, e⟩
  | dct kvs => obtain ⟨us, e, _⟩ := h; exact ⟨_, e⟩
  | dcT kvs => obtain ⟨us, e, _⟩ := h; exact ⟨_, e⟩
  | ins C fs => obtain ⟨dx, us, e, _⟩ := h; exact ⟨_, e⟩
  | sset P w S n => exact ⟨_, h⟩
  | oth u => exact ⟨_, h⟩
/-- a new object that the store does not tell of -/
theorem RM.skip {K : PySem.W.Frag} {H : Hp} {m : Mu} {p : Addr} {u : HO} (r : RM K H m) (h : H p = none) : RM K (upd H p u) m := fun a o e => by
  refine (r a o e).tx (.new h) fun vs q => ?_
  rw [upd_ne (ne_of_none q h)]; exact q
theorem RM.fresh {K : PySem.W.Frag} {H : Hp} {m : Mu} {p : Addr} (r : RM K H m) (h : H p = none) : m p = none := by
  cases q : m p with
  | none => rfl
  | some o =>
    obtain ⟨u, e⟩ := (r p o q).some
    rw [h] at e; cases e
/-- a new list -/
theorem RM.newL {K : PySem.W.Frag} {H : Hp} {m : Mu} {p : Addr} {ds : List D} {vs : List V} (r : RM K H m) (h : H p = none) (q : RepL K H ds vs) : RM K (upd H p (.lst vs)) (mset m p (.lst ds)) := fun a o e => by
  by_cases ha : a = p
  · subst ha
    rw [mset_same] at e; cases e
    exact ⟨vs, upd_same, q.mono (.new h)⟩
  · rw [mset_ne ha] at e
    exact r.skip h a o e
/-- a list is changed -/
theorem RM.setL {K : PySem.W.Frag} {H : Hp} {m : Mu} {p : Addr} {ds : List D} {vs ws : List V} (r : RM K H m) (h : H p = some (.lst ws)) (q : RepL K H ds vs) : RM K (upd H p (.lst vs)) (mset m p (.lst ds)) := fun a o e => by
  by_cases ha : a = p
  · subst ha
    rw [mset_same] at e; cases e
    exact ⟨vs, upd_same, q.mono (.lst h)⟩
  · rw [mset_ne ha] at e
    refine (r a o e).tx (.lst h) fun us z => ?_
    rw [upd_ne ha]; exact z
/-- less is told -/
def Sub (m m' : Mu) : Prop := ∀ a o, m a = some o → m' a = some o
theorem Sub.refl (m : Mu) : Sub m m := fun _ _ h => h
theorem Sub.trans {m m1 m2 : Mu} (a : Sub m m1) (b : Sub m1 m2) : Sub m m2 := fun x o h => b x o (a x o h)
theorem Sub.new {m : Mu} {p : Addr} {o : MO} (h : m p = none) : Sub m (mset m p o) := fun a u e => mset_new h e
theorem Sub.new' {m m' : Mu} {p : Addr} {o : MO} (s : Sub m m') (h : m p = none) : Sub m (mset m' p o) := fun a u e => by
  rw [mset_ne (mne h e)]; exact s a u e
theorem Sub.free {m m' : Mu} {p : Addr} (s : Sub m m') (h : m' p = none) : m p = none := by
  cases q : m p with
  | none => rfl
  | some o => rw [s p o q] at h; cases h
theorem RM.sub {K : PySem.W.Frag} {H : Hp} {m m' : Mu} (r : RM K H m') (s : Sub m m') : RM K H m := fun a o e => r a o (s a o e)

/-! ### readings over plain data -/
abbrev DK := D → Mu → Prop
abbrev DE := Sd → Mu → DK → Prop
abbrev DT := Sd → Mu → (Bool → Mu → Prop) → Prop
abbrev DA := Sd → Mu → (List D → Mu → Prop) → Prop
structure DEnds where
  nx : Sd → Mu → Prop
  rt : DK
  bk : Sd → Mu → Prop := fun _ _ => False
  ct : Sd → Mu → Prop := fun _ _ => False
abbrev DS := DEnds → Sd → Mu → Prop

def LE (K : PySem.W.Frag) (t : TE) (d : DE) : Prop := ∀ s H sd m (Qd : DK) (Q : VK), RS K H sd s → RM K H m → d sd m Qd →
  (∀ v H' dv m', TX H H' → RM K H' m' → Rep K H' dv v → Qd dv m' → Q v H') → t s H Q
def LT (K : PySem.W.Frag) (t : TT) (d : DT) : Prop := ∀ s H sd m (Qd : Bool → Mu → Prop) (Q : Bool → Hp → Prop), RS K H sd s → RM K H m → d sd m Qd →
  (∀ b H' m', TX H H' → RM K H' m' → Qd b m' → Q b H') → t s H Q
def LA (K : PySem.W.Frag) (t : TA) (d : DA) : Prop := ∀ s H sd m (Qd : List D → Mu → Prop) (Q : List V → Hp → Prop), RS K H sd s → RM K H m → d sd m Qd →
  (∀ vs H' ds m', TX H H' → RM K H' m' → RepL K H' ds vs → Qd ds m' → Q vs H') → t s H Q
def LS (K : PySem.W.Frag) (t : TS) (d : DS) : Prop := ∀ s H sd m (Ed : DEnds) (E : Ends), RS K H sd s → RM K H m → d Ed sd m →
  (∀ s' H' sd' m', TX H H' → RS K H' sd' s' → RM K H' m' → Ed.nx sd' m' → E.nx s' H') →
  (∀ v H' dv m', TX H H' → RM K H' m' → Rep K H' dv v → Ed.rt dv m' → E.rt v H') →
  (∀ s' H' sd' m', TX H H' → RS K H' sd' s' → RM K H' m' → Ed.bk sd' m' → E.bk s' H') →
  (∀ s' H' sd' m', TX H H' → RS K H' sd' s' → RM K H' m' → Ed.ct sd' m' → E.ct s' H') → t E s H

def liftE (K : PySem.W.Frag) (d : DE) : TE := fun s H Q => ∃ sd m Qd, RS K H sd s ∧ RM K H m ∧ d sd m Qd ∧ ∀ v H' dv m', TX H H' → RM K H' m' → Rep K H' dv v → Qd dv m' → Q v H'
def liftT (K : PySem.W.Frag) (d : DT) : TT := fun s H Q => ∃ sd m Qd, RS K H sd s ∧ RM K H m ∧ d sd m Qd ∧ ∀ b H' m', TX H H' → RM K H' m' → Qd b m' → Q b H'
theorem liftE_le (K : PySem.W.Frag) (d : DE) : LE K (liftE K d) d := fun s H sd m Qd Q rs rm h k => ⟨sd, m, Qd, rs, rm, h, k⟩
theorem liftT_le (K : PySem.W.Frag) (d : DT) : LT K (liftT K d) d := fun s H sd m Qd Q rs rm h k => ⟨sd, m, Qd, rs, rm, h, k⟩
structure GE (X : Cx) (e : Expr) (d : DE) : Prop where
  mk ::
  pe : PE X e (liftE X.K d)
structure GT (X : Cx) (e : Expr) (d : DT) : Prop where
  mk ::
  pt : PT X e (liftT X.K d)
theorem GE.ex {X : Cx} {e : Expr} {d : DE} (h : GE X e d) : ∃ t, PE X e t ∧ LE X.K t d := ⟨_, h.pe, liftE_le _ _⟩
theorem GT.ex {X : Cx} {e : Expr} {d : DT} (h : GT X e d) : ∃ t, PT X e t ∧ LT X.K t d := ⟨_, h.pt, liftT_le _ _⟩
theorem GE.of {X : Cx} {e : Expr} {d : DE} (h : ∃ t, PE X e t ∧ LE X.K t d) : GE X e d :=
  let ⟨t, p, l⟩ := h
  ⟨⟨fun pz s τ H Q I ⟨sd, m, Qd, rs, rm, hd, k⟩ => p.run pz s τ H Q I (l τ H sd m Qd Q rs rm hd k)⟩⟩
theorem GT.of {X : Cx} {e : Expr} {d : DT} (h : ∃ t, PT X e t ∧ LT X.K t d) : GT X e d :=
  let ⟨t, p, l⟩ := h
  ⟨⟨fun pz s τ H Q I ⟨sd, m, Qd, rs, rm, hd, k⟩ => p.run pz s τ H Q I (l τ H sd m Qd Q rs rm hd k)⟩⟩
structure GW (X : Cx) (e : Expr) (d : DT) : Prop where
  ex : ∃ t, PW X e t ∧ LT X.K t d
structure GA (X : Cx) (es : List Expr) (d : DA) : Prop where
  ex : ∃ t, PA X es t ∧ LA X.K t d
structure GS (X : Cx) (st : Stmt) (d : DS) : Prop where
  ex : ∃ t, PS X st t ∧ LS X.K t d
structure GSs (X : Cx) (st : List Stmt) (d : DS) : Prop where
  ex : ∃ t, PSs X st t ∧ LS X.K t d
theorem GW.gt {X : Cx} {e : Expr} {d : DT} (h : GW X e d) : GT X e d := let ⟨t, p, l⟩ := h.ex; .of ⟨t, p.pt, l⟩

section
variable {X : Cx}
/-! ### names, constants -/
def dVar (i : Nat) : DE := fun s m Q => match s[i]? with | some (some d) => Q d m | _ => False
def dC (d : D) : DE := fun _ m Q => Q d m
theorem gv (i : Nat) {x : Str} {pos : Pos} (hN : X.N[i]? = some x := by rfl) (hv : Vis X.env.scope x := by first | exact Or.inl rfl | exact Or.inr (Or.inl rfl) | exact Or.inr (Or.inr rfl)) (hd : (x == ("__debug__" : Str)) = false := by decide)
    (hcd : (x == ("__classdict__" : Str)) = false := by decide) : GE X (.Name x pos) (dVar i) :=
  .of ⟨_, pv i hN hv hd hcd, fun s H sd m Qd Q rs rm h k => by
    unfold dVar at h
    split at h
    · rename_i d e
      obtain ⟨v, e2, r⟩ := rs.at_ i d e
      exact ⟨v, e2, k v H d m (.refl H) rm r h⟩
    · exact h.elim⟩
theorem ge_c {e : Expr} {v : V} {d : D} (p : PE X e (tC v)) (r : ∀ H, Rep X.K H d v) : GE X e (dC d) :=
  .of ⟨_, p, fun _ H _ m _ _ _ rm h k => k v H d m (.refl H) rm (r H) h⟩
theorem ge_int {i j pos} : GE X (.Constant (.int i) j pos) (dC (.int i)) := ge_c pe_int fun _ => .int i
theorem ge_str {x j pos} : GE X (.Constant (.str x) j pos) (dC (.str x)) := ge_c pe_str fun _ => .str x
theorem ge_bl {b j pos} : GE X (.Constant (.bool b) j pos) (dC (.bl b)) := ge_c pe_bl fun _ => .bl b
theorem ge_non {j pos} : GE X (.Constant .none j pos) (dC .non) := ge_c pe_non fun _ => .non
/-! ### arguments -/
def dNil : DA := fun _ m Q => Q [] m
def dCons (a : DE) (r : DA) : DA := fun s m Q => a s m fun x m1 => r s m1 fun xs m2 => Q (x :: xs) m2
theorem ga_nil : GA X [] dNil := ⟨_, pa_nil, fun _ H _ m _ _ _ rm h k => k [] H [] m (.refl H) rm .nil h⟩
theorem ga_cons {e : Expr} {es : List Expr} {de : DE} {dr : DA} (ha : GE X e de) (hr : GA X es dr) (hs : starEach (e :: es) X.env = (false, eval e X.env) :: starEach es X.env := by rfl) : GA X (e :: es) (dCons de dr) := by
  obtain ⟨te, p, l⟩ := ha.ex
  obtain ⟨tr, q, l2⟩ := hr.ex
  refine ⟨_, pa_cons p q hs, fun s H sd m Qd Q rs rm h k => ?_⟩
  refine l s H sd m _ _ rs rm h fun v H1 dv m1 t1 rm1 r1 h1 => ?_
  exact l2 s H1 sd m1 _ _ (rs.mono t1) rm1 h1 fun vs H2 ds m2 t2 rm2 r2 h2 => k _ H2 _ m2 (t1.trans t2) rm2 (.cons (r1.mono t2) r2) h2
/-! ### operators -/
abbrev D2 := D → D → Mu → DK → Prop
def LR (K : PySem.W.Frag) (r : R2) (d : D2) : Prop := ∀ x y H dx dy m (Qd : DK) (Q : VK), RM K H m → Rep K H dx x → Rep K H dy y → d dx dy m Qd →
  (∀ v H' dv m', TX H H' → RM K H' m' → Rep K H' dv v → Qd dv m' → Q v H') → r x y H Q
def dOp (r : D2) (a b : DE) : DE := fun s m Q => a s m fun x m1 => b s m1 fun y m2 => r x y m2 Q
theorem LE.op {K : PySem.W.Frag} {ta tb : TE} {da db : DE} {r : R2} {d : D2} (l : LE K ta da) (l2 : LE K tb db) (lr : LR K r d) : LE K (tOp r ta tb) (dOp d da db) := fun s H sd m Qd Q rs rm h k => by
  refine l s H sd m _ _ rs rm h fun v H1 dv m1 t1 rm1 r1 h1 => ?_
  refine l2 s H1 sd m1 _ _ (rs.mono t1) rm1 h1 fun w H2 dw m2 t2 rm2 r2 h2 => ?_
  exact lr v w H2 dv dw m2 Qd Q rm2 (r1.mono t2) r2 h2 fun v' H' dv' m' t' a b c => k v' H' dv' m' (t1.trans (t2.trans t')) a b c
theorem ge_op {a b : Expr} {pos : Pos} {da db : DE} {op : Operator} {r : R2} {d : D2} (ho : OpR X (binaryOp op) r) (lr : LR X.K r d) (ha : GE X a da) (hb : GE X b db) : GE X (.BinOp a op b pos) (dOp d da db) := by
  obtain ⟨ta, p, l⟩ := ha.ex
  obtain ⟨tb, q, l2⟩ := hb.ex
  exact .of ⟨_, pe_op ho p q, l.op l2 lr⟩
theorem ge_cmpR {a b : Expr} {pos : Pos} {da db : DE} {op : CmpOp} {r : R2} {d : D2} (ho : OpR X (compareOp op) r) (lr : LR X.K r d) (ha : GE X a da) (hb : GE X b db) (hm : behindInMarks op b = false) : GE X (.Compare a [op] [b] pos) (dOp d da db) := by
  obtain ⟨ta, p, l⟩ := ha.ex
  obtain ⟨tb, q, l2⟩ := hb.ex
  exact .of ⟨_, pe_cmpR ho p q hm, l.op l2 lr⟩
def dTest (a : DE) : DT := fun s m Q => a s m fun x m1 => match x with | .bl b => Q b m1 | _ => False
theorem LE.test {K : PySem.W.Frag} {t : TE} {d : DE} (l : LE K t d) : LT K (tTest t) (dTest d) := fun s H sd m Qd Q rs rm h k => by
  refine l s H sd m _ _ rs rm h fun v H1 dv m1 t1 rm1 r1 h1 => ?_
  cases r1 with
  | bl b => exact ⟨b, rfl, k b H1 m1 t1 rm1 h1⟩
  | _ => exact h1.elim
theorem LE.testB {K : PySem.W.Frag} {t : TE} {d : DE} (l : LE K t d) : LT K (tB t) (dTest d) := fun s H sd m Qd Q rs rm h k => by
  refine l s H sd m _ _ rs rm h fun v H1 dv m1 t1 rm1 r1 h1 => ?_
  cases r1 with
  | bl b => exact ⟨b, rfl, k b H1 m1 t1 rm1 h1⟩
  | _ => exact h1.elim
theorem gt_cmpR {a b : Expr} {pos : Pos} {da db : DE} {op : CmpOp} {r : R2} {d : D2} (ho : OpR X (compareOp op) r) (lr : LR X.K r d) (ha : GE X a da) (hb : GE X b db) (hm : behindInMarks op b = false) : GT X (.Compare a [op] [b] pos) (dTest (dOp d da db)) := by
  obtain ⟨ta, p, l⟩ := ha.ex
  obtain ⟨tb, q, l2⟩ := hb.ex
  exact .of ⟨_, pt_cmpR ho p q hm, (l.op l2 lr).test⟩
theorem gt_val {e : Expr} {d : DE} (h : GE X e d) (he : ∀ whole, isTrue e X.env whole = (do let v ← whole; standAt e.pos; holding [v] (truthy v)) := by intro _; rfl) : GT X e (dTest d) := by
  obtain ⟨t, p, l⟩ := h.ex
  exact .of ⟨_, pt_val p he, l.testB⟩
end
end PD

set_option Elab.async false
set_option linter.all false
set_option maxRecDepth 100000
set_option maxHeartbeats 4000000
namespace PD
open PySem PySem.Spec PyProof.Rows L2
/-! ### by kinds -/
def seqOf (m : Mu) : D → Option (List D)
  | .tup ds => some ds
  | .rol ds => some ds
  | .ref a => match m a with | some (.lst ds) => some ds | _ => none
  | _ => none
theorem seq_rep {K : PySem.W.Frag} {H : Hp} {m : Mu} {d : D} {v : V} {ds : List D} (rm : RM K H m) (r : Rep K H d v) (h : seqOf m d = some ds) :
    ∃ a vs, v = .ref a ∧ (SqL K H a vs ∨ SqT K H a vs) ∧ RepL K H ds vs := by
  cases r with
  | tup s q => unfold seqOf at h; cases h; exact ⟨_, _, rfl, .inr s, q⟩
  | rol s q => unfold seqOf at h; cases h; exact ⟨_, _, rfl, .inl s.sq, q⟩
  | ref a =>
    unfold seqOf at h
    cases e : m a with
    | none => simp only [e] at h; cases h
    | some o =>
      have q := rm a o e
      cases o with
      | lst es => simp only [e] at h; cases h; obtain ⟨vs, e2, r⟩ := q; exact ⟨a, vs, rfl, .inl (SqL.of e2), r⟩
      | _ => simp only [e] at h; cases h
  | _ => unfold seqOf at h; cases h
theorem ref_rep {K : PySem.W.Frag} {H : Hp} {m : Mu} {a : Addr} {ds : List D} (rm : RM K H m) (h : seqOf m (.ref a) = some ds) : ∃ vs, SqL K H a vs ∧ RepL K H ds vs := by
  unfold seqOf at h
  cases e : m a with
  | none => simp only [e] at h; cases h
  | some o =>
    have q := rm a o e
    cases o with
    | lst es => simp only [e] at h; cases h; obtain ⟨vs, e2, r⟩ := q; exact ⟨vs, SqL.of e2, r⟩
    | _ => simp only [e] at h; cases h
def lstOf (m : Mu) : D → Option (Addr × List D)
  | .ref a => match m a with | some (.lst ds) => some (a, ds) | _ => none
  | _ => none
theorem lst_rep {K : PySem.W.Frag} {H : Hp} {m : Mu} {d : D} {v : V} {a : Addr} {ds : List D} (rm : RM K H m) (r : Rep K H d v) (h : lstOf m d = some (a, ds)) :
    v = .ref a ∧ d = .ref a ∧ m a = some (.lst ds) ∧ ∃ vs, H a = some (.lst vs) ∧ RepL K H ds vs := by
  cases r with
  | ref b =>
    unfold lstOf at h
    cases e : m b with
    | none => simp only [e] at h; cases h
    | some o =>
      cases o with
      | lst es => simp only [e] at h; cases h; exact ⟨rfl, rfl, e, rm _ _ e⟩
      | _ => simp only [e] at h; cases h
  | _ => unfold lstOf at h; cases h
def flatD : D → Bool
  | .non => true
  | .bl _ => true
  | .int _ => true
  | .str _ => true
  | _ => false
def eqF : D → D → Bool
  | .non, .non => true
  | .bl a, .bl b => a == b
  | .bl a, .int b => (if a then 1 else 0) == b
  | .int a, .bl b => a == (if b then 1 else 0)
  | .int a, .int b => a == b
  | .str a, .str b => a == b
  | _, _ => false
theorem Rep.flat {K : PySem.W.Frag} {H : Hp} {d : D} {v : V} (r : Rep K H d v) (f : flatD d = true) : flatV v = true := by
  cases r <;> first | rfl | exact absurd f Bool.false_ne_true
theorem Rep.eqF {K : PySem.W.Frag} {H : Hp} {d e : D} {v u : V} (r : Rep K H d v) (q : Rep K H e u) (f : flatD d = true) (g : flatD e = true) : eqV v u = eqF d e := by
  cases r <;> first | exact absurd f Bool.false_ne_true | (cases q <;> first | exact absurd g Bool.false_ne_true | rfl)
theorem RepL.flat {K : PySem.W.Frag} {H : Hp} : ∀ {ds : List D} {vs : List V}, RepL K H ds vs → ds.all flatD = true → vs.all flatV = true
  | _, _, .nil, _ => rfl
  | _, _, .cons a b, f => by
    rw [List.all_cons, Bool.and_eq_true] at f
    rw [List.all_cons, a.flat f.1, RepL.flat b f.2]; rfl
theorem RepL.inV {K : PySem.W.Frag} {H : Hp} {d : D} {v : V} (r : Rep K H d v) (f : flatD d = true) : ∀ {ds : List D} {vs : List V}, RepL K H ds vs → ds.all flatD = true → inV v vs = ds.any fun y => PD.eqF y d
  | _, _, .nil, _ => rfl
  | _, _, .cons a b, g => by
    rw [List.all_cons, Bool.and_eq_true] at g
    have := RepL.inV r f b g.2
    unfold L2.inV at this ⊢
    rw [List.any_cons, List.any_cons, this, a.eqF r g.1 f]
/-! plain data -/
mutual
def toP : D → Option PyData
  | .non => some .none
  | .bl b => some (.bool b)
  | .int i => some (.int i)
  | .str x => some (.str x)
  | .tup ds => (toPs ds).map .tuple
  | .ref _ => none
  | .rol ds => (toPs ds).map .list
def toPs : List D → Option (List PyData)
  | [] => some []
  | d :: ds => match toP d, toPs ds with | some p, some ps => some (p :: ps) | _, _ => none
end
mutual
theorem Rep.dp {K : PySem.W.Frag} {H : Hp} : ∀ {d : D} {v : V} {p : PyData}, Rep K H d v → toP d = some p → Dp K H v p
  | _, _, _, .non, h => by unfold toP at h; cases h; exact .non
  | _, _, _, .bl b, h => by unfold toP at h; cases h; exact .bl b
  | _, _, _, .int i, h => by unfold toP at h; cases h; exact .int i
  | _, _, _, .str x, h => by unfold toP at h; cases h; exact .str x
  | _, _, _, .ref a, h => by unfold toP at h; cases h
  | .rol ds, _, _, .rol s r, h => by
    unfold toP at h
    cases e : toPs ds with
    | none => rw [e] at h; cases h
    | some ps => rw [e] at h; cases h; exact .lst s.sq (RepL.dp r e)
  | .tup ds, _, _, .tup s r, h => by
    unfold toP at h
    cases e : toPs ds with
    | none => rw [e] at h; cases h
    | some ps => rw [e] at h; cases h; exact .tup s (RepL.dp r e)
theorem RepL.dp {K : PySem.W.Frag} {H : Hp} : ∀ {ds : List D} {vs : List V} {ps : List PyData}, RepL K H ds vs → toPs ds = some ps → DpAll K H vs ps
  | _, _, _, .nil, h => by unfold toPs at h; cases h; exact .nil
  | d :: ds, _, _, .cons a b, h => by
    unfold toPs at h
    cases e : toP d with
    | none => rw [e] at h; cases h
    | some p =>
      cases e2 : toPs ds with
      | none => rw [e, e2] at h; cases h
      | some ps => rw [e, e2] at h; cases h; exact .cons (Rep.dp a e) (RepL.dp b e2)
end
def toPm (m : Mu) : D → Option PyData
  | .ref a => match m a with | some (.lst ds) => (toPs ds).map .list | _ => none
  | d => toP d
theorem dpm {K : PySem.W.Frag} {H : Hp} {m : Mu} {d : D} {v : V} {p : PyData} (rm : RM K H m) (r : Rep K H d v) (h : toPm m d = some p) : Dp K H v p := by
  cases r with
  | ref a =>
    unfold toPm at h
    cases e : m a with
    | none => simp only [e] at h; cases h
    | some o =>
      have q := rm a o e
      cases o with
      | lst es =>
        simp only [e] at h
        obtain ⟨vs, e2, r⟩ := q
        cases e3 : toPs es with
        | none => rw [e3] at h; cases h
        | some ps => rw [e3] at h; cases h; exact .lst (SqL.of e2) (r.dp e3)
      | _ => simp only [e] at h; cases h
  | rol s r => exact Rep.dp (.rol s r) h
  | tup s r => exact Rep.dp (.tup s r) h
  | non => exact Rep.dp .non h
  | bl b => exact Rep.dp (.bl b) h
  | int i => exact Rep.dp (.int i) h
  | str x => exact Rep.dp (.str x) h
/-! ### == and != -/
def isSeq (m : Mu) (d : D) : Bool := (seqOf m d).isSome
def eqK (m : Mu) (x y : D) : Option Bool :=
  if flatD x && flatD y then some (eqF x y)
  else if flatD x then (if isSeq m y then some false else none)
  else if flatD y then (if isSeq m x then some false else none)
  else match toPm m x, toPm m y with
    | some p, some q => if SeqAt.shaped p && SeqAt.shaped q then some (PyData.eqv p q) else none
    | _, _ => none
inductive EqS (K : PySem.W.Frag) (H : Hp) : V → V → Bool → Prop
  | flat {x y : V} : flatV x = true → flatV y = true → EqS K H x y (eqV x y)
  | fs {x : V} {a : Addr} {vs : List V} : flatV x = true → (SqL K H a vs ∨ SqT K H a vs) → EqS K H x (.ref a) false
  | sf {y : V} {a : Addr} {vs : List V} : flatV y = true → (SqL K H a vs ∨ SqT K H a vs) → EqS K H (.ref a) y false
  | dat {x y : V} {d e : PyData} : Dp K H x d → Dp K H y e → SeqAt.shaped d = true → SeqAt.shaped e = true → EqS K H x y (PyData.eqv d e)
theorem eqs_of {K : PySem.W.Frag} {H : Hp} {m : Mu} {dx dy : D} {x y : V} {b : Bool} (rm : RM K H m) (rx : Rep K H dx x) (ry : Rep K H dy y) (h : eqK m dx dy = some b) : EqS K H x y b := by
  unfold eqK at h
  split at h
  · rename_i c
    rw [Bool.and_eq_true] at c
    cases h
    rw [← rx.eqF ry c.1 c.2]
    exact .flat (rx.flat c.1) (ry.flat c.2)
  · split at h
    · rename_i c
      split at h
      · rename_i e
        cases h
        obtain ⟨ds, e2⟩ := Option.isSome_iff_exists.mp e
        obtain ⟨a, vs, rfl, s, _⟩ := seq_rep rm ry e2
        exact .fs (rx.flat c) s
      · cases h
    · split at h
      · rename_i c
        split at h
        · rename_i e
          cases h
          obtain ⟨ds, e2⟩ := Option.isSome_iff_exists.mp e
          obtain ⟨a, vs, rfl, s, _⟩ := seq_rep rm rx e2
          exact .sf (ry.flat c) s
        · cases h
      · split at h
        · rename_i p q e1 e2
          split at h
          · rename_i c
            rw [Bool.and_eq_true] at c
            cases h
            exact .dat (dpm rm rx e1) (dpm rm ry e2) c.1 c.2
          · cases h
        · cases h
section
variable {X : Cx}
theorem eqv_flat {A : Around} {s : Shared} {x y : V} {u v : Value} (rx : RelV x u) (ry : RelV y v) (fx : flatV x = true) (fy : flatV y = true) : SeqAt.RcAt A s u v (eqV x y) ∧ SeqAt.RcNeAt A s u v (!(eqV x y)) := by
  cases x with
  | non =>
    cases rx
    cases y with
    | non => cases ry; exact ⟨SeqAt.RcAt.none_none, SeqAt.RcNeAt.none_none⟩
    | bl b => cases ry; exact ⟨SeqAt.RcAt.none_bool b, SeqAt.RcNeAt.none_bool b⟩
    | int b => obtain ⟨t, rfl⟩ := ry; exact ⟨SeqAt.RcAt.none_int b t, SeqAt.RcNeAt.none_int b t⟩
    | str b => obtain ⟨t, rfl⟩ := ry; exact ⟨SeqAt.RcAt.none_str b t, SeqAt.RcNeAt.none_str b t⟩
    | _ => exact absurd fy Bool.false_ne_true
  | bl a =>
    cases rx
    cases y with
    | non => cases ry; exact ⟨SeqAt.RcAt.bool_none a, SeqAt.RcNeAt.bool_none a⟩
    | bl b => cases ry; exact ⟨SeqAt.RcAt.bool_bool a b, SeqAt.RcNeAt.bool_bool a b⟩
    | int b => obtain ⟨t, rfl⟩ := ry; exact ⟨SeqAt.RcAt.bool_int a b t, SeqAt.RcNeAt.bool_int a b t⟩
    | str b => obtain ⟨t, rfl⟩ := ry; exact ⟨SeqAt.RcAt.bool_str a b t, SeqAt.RcNeAt.bool_str a b t⟩
    | _ => exact absurd fy Bool.false_ne_true
  | int a =>
    obtain ⟨t', rfl⟩ := rx
    cases y with
    | non => cases ry; exact ⟨SeqAt.RcAt.int_none a t', SeqAt.RcNeAt.int_none a t'⟩
    | bl b => cases ry; exact ⟨SeqAt.RcAt.int_bool a t' b, SeqAt.RcNeAt.int_bool a t' b⟩
    | int b => obtain ⟨t, rfl⟩ := ry; exact ⟨SeqAt.RcAt.int_int a t' b t, SeqAt.RcNeAt.int_int a t' b t⟩
    | str b => obtain ⟨t, rfl⟩ := ry; exact ⟨SeqAt.RcAt.int_str a t' b t, SeqAt.RcNeAt.int_str a t' b t⟩
    | _ => exact absurd fy Bool.false_ne_true
  | str a =>
    obtain ⟨t', rfl⟩ := rx
    cases y with
    | non => cases ry; exact ⟨SeqAt.RcAt.str_none a t', SeqAt.RcNeAt.str_none a t'⟩
    | bl b => cases ry; exact ⟨SeqAt.RcAt.str_bool a t' b, SeqAt.RcNeAt.str_bool a t' b⟩
    | int b => obtain ⟨t, rfl⟩ := ry; exact ⟨SeqAt.RcAt.str_int a t' b t, SeqAt.RcNeAt.str_int a t' b t⟩
    | str b => obtain ⟨t, rfl⟩ := ry; exact ⟨SeqAt.RcAt.str_str a t' b t, SeqAt.RcNeAt.str_str a t' b t⟩
    | _ => exact absurd fy Bool.false_ne_true
  | _ => exact absurd fx Bool.false_ne_true
theorem rc_fs {A : Around} {s : Shared} {x : V} {u : Value} {a : Addr} {items : Array Value} (rx : RelV x u) (fx : flatV x = true) (h : s.heap.IsList a items ∨ s.heap.IsTuple a items) (hu : A.units < cLine) :
    (SeqAt.RcAt A s u (.ref a) false ∧ SeqAt.RcNeAt A s u (.ref a) true) ∧ SeqAt.RcAt A s (.ref a) u false ∧ SeqAt.RcNeAt A s (.ref a) u true := by
  rcases h with h | h
  · cases x with
    | non => cases rx; exact ⟨⟨SeqAt.RcAt.none_list h hu, SeqAt.RcNeAt.none_list h hu⟩, SeqAt.RcAt.list_none h hu, SeqAt.RcNeAt.list_none h hu⟩
    | bl b => cases rx; exact ⟨⟨SeqAt.RcAt.bool_list b h hu, SeqAt.RcNeAt.bool_list b h hu⟩, SeqAt.RcAt.list_bool b h hu, SeqAt.RcNeAt.list_bool b h hu⟩
    | int b => obtain ⟨t, rfl⟩ := rx; exact ⟨⟨SeqAt.RcAt.int_list b t h hu, SeqAt.RcNeAt.int_list b t h hu⟩, SeqAt.RcAt.list_int b t h hu, SeqAt.RcNeAt.list_int b t h hu⟩
    | str b => obtain ⟨t, rfl⟩ := rx; exact ⟨⟨SeqAt.RcAt.str_list b t h hu, SeqAt.RcNeAt.str_list b t h hu⟩, SeqAt.RcAt.list_str b t h hu, SeqAt.RcNeAt.list_str b t h hu⟩
    | _ => exact absurd fx Bool.false_ne_true
  · cases x with
    | non => cases rx; exact ⟨⟨SeqAt.RcAt.none_tuple h hu, SeqAt.RcNeAt.none_tuple h hu⟩, SeqAt.RcAt.tuple_none h hu, SeqAt.RcNeAt.tuple_none h hu⟩
    | bl b => cases rx; exact ⟨⟨SeqAt.RcAt.bool_tuple b h hu, SeqAt.RcNeAt.bool_tuple b h hu⟩, SeqAt.RcAt.tuple_bool b h hu, SeqAt.RcNeAt.tuple_bool b h hu⟩
    | int b => obtain ⟨t, rfl⟩ := rx; exact ⟨⟨SeqAt.RcAt.int_tuple b t h hu, SeqAt.RcNeAt.int_tuple b t h hu⟩, SeqAt.RcAt.tuple_int b t h hu, SeqAt.RcNeAt.tuple_int b t h hu⟩
    | str b => obtain ⟨t, rfl⟩ := rx; exact ⟨⟨SeqAt.RcAt.str_tuple b t h hu, SeqAt.RcNeAt.str_tuple b t h hu⟩, SeqAt.RcAt.tuple_str b t h hu, SeqAt.RcNeAt.tuple_str b t h hu⟩
    | _ => exact absurd fx Bool.false_ne_true
theorem seq_is {pz : List (Addr × Obj)} {τ : L2.St} {H : Hp} {s : Shared} {a : Addr} {vs : List V} (I : Inv X pz τ H s) (h : SqL X.K H a vs ∨ SqT X.K H a vs) : ∃ items, s.heap.IsList a items ∨ s.heap.IsTuple a items := by
  rcases h with h | h
  · obtain ⟨xs9, _, p, _⟩ := I.list h
    exact ⟨_, .inl p.isList⟩
  · obtain ⟨xs9, _, p, _⟩ := I.tuple h
    exact ⟨_, .inr p⟩
theorem eqs_run {pz : List (Addr × Obj)} {τ : L2.St} {H : Hp} {s : Shared} {x y : V} {u v : Value} {b : Bool} (I : Inv X pz τ H s) (hu : X.A.units + 64 < cLine) (rx : RelV x u) (ry : RelV y v) (h : EqS X.K H x y b) :
    SeqAt.RcAt X.A s u v b ∧ SeqAt.RcNeAt X.A s u v (!b) := by
  cases h with
  | flat f g => exact eqv_flat rx ry f g
  | fs f q =>
    cases ry
    obtain ⟨items, h⟩ := seq_is I q
    exact (rc_fs rx f h (by omega)).1
  | sf f q =>
    cases rx
    obtain ⟨items, h⟩ := seq_is I q
    exact (rc_fs ry f h (by omega)).2
  | dat p q tA tB =>
    obtain ⟨as, r1⟩ := Dp.reads I _ _ u p rx
    obtain ⟨bs, r2⟩ := Dp.reads I _ _ v q ry
    exact ⟨SeqAt.rcAt_reads r1 r2 (SeqAt.canLay_of_shaped tA) (SeqAt.canLay_of_shaped tB) (SeqAt.room_of_shaped tA hu), SeqAt.rcNeAt_reads r1 r2 (SeqAt.canLay_of_shaped tA) (SeqAt.canLay_of_shaped tB) (SeqAt.room_of_shaped tA hu)⟩
def rEqS (K : PySem.W.Frag) : R2 := fun x y H Q => ∃ b, EqS K H x y b ∧ Q (.bl b) H
def rNeS (K : PySem.W.Frag) : R2 := fun x y H Q => ∃ b, EqS K H x y b ∧ Q (.bl (!b)) H
theorem op_eqS (hu : X.A.units + 64 < cLine) : OpR X (compareOp .Eq) (rEqS X.K) := fun pz s τ H x y v u Q I rx ry ⟨b, h, q⟩ => (eqs_run I hu rx ry h).1 X.prog X.w _ _ ⟨.bl b, H, I, rfl, q⟩
theorem op_neS (hu : X.A.units + 64 < cLine) : OpR X (compareOp .NotEq) (rNeS X.K) := fun pz s τ H x y v u Q I rx ry ⟨b, h, q⟩ => (eqs_run I hu rx ry h).2 X.prog X.w _ _ ⟨.bl (!b), H, I, rfl, q⟩
def dEq : D2 := fun x y m Q => ∃ b, eqK m x y = some b ∧ Q (.bl b) m
def dNe : D2 := fun x y m Q => ∃ b, eqK m x y = some b ∧ Q (.bl (!b)) m
theorem lr_eq {K : PySem.W.Frag} : LR K (rEqS K) dEq := fun x y H dx dy m Qd Q rm rx ry ⟨b, h, q⟩ k => ⟨b, eqs_of rm rx ry h, k _ H _ m (.refl H) rm (.bl b) q⟩
theorem lr_ne {K : PySem.W.Frag} : LR K (rNeS K) dNe := fun x y H dx dy m Qd Q rm rx ry ⟨b, h, q⟩ k => ⟨b, eqs_of rm rx ry h, k _ H _ m (.refl H) rm (.bl _) q⟩
end
end PD

set_option Elab.async false
set_option linter.all false
set_option maxRecDepth 100000
set_option maxHeartbeats 4000000
namespace PD
open PySem PySem.Spec PyProof.Rows L2
theorem rep_int {K : PySem.W.Frag} {H : Hp} {d : D} {v : V} {i : Int} (r : Rep K H d v) (h : d = .int i) : v = .int i := by subst h; cases r; rfl
theorem rep_str {K : PySem.W.Frag} {H : Hp} {d : D} {v : V} {i : Str} (r : Rep K H d v) (h : d = .str i) : v = .str i := by subst h; cases r; rfl
section
variable {X : Cx}
/-! ### + - * // % -/
def dAdd : D2 := fun x y m Q => match x, y with
  | .int i, .int j => Q (.int (i + j)) m
  | .str i, .str j => i.length + j.length ≤ sizeLine ∧ Q (.str (i ++ j)) m
  | .tup a, .tup b => a.length + b.length ≤ sizeLine ∧ Q (.tup (a ++ b)) m
  | .ref a, .ref b => ∃ xs ys, m a = some (.lst xs) ∧ m b = some (.lst ys) ∧ xs.length + ys.length ≤ sizeLine ∧ ∀ p, m p = none → Q (.ref p) (mset m p (.lst (xs ++ ys)))
  | _, _ => False
def rAddU (K : PySem.W.Frag) : R2 := fun x y H Q => rI0 (fun i j => .int (i + j)) x y H Q ∨ (∃ i j, x = .str i ∧ y = .str j ∧ i.length + j.length ≤ sizeLine ∧ Q (.str (i ++ j)) H) ∨ rCatA K x y H Q ∨ rCat x y H Q
theorem op_addU : OpR X (binaryOp .Add) (rAddU X.K) := op_add.or (op_add_str.or (op_catA.or op_cat))
theorem lr_add {K : PySem.W.Frag} : LR K (rAddU K) dAdd := fun x y H dx dy m Qd Q rm rx ry h k => by
  cases rx with
  | int i =>
    cases ry with
    | int j => exact .inl ⟨i, j, rfl, rfl, k _ H _ m (.refl H) rm (.int _) h⟩
    | _ => exact h.elim
  | str i =>
    cases ry with
    | str j => exact .inr (.inl ⟨i, j, rfl, rfl, h.1, k _ H _ m (.refl H) rm (.str _) h.2⟩)
    | _ => exact h.elim
  | @tup ds a vs sa ra =>
    cases ry with
    | @tup es b ws sb rb =>
      obtain ⟨hs9, h⟩ := h
      refine .inr (.inr (.inl ⟨a, b, vs, ws, rfl, rfl, sa, sb, by rw [← ra.length, ← rb.length]; exact hs9, fun e => ?_, fun e1 e2 => ?_, fun e1 e2 p hp => ?_⟩))
      · have : ds = [] := ra.nil_iff.mpr e
        subst this
        exact k _ H _ m (.refl H) rm (.tup sb rb) h
      · have : es = [] := rb.nil_iff.mpr e2
        subst this
        rw [List.append_nil] at h
        exact k _ H _ m (.refl H) rm (.tup sa ra) h
      · exact k _ _ _ m (.new hp) (rm.skip hp) (.tup (SqT.of upd_same) ((ra.append rb).mono (.new hp))) h
    | _ => exact h.elim
  | ref a =>
    cases ry with
    | ref b =>
      obtain ⟨xs, ys, h1, h2, hs9, h⟩ := h
      obtain ⟨vs, e1, r1⟩ := rm _ _ h1
      obtain ⟨ws, e2, r2⟩ := rm _ _ h2
      exact .inr (.inr (.inr ⟨a, b, vs, ws, rfl, rfl, e1, e2, by rw [← r1.length, ← r2.length]; exact hs9, fun p hp => k _ _ _ _ (.new hp) (rm.newL hp (r1.append r2)) (.ref p) (h p (rm.fresh hp))⟩))
    | _ => exact h.elim
  | _ => exact h.elim
def dInt2 (C : Int → Int → Prop) (g : Int → Int → Int) : D2 := fun x y m Q => match x, y with
  | .int i, .int j => C i j ∧ Q (.int (g i j)) m
  | _, _ => False
theorem lr_int2 {K : PySem.W.Frag} {C : Int → Int → Prop} {g : Int → Int → Int} : LR K (rI C fun i j => .int (g i j)) (dInt2 C g) := fun x y H dx dy m Qd Q rm rx ry h k => by
  cases rx with
  | int i =>
    cases ry with
    | int j => exact ⟨i, j, rfl, rfl, h.1, k _ H _ m (.refl H) rm (.int _) h.2⟩
    | _ => exact h.elim
  | _ => exact h.elim
def dSub : D2 := fun x y m Q => match x, y with
  | .int i, .int j => Q (.int (i - j)) m
  | _, _ => False
theorem lr_sub {K : PySem.W.Frag} : LR K (rI0 fun i j => .int (i - j)) dSub := fun x y H dx dy m Qd Q rm rx ry h k => by
  cases rx with
  | int i =>
    cases ry with
    | int j => exact ⟨i, j, rfl, rfl, k _ H _ m (.refl H) rm (.int _) h⟩
    | _ => exact h.elim
  | _ => exact h.elim
abbrev dFdiv : D2 := dInt2 CDiv fun i j => i / j
abbrev dMod : D2 := dInt2 (fun _ j => 0 < j) fun i j => i % j
/-! a text times a number -/
def repS (x : Str) (n : Nat) : Str := ⟨(List.replicate n x.cps).foldl (· ++ ·) #[]⟩
def rMulS : R2 := fun x y H Q => ∃ z n, x = .str z ∧ y = .int n ∧ 0 ≤ n ∧ n ≤ 1000 ∧ z.length ≤ 1000 ∧ Q (.str (repS z n.toNat)) H
theorem repS_zero (x : Str) : repS x 0 = Str.empty := rfl
theorem repS_one (x : Str) : repS x 1 = x := by
  unfold repS
  show (⟨#[] ++ x.cps⟩ : Str) = x
  rw [Array.empty_append]
theorem repS_nil (x : Str) (h : x.length = 0) : ∀ n, repS x n = x
  | 0 => by
    have e : x.cps = #[] := Array.size_eq_zero_iff.mp h
    show (⟨#[]⟩ : Str) = x
    rw [← e]
  | n + 1 => by
    have e : x.cps = #[] := Array.size_eq_zero_iff.mp h
    have ih := repS_nil x h n
    unfold repS at ih ⊢
    rw [List.replicate_succ, List.foldl_cons, e, Array.append_empty]
    rw [e] at ih
    exact ih
theorem rep_size (c : Array Nat) : ∀ (n : Nat) (acc : Array Nat), ((List.replicate n c).foldl (· ++ ·) acc).size = acc.size + n * c.size
  | 0, acc => by rw [Nat.zero_mul]; rfl
  | n + 1, acc => by
    rw [List.replicate_succ, List.foldl_cons, rep_size c n (acc ++ c), Array.size_append, Nat.succ_mul]
    omega
theorem repS_len (x : Str) (n : Nat) : (repS x n).length = n * x.length := by
  show ((List.replicate n x.cps).foldl (· ++ ·) #[]).size = _
  rw [rep_size]
  show 0 + n * x.cps.size = n * x.cps.size
  omega
theorem op_mulS : OpR X (binaryOp .Mult) rMulS := by
  intro pz s τ H x y v u Q I rx ry h
  obtain ⟨z, n, rfl, rfl, h0, h1, hs9, q⟩ := h
  obtain ⟨t, rfl⟩ := rx
  obtain ⟨t', rfl⟩ := ry
  have le9 : z.length * n.toNat ≤ 1000000 := Nat.mul_le_mul hs9 (show n.toNat ≤ 1000 by omega)
  refine PySem.P.mul_str ?_ ?_ ?_ ?_
  · rw [decide_eq_false (by omega), decide_eq_false (by omega)]; rfl
  · intro g _ hgt
    have g2 : (1000 : Int) ≤ (2 ^ 63 - 1) / n := by
      rw [Int.le_ediv_iff_mul_le (by omega)]
      omega
    omega
  · intro _ _
    unfold Builtin.Str.tooLong
    rw [decide_eq_false]
    rw [sizeLine_eq]
    omega
  · by_cases h2 : n < 1
    · rw [if_pos h2]
      have e : n.toNat = 0 := by omega
      rw [e] at q
      exact ⟨by decide, .str _, H, I.tok _, ⟨_, rfl⟩, q⟩
    · rw [if_neg h2]
      by_cases h3 : (n == 1 || z.length == 0) = true
      · rw [if_pos h3]
        have e : repS z n.toNat = z := by
          rw [Bool.or_eq_true, beq_iff_eq, beq_iff_eq] at h3
          rcases h3 with e | e
          · subst e; exact repS_one z
          · exact repS_nil z e _
        rw [e] at q
        exact ⟨.str _, H, I, ⟨_, rfl⟩, q⟩
      · rw [if_neg h3]
        refine ⟨?_, .str _, H, I.tok _, ⟨_, rfl⟩, q⟩
        show (repS z n.toNat).length ≤ sizeLine
        rw [repS_len, sizeLine_eq, Nat.mul_comm]
        omega
def dMul : D2 := fun x y m Q => match x, y with
  | .int i, .int j => CMul i j ∧ Q (.int (i * j)) m
  | .str z, .int n => 0 ≤ n ∧ n ≤ 1000 ∧ z.length ≤ 1000 ∧ Q (.str (repS z n.toNat)) m
  | _, _ => False
def rMulU : R2 := fun x y H Q => rI CMul (fun i j => .int (i * j)) x y H Q ∨ rMulS x y H Q
theorem op_mulU : OpR X (binaryOp .Mult) rMulU := op_mul.or op_mulS
theorem lr_mul {K : PySem.W.Frag} : LR K rMulU dMul := fun x y H dx dy m Qd Q rm rx ry h k => by
  cases rx with
  | int i =>
    cases ry with
    | int j => exact .inl ⟨i, j, rfl, rfl, h.1, k _ H _ m (.refl H) rm (.int _) h.2⟩
    | _ => exact h.elim
  | str i =>
    cases ry with
    | int j => exact .inr ⟨i, j, rfl, rfl, h.1, h.2.1, h.2.2.1, k _ H _ m (.refl H) rm (.str _) h.2.2.2⟩
    | _ => exact h.elim
  | _ => exact h.elim
end
end PD

set_option Elab.async false
set_option linter.all false
set_option maxRecDepth 100000
set_option maxHeartbeats 4000000
namespace PD
open PySem PySem.Spec PyProof.Rows L2
section
variable {X : Cx}
/-! ### - x; orders; is None -/
def LU (K : PySem.W.Frag) (r : V → Hp → VK → Prop) (d : D → Mu → DK → Prop) : Prop := ∀ x H dx m (Qd : DK) (Q : VK), RM K H m → Rep K H dx x → d dx m Qd →
  (∀ v H' dv m', TX H H' → RM K H' m' → Rep K H' dv v → Qd dv m' → Q v H') → r x H Q
def dUn (r : D → Mu → DK → Prop) (a : DE) : DE := fun s m Q => a s m fun x m1 => r x m1 Q
theorem ge_un {a : Expr} {pos : Pos} {da : DE} {op : UnaryOp} {r : V → Hp → VK → Prop} {d : D → Mu → DK → Prop} (ho : UnR X (unaryOp op) r) (lr : LU X.K r d) (ha : GE X a da) : GE X (.UnaryOp op a pos) (dUn d da) := by
  obtain ⟨ta, p, l⟩ := ha.ex
  refine .of ⟨_, pe_un ho p, fun s H sd m Qd Q rs rm h k => ?_⟩
  refine l s H sd m _ _ rs rm h fun v H1 dv m1 t1 rm1 r1 h1 => ?_
  exact lr v H1 dv m1 Qd Q rm1 r1 h1 fun v' H' dv' m' t' a b c => k v' H' dv' m' (t1.trans t') a b c
def dNeg : D → Mu → DK → Prop := fun x m Q => match x with | .int i => Q (.int (-i)) m | _ => False
theorem lu_neg {K : PySem.W.Frag} : LU K (rU fun i => .int (-i)) dNeg := fun x H dx m Qd Q rm rx h k => by
  cases rx with
  | int i => exact ⟨i, rfl, k _ H _ m (.refl H) rm (.int _) h⟩
  | _ => exact h.elim
def dCmp (g : Int → Int → Bool) : D2 := fun x y m Q => match x, y with
  | .int i, .int j => Q (.bl (g i j)) m
  | _, _ => False
theorem lr_cmp {K : PySem.W.Frag} {g : Int → Int → Bool} : LR K (rI0 fun i j => .bl (g i j)) (dCmp g) := fun x y H dx dy m Qd Q rm rx ry h k => by
  cases rx with
  | int i =>
    cases ry with
    | int j => exact ⟨i, j, rfl, rfl, k _ H _ m (.refl H) rm (.bl _) h⟩
    | _ => exact h.elim
  | _ => exact h.elim
abbrev dLt : D2 := dCmp fun i j => decide (i < j)
abbrev dLe : D2 := dCmp fun i j => decide (i ≤ j)
abbrev dGt : D2 := dCmp fun i j => decide (j < i)
abbrev dGe : D2 := dCmp fun i j => decide (j ≤ i)
def isNon : D → Bool
  | .non => true
  | _ => false
def dIsN : D2 := fun x y m Q => match y with | .non => Q (.bl (isNon x)) m | _ => False
def dNotN : D2 := fun x y m Q => match y with | .non => Q (.bl (!isNon x)) m | _ => False
theorem Rep.isNon {K : PySem.W.Frag} {H : Hp} {d : D} {v : V} (r : Rep K H d v) : decide (v = .non) = isNon d := by
  cases r <;> first | rfl | exact decide_eq_false (fun z => nomatch z)
theorem lr_isN {K : PySem.W.Frag} : LR K (fun x y H Q => y = .non ∧ Q (.bl (decide (x = .non))) H) dIsN := fun x y H dx dy m Qd Q rm rx ry h k => by
  cases ry with
  | non => exact ⟨rfl, k _ H _ m (.refl H) rm (by rw [rx.isNon]; exact .bl _) h⟩
  | _ => exact h.elim
theorem lr_notN {K : PySem.W.Frag} : LR K (fun x y H Q => y = .non ∧ Q (.bl (!decide (x = .non))) H) dNotN := fun x y H dx dy m Qd Q rm rx ry h k => by
  cases ry with
  | non => exact ⟨rfl, k _ H _ m (.refl H) rm (by rw [rx.isNon]; exact .bl _) h⟩
  | _ => exact h.elim
/-! ### in, not in: flat items; texts -/
def inF (x : D) (ds : List D) : Bool := ds.any fun y => eqF y x
def dInG (f : Bool → Bool) : D2 := fun x y m Q => match y with
  | .str z => match x with
    | .str w => Q (.bl (f (!(Builtin.Str.occurrences z w 0 z.length 1).isEmpty))) m
    | _ => False
  | y => ∃ ds, seqOf m y = some ds ∧ flatD x = true ∧ ds.all flatD = true ∧ Q (.bl (f (inF x ds))) m
abbrev dIn : D2 := dInG fun b => b
abbrev dNotIn : D2 := dInG fun b => !b
def rInU (K : PySem.W.Frag) : R2 := fun x y H Q => (∃ i j, x = .str i ∧ y = .str j ∧ Q (.bl (!(Builtin.Str.occurrences j i 0 j.length 1).isEmpty)) H) ∨ rIn K false x y H Q
def rNotInU (K : PySem.W.Frag) : R2 := fun x y H Q => (∃ i j, x = .str i ∧ y = .str j ∧ Q (.bl (!(!(Builtin.Str.occurrences j i 0 j.length 1).isEmpty))) H) ∨ rIn K true x y H Q
theorem op_inU : OpR X (compareOp .In) (rInU X.K) := op_in_str.or op_in_seq
theorem op_notInU : OpR X (compareOp .NotIn) (rNotInU X.K) := op_notIn_str.or op_notIn_seq
theorem in_seq {K : PySem.W.Frag} {f : Bool → Bool} {neg : Bool} (hf : ∀ b, f b = if neg then !b else b) {x y : V} {H : Hp} {dx dy : D} {m : Mu} {Qd : DK} {Q : VK} (rm : RM K H m) (rx : Rep K H dx x) (ry : Rep K H dy y)
    (h : ∃ ds, seqOf m dy = some ds ∧ flatD dx = true ∧ ds.all flatD = true ∧ Qd (.bl (f (inF dx ds))) m)
    (k : ∀ v H' dv m', TX H H' → RM K H' m' → Rep K H' dv v → Qd dv m' → Q v H') : rIn K neg x y H Q := by
  obtain ⟨ds, e, fx, g, q⟩ := h
  obtain ⟨a, vs, rfl, s, r⟩ := seq_rep rm ry e
  refine ⟨a, vs, rfl, s, rx.flat fx, r.flat g, ?_⟩
  rw [RepL.inV rx fx r g, ← hf]
  exact k _ H _ m (.refl H) rm (.bl _) q
theorem lr_in {K : PySem.W.Frag} : LR K (rInU K) dIn := fun x y H dx dy m Qd Q rm rx ry h k => by
  have hf : ∀ b : Bool, (fun b : Bool => b) b = if false then !b else b := fun b => rfl
  cases ry with
  | str z =>
    cases rx with
    | str w => exact .inl ⟨w, z, rfl, rfl, k _ H _ m (.refl H) rm (.bl _) h⟩
    | _ => exact h.elim
  | ref a => exact .inr (in_seq hf rm rx (.ref a) h k)
  | tup s r => exact .inr (in_seq hf rm rx (.tup s r) h k)
  | rol s r => exact .inr (in_seq hf rm rx (.rol s r) h k)
  | non => exact .inr (in_seq hf rm rx .non h k)
  | bl b => exact .inr (in_seq hf rm rx (.bl b) h k)
  | int b => exact .inr (in_seq hf rm rx (.int b) h k)
theorem lr_notIn {K : PySem.W.Frag} : LR K (rNotInU K) dNotIn := fun x y H dx dy m Qd Q rm rx ry h k => by
  have hf : ∀ b : Bool, (fun b : Bool => !b) b = if true then !b else b := fun b => rfl
  cases ry with
  | str z =>
    cases rx with
    | str w => exact .inl ⟨w, z, rfl, rfl, k _ H _ m (.refl H) rm (.bl _) h⟩
    | _ => exact h.elim
  | ref a => exact .inr (in_seq hf rm rx (.ref a) h k)
  | tup s r => exact .inr (in_seq hf rm rx (.tup s r) h k)
  | rol s r => exact .inr (in_seq hf rm rx (.rol s r) h k)
  | non => exact .inr (in_seq hf rm rx .non h k)
  | bl b => exact .inr (in_seq hf rm rx (.bl b) h k)
  | int b => exact .inr (in_seq hf rm rx (.int b) h k)
/-! ### x[i] -/
def dIx : D2 := fun x y m Q => match x with
  | .str z => match y with
    | .int i => z.length ≤ sizeLine ∧ ∃ c, atI z.cps.toList i = some c ∧ Q (.str ⟨#[c]⟩) m
    | _ => False
  | x => match y with
    | .int i => ∃ ds, seqOf m x = some ds ∧ ∃ d, atI ds i = some d ∧ Q d m
    | _ => False
theorem RepL.atI {K : PySem.W.Frag} {H : Hp} {ds : List D} {vs : List V} {i : Int} {d : D} (r : RepL K H ds vs) (h : L2.atI ds i = some d) : ∃ v, L2.atI vs i = some v ∧ Rep K H d v := by
  unfold L2.atI at h ⊢
  rw [← r.length]
  cases e : ixN ds.length i with
  | none => rw [e] at h; cases h
  | some j => rw [e] at h; exact r.get h
theorem ge_ix {a b : Expr} {pos : Pos} {da db : DE} (ha : GE X a da) (hb : GE X b db) (hs : PlainIx b := by exact fun _ _ => rfl) : GE X (.Subscript a b pos) (dOp dIx da db) := by
  obtain ⟨ta, p, l⟩ := ha.ex
  obtain ⟨tb, q, l2⟩ := hb.ex
  refine .of ⟨_, pe_ix ix_seq p q hs, l.op l2 fun x y H dx dy m Qd Q rm rx ry h k => ?_⟩
  have go : ∀ {dx : D} {i : Int}, Rep X.K H dx x → (∃ ds, seqOf m dx = some ds ∧ ∃ d, L2.atI ds i = some d ∧ Qd d m) → rIx X.K x (.int i) H Q := fun {dx i} rx h => by
    obtain ⟨ds, e, d, e2, q⟩ := h
    obtain ⟨a, vs, rfl, s, r⟩ := seq_rep rm rx e
    obtain ⟨v, e3, ra9⟩ := r.atI e2
    rcases s with s | s
    · exact .inl ⟨a, vs, i, v, rfl, rfl, s, e3, k v H d m (.refl H) rm ra9 q⟩
    · exact .inr (.inl ⟨a, vs, i, v, rfl, rfl, s, e3, k v H d m (.refl H) rm ra9 q⟩)
  cases ry with
  | int i =>
    cases rx with
    | str z =>
      obtain ⟨hs9, c, e, q⟩ := h
      exact .inr (.inr ⟨z, i, c, rfl, rfl, hs9, e, k _ H _ m (.refl H) rm (.str _) q⟩)
    | non => exact go .non h
    | bl b => exact go (.bl b) h
    | int b => exact go (.int b) h
    | ref a => exact go (.ref a) h
    | tup s r => exact go (.tup s r) h
    | rol s r => exact go (.rol s r) h
  | _ => cases rx <;> exact h.elim
/-! ### slices -/
abbrev DO := Sd → Mu → (Option Int → Mu → Prop) → Prop
structure GO (X : Cx) (e : Option Expr) (d : DO) : Prop where
  ex : ∃ t, PO X e t ∧ ∀ s H sd m (Qd : Option Int → Mu → Prop) (Q : Option Int → Hp → Prop), RS X.K H sd s → RM X.K H m → d sd m Qd → (∀ o H' m', TX H H' → RM X.K H' m' → Qd o m' → Q o H') → t s H Q
def dNoPart : DO := fun _ m Q => Q none m
def dPart (d : DE) : DO := fun s m Q => d s m fun x m1 => match x with | .int i => Q (some i) m1 | _ => False
theorem go_none : GO X none dNoPart := ⟨_, po_none, fun _ H _ m _ _ _ rm h k => k none H m (.refl H) rm h⟩
theorem go_some {e : Expr} {d : DE} (h : GE X e d) : GO X (some e) (dPart d) := by
  obtain ⟨t, p, l⟩ := h.ex
  refine ⟨_, po_some p, fun s H sd m Qd Q rs rm h k => ?_⟩
  refine l s H sd m _ _ rs rm h fun v H1 dv m1 t1 rm1 r1 h1 => ?_
  cases r1 with
  | int i => exact ⟨i, rfl, k _ H1 m1 t1 rm1 h1⟩
  | _ => exact h1.elim
def cutD {α : Type} (xs : List α) (lo hi : Option Int) : List α := (xs.drop (HT.sIx xs.length 0 lo)).take (HT.sIx xs.length xs.length hi - HT.sIx xs.length 0 lo)
theorem RepL.cut {K : PySem.W.Frag} {H : Hp} {ds : List D} {vs : List V} (r : RepL K H ds vs) (lo hi : Option Int) : RepL K H (cutD ds lo hi) (cutV vs lo hi) := by
  unfold cutD cutV
  rw [r.length]
  exact (r.drop _).take _
def dSl (de : DE) (dl dh : DO) : DE := fun s m Q => de s m fun x m1 => dl s m1 fun lo m2 => dh s m2 fun hi m3 => match x with
  | .tup ds => Q (.tup (cutD ds lo hi)) m3
  | .ref a => ∃ ds, seqOf m3 (.ref a) = some ds ∧ ∀ p, m3 p = none → Q (.ref p) (mset m3 p (.lst (cutD ds lo hi)))
  | _ => False
theorem ge_slice {e : Expr} {lo hi : Option Expr} {pos p2 : Pos} {de : DE} {dl dh : DO} (he : GE X e de) (hl : GO X lo dl) (hh : GO X hi dh) : GE X (.Subscript e (.Slice lo hi none p2) pos) (dSl de dl dh) := by
  obtain ⟨te, p, l⟩ := he.ex
  obtain ⟨tl, q, l2⟩ := hl.ex
  obtain ⟨th, q2, l3⟩ := hh.ex
  refine .of ⟨_, pe_slice (sl_tupA.or sl_list) p q q2, fun s H sd m Qd Q rs rm h k => ?_⟩
  refine l s H sd m _ _ rs rm h fun v H1 dv m1 t1 rm1 r1 h1 => ?_
  refine l2 s H1 sd m1 _ _ (rs.mono t1) rm1 h1 fun lo H2 m2 t2 rm2 h2 => ?_
  refine l3 s H2 sd m2 _ _ (rs.mono (t1.trans t2)) rm2 h2 fun hi H3 m3 t3 rm3 h3 => ?_
  have r3 := r1.mono (t2.trans t3)
  have t13 := t1.trans (t2.trans t3)
  cases r3 with
  | @tup ds a vs sa ra =>
    refine .inl ⟨a, vs, rfl, sa, fun e => ?_, fun e p hp => ?_⟩
    · have e2 : cutD ds lo hi = ds := by
        unfold cutD
        rw [ra.length, e.1, e.2, List.drop_zero, Nat.sub_zero, ← ra.length, List.take_length]
      have h4 : Qd (.tup (cutD ds lo hi)) m3 := h3
      rw [e2] at h4
      exact k _ H3 _ m3 t13 rm3 (.tup sa ra) h4
    · exact k _ _ _ m3 (t13.trans (.new hp)) (rm3.skip hp) (.tup (SqT.of upd_same) ((ra.cut lo hi).mono (.new hp))) h3
  | ref a =>
    obtain ⟨ds, e, q⟩ := h3
    obtain ⟨vs, sl, r⟩ := ref_rep rm3 e
    exact .inr ⟨a, vs, rfl, sl, fun p hp => k _ _ _ _ (t13.trans (.new hp)) (rm3.newL hp (r.cut lo hi)) (.ref p) (q p (rm3.fresh hp))⟩
  | _ => exact h3.elim
end
end PD

set_option Elab.async false
set_option linter.all false
set_option maxRecDepth 100000
set_option maxHeartbeats 4000000
/-! enumerate(tuple) -/
namespace PySem
open Sem (wp)
open AutoSeq1 (wpAny_loadPart')
theorem pd_meets_enumT (l : Addr) (gs9 : Array Value) (n : Nat) (dc9 : Option Addr) (sl : Array (Option Value)) :
    Meets (Builtin.«enumerate.__new__» ⟨[.type "enumerate", .ref l], []⟩) (fun _ R s => s.heap.get? l = some { cls := .type "tuple", dict := dc9, data := .seq gs9 n, slots := sl } ∧
      R (.ok (.ret (.ref (s.heap.push { cls := .type "tuple_iterator", data := .fields #[.ref l, .int 0 0] }).objs.size)))
        { s with heap := (s.heap.push { cls := .type "tuple_iterator", data := .fields #[.ref l, .int 0 0] }).push { cls := .type "enumerate", data := .fields #[.none, .bool false, .ref s.heap.objs.size, rawInt 0, .none, .none] } }) :=
  .of_wp fun pg9 w A R s h => by
    obtain ⟨hp, g, d, tk9, os9⟩ := s; obtain ⟨ha9, h⟩ := h
    have hsub := sub_enumerate
    have hL : Heap.IsTuple (Shared.heap ⟨hp, g, d, tk9, os9⟩) l gs9 := ⟨_, ha9, rfl, n, rfl⟩
    wp_walk using wpAny_loadPart' ha9
    refine wpAny_stack_any fun st => wpAny_pure ?_
    split
    · rename_i c _ _ _ _ _
      cases (c == Value.type "enumerate")
      · wp_walk using wpAny_loadPart' ha9, wpAny_pyIter_tuple hL
        exact ⟨_, rfl, h⟩
      · wp_walk using wpAny_loadPart' ha9, wpAny_pyIter_tuple hL
        exact ⟨_, rfl, h⟩
    · wp_walk using wpAny_loadPart' ha9, wpAny_pyIter_tuple hL
      exact ⟨_, rfl, h⟩
section
variable {pg9 : Program} {w : World} {A : Around} {E : Value → Shared → Prop} {s : Shared}
theorem pd_call_enumT {l : Addr} {gs9 : Array Value} {Q : Value → Shared → Prop} (hL : s.heap.IsTuple l gs9)
    (h : ∀ h', IsEnum h' (s.heap.objs.size + 1) s.heap.objs.size 0 .none → h'.IsTupleIter s.heap.objs.size l 0 → h'.objs.size = s.heap.objs.size + 2 →
      (∀ b o, s.heap.get? b = some o → h'.get? b = some o) → Q (.ref (s.heap.objs.size + 1)) { s with heap := h' }) :
    wpAny (model pg9 w) A (call (.type "enumerate") [.ref l]) Q E s := by
  obtain ⟨⟨c, dc9, dt9, sl⟩, ha9, ca9, n, da9⟩ := hL
  replace ca9 : c = .type "tuple" := ca9
  replace da9 : dt9 = .seq gs9 n := da9
  subst ca9 da9
  refine callType_new F.called_enumerate (by decide) (F.typeCall_enumerate_1 _) (F.newCall_enumerate_1 _) (fun obj => F.args_object_init_2 obj _) F.entry_enumerate_new
    (pd_meets_enumT l gs9 n dc9 sl) ⟨ha9, ?_⟩
  have hs9 : (s.heap.push { cls := .type "tuple_iterator", data := .fields #[.ref l, .int 0 0] }).objs.size = s.heap.objs.size + 1 := Heap.size_push ..
  show _ ∧ _
  rw [hs9]
  have ea9 : IsEnum ((s.heap.push { cls := .type "tuple_iterator", data := .fields #[.ref l, .int 0 0] }).push
      { cls := .type "enumerate", data := .fields #[.none, .bool false, .ref s.heap.objs.size, rawInt 0, .none, .none] }) (s.heap.objs.size + 1) s.heap.objs.size 0 .none := by
    have := Heap.get?_push_size (s.heap.push { cls := .type "tuple_iterator", data := .fields #[.ref l, .int 0 0] })
      (o := { cls := .type "enumerate", data := .fields #[.none, .bool false, .ref s.heap.objs.size, rawInt 0, .none, .none] }) rfl
    rw [hs9] at this; exact this
  refine ⟨⟨_, ea9, rfl⟩, h _ ea9 ⟨_, Heap.get?_push_of_some _ (Heap.get?_push_size _ rfl), rfl, rfl⟩ (by rw [Heap.size_push, hs9]) fun b o x => Heap.get?_push_of_some _ (Heap.get?_push_of_some _ x)⟩
end
end PySem
namespace PD
open PySem PySem.Spec PyProof.Rows L2
def Itet (K : PySem.W.Frag) (a : Addr) : It :=
  ⟨fun i H => ∃ (xs : List V) (x : V), SqT K H a xs ∧ xs[i]? = some x, fun i H v H' => ∃ T x, v = .ref T ∧ H T = none ∧ H' = upd H T (.tup [.int (i : Nat), x]) ∧ ∀ xs, SqT K H a xs → xs[i]? = some x, fun i H => ∃ xs : List V, SqT K H a xs ∧ xs.length ≤ i⟩
theorem turn_enumT {P : Program} {w : World} {K : PySem.W.Frag} {elts : List Expr} {kk : Nat} {tpos : Pos} (a e jt9 : Addr) :
    Turn P w K (.Tuple elts kk tpos) (Itet K a) [e, jt9] e (fun i h => (∃ ol9, IsEnum h e jt9 ((i : Nat) : Int) ol9) ∧ h.IsTupleIter jt9 a i ∧ e ≠ jt9) where
  mem := by simp
  obj := fun i h st b hb => by
    obtain ⟨⟨ol9, ea9⟩, ⟨o, oa9, ca9, da9⟩, _⟩ := st
    have ee9 : b = e ∨ b = jt9 := by simpa using hb
    rcases ee9 with z | z
    · rw [z]; exact ⟨_, ea9, fun v q => nomatch q⟩
    · rw [z]; exact ⟨o, oa9, fun v q => by rw [da9] at q; cases q⟩
  keep := fun i h h' st k => let ⟨⟨ol9, ea9⟩, hi, na9⟩ := st; ⟨⟨ol9, k e (by simp) _ ea9⟩, hi.at fun o q => k jt9 (by simp) o q, na9⟩
  item := by
    intro X hP hw hK ca9 i pz s τ H E I fa9 st hg
    subst hP hw hK
    obtain ⟨⟨ol9, ea9⟩, ia9, na9⟩ := st
    obtain ⟨xs, x, hq, hx⟩ := hg
    obtain ⟨xs9, ra9, pp9, hs9⟩ := I.tuple hq
    obtain ⟨u, hu, ru⟩ := ra9.get hx
    have ka9 : e < s.heap.objs.size := Heap.lt_size ea9
    have la9 : jt9 < s.heap.objs.size := by obtain ⟨_, q, _⟩ := ia9; exact Heap.lt_size q
    have hta : a ≠ jt9 := fun z => by
      obtain ⟨o1, q1, c1, _⟩ := ia9
      obtain ⟨o2, q2, c2, _⟩ := id pp9
      rw [z, q1] at q2; cases q2
      rw [c1] at c2; exact absurd c2 (by decide)
    have hte : e ≠ a := fun z => by
      obtain ⟨o2, q2, c2, _⟩ := id pp9
      have he' : s.heap.get? e = some _ := ea9
      rw [z, q2] at he'; cases he'
      have c3 : Value.type "enumerate" = Value.type "tuple" := c2
      exact absurd c3 (by decide)
    have hd1 : X.A.in1.handled = none := I.ok.hd ca9
    have Dr := Draws.tuple (prog := X.prog) (w := X.w) (A := X.A.in1) hd1 jt9 a hta xs9.toArray
    refine wpAny_pyNext_enum_itemD Dr ea9 ⟨ia9, pp9⟩ (by have := (List.getElem?_eq_some_iff.mp hu).1; simpa using this) na9 (fun z => by
      have ee9 : e = jt9 ∨ e = a := by simpa using z
      rcases ee9 with q | q
      · exact na9 q
      · exact hte q) fun y h' tk9 hy oa9 st' hT za9 ga9 => ?_
    have hyu : y = u := by
      have hy' : xs9.toArray[i]? = some y := hy
      have hu' : xs9.toArray[i]? = some u := by simpa using hu
      rw [hu'] at hy'; cases hy'; rfl
    subst hyu
    obtain ⟨hit', hta'⟩ := st'
    refine ⟨_, rfl, wpAny_letOwnedTupleGo_enum (s := { s with heap := h', toks := tk9 + 1 }) oa9 fun h'' he' sb => ?_⟩
    have hT2 : h''.get? s.heap.objs.size = some { cls := .type "tuple", data := .seq #[.int i tk9, y] } := (sb.2 _ (Nat.ne_of_gt ka9)).trans hT
    have nw9 : ObjOk X.prog X.w (upd H s.heap.objs.size (.tup [.int (i : Nat), x])) h'' s.heap.objs.size (.tup [.int (i : Nat), x]) :=
      ⟨by show 2 ≤ sizeLine; decide, [.int i tk9, y], .cons ⟨_, rfl⟩ (.cons ru .nil), ⟨_, hT2, rfl, _, rfl⟩⟩
    have iA : Inv X pz τ (upd H s.heap.objs.size (.tup [.int (i : Nat), x])) { s with heap := h'', toks := tk9 + 1 } :=
      I.turnedNew (ch := [e, jt9]) (fun b ob hb q => (sb.2 b (fun z => hb (by simp [z]))).trans (ga9 b ob (fun z => hb (by simp [z])) (fun z => hb (by simp [z])) q)) fa9 (Nat.le_refl _) nw9
    refine ⟨.ref s.heap.objs.size, _, iA, rfl, ⟨_, x, rfl, I.hok.fresh (Nat.le_refl _), rfl, fun ys hy => by rw [I.tuple_inj hy hq]; exact hx⟩, ⟨⟨y, ?_⟩, hit'.at fun o q => (sb.2 jt9 (Ne.symm na9)).trans q, na9⟩, fun b hb => ?_⟩
    · have e1 : ((i + 1 : Nat) : Int) = (i : Int) + 1 := by omega
      rw [e1]; exact he'
    · have bb9 : b < s.heap.objs.size := by
        have ee9 : b = e ∨ b = jt9 := by simpa using hb
        rcases ee9 with z | z
        · rw [z]; exact ka9
        · rw [z]; exact la9
      rw [upd_ne (Nat.ne_of_lt bb9)]
      exact (fa9 b hb).1
  done := by
    intro X hP hw hK ca9 i pz s τ H E I fa9 st hg
    subst hP hw hK
    obtain ⟨⟨ol9, ea9⟩, ia9, na9⟩ := st
    obtain ⟨xs, hq, hx⟩ := hg
    obtain ⟨xs9, ra9, pp9, hs9⟩ := I.tuple hq
    obtain ⟨f0, f1, f2, f3, f4, f5⟩ := fa9 jt9 (by simp)
    have ha9 := ra9.length
    have hta : a ≠ jt9 := fun z => by
      obtain ⟨o1, q1, c1, _⟩ := ia9
      obtain ⟨o2, q2, c2, _⟩ := id pp9
      rw [z, q1] at q2; cases q2
      rw [c1] at c2; exact absurd c2 (by decide)
    have hd1 : X.A.in1.handled = none := I.ok.hd ca9
    unfold pyNext
    refine wpAny_bind (wpAny_attempt (wpAny_callSpecial?_slot (name := Str.ofString "__next__") ⟨_, ea9, rfl⟩ F.slot_enumerate_next
      (wpAny_call_entry F.slot_enumerate_next ⟨_, ea9, rfl⟩ F.entry_enumerate_next ?_ (F.args_enumerate_next_1 _))))
    show wpAny _ _ (field (.ref e) 2 >>= _) _ _ _
    refine wpAny_bind (wpAny_field ea9 rfl (x := .ref jt9) rfl ?_)
    refine wpAny_bind (wpAny_nextOf_tuple_end hd1 ia9 pp9 (by simp; omega) fun h' x he' hx' => ?_)
    obtain ⟨o, oa9, ca9⟩ := hx'
    refine wpAny_bind (wpAny_isInstance (T := "StopIteration") (b := true) ⟨o, oa9, ca9⟩ isSubtype_stop ?_)
    exact wpAny_pure ⟨rfl, I.turned (t' := s.toks) (fun b o hb q => he' b o hb q) f0 f1 f3 f4 f5⟩
  self := fun A i s Q E st h => let ⟨⟨_, ea9⟩, _⟩ := st; wpAny_pyIter_enum ea9 h
def iEnumT (K : PySem.W.Frag) (ta : TA) : TI := fun τ H R => ta τ H fun vs H1 => ∃ a, vs = [.ref a] ∧ ((∃ xs, SqL K H1 a xs ∧ R (Ite K a) H1) ∨ (∃ xs, SqT K H1 a xs ∧ R (Itet K a) H1))
theorem pi_enumT {X : Cx} {e : Expr} {ta : TA} {pp9 pos tpos : Pos} {elts : List Expr} {kk : Nat} (hg : Gl X "enumerate") (hm : X.mg "enumerate" = none) (ha : PA X [e] ta) (hs : starEach [e] X.env = [(false, eval e X.env)] := by rfl) :
    PI X (.Tuple elts kk tpos) (.Call (.Name "enumerate" pp9) [e] [] pos) (iEnumT X.K ta) := by
  refine ⟨fun pz s τ H R I h => ?_⟩
  refine Call_ (ld_blt I hg hm boot_enumerate (PyProof.Rows.callWith_type1 (thn (ha.run pos pz s τ H _ I h) fun us tA ⟨vs, H1, iA, r1, q1⟩ => ?_) hs rfl))
  obtain ⟨a, ex, q⟩ := q1
  subst ex
  cases r1 with
  | cons r rr =>
    cases rr
    cases r
    have fin : ∀ b ∈ [tA.heap.objs.size + 1, tA.heap.objs.size], FpOk X pz H1 b := fun b hb => by
      have ee9 : b = tA.heap.objs.size + 1 ∨ b = tA.heap.objs.size := by simpa using hb
      have le9 : tA.heap.objs.size ≤ b := by
        rcases ee9 with z | z
        · rw [z]; exact Nat.le_add_right _ _
        · rw [z]; exact Nat.le_refl _
      exact iA.fpOk le9 (iA.hok.fresh le9)
    rcases q with ⟨xs, hq, q⟩ | ⟨xs, hq, q⟩
    · obtain ⟨xs9, ra9, p', hs9⟩ := iA.list hq
      refine call_enumerate_list p'.isList fun h' ea9 ia9 za9 ga9 => wpAny_pyIter_enum ea9 ?_
      have iB : Inv X pz τ H1 { tA with heap := h' } := iA.kept (t' := tA.toks) ga9
      exact ⟨tA.heap.objs.size + 1, [tA.heap.objs.size + 1, tA.heap.objs.size], _, _, H1, rfl, iB, turn_enum a (tA.heap.objs.size + 1) tA.heap.objs.size, ⟨⟨.none, ea9⟩, ia9, Nat.succ_ne_self _⟩, fin, q⟩
    · obtain ⟨xs9, ra9, p', hs9⟩ := iA.tuple hq
      refine pd_call_enumT (show tA.heap.IsTuple a xs9.toArray from p') fun h' ea9 ia9 za9 ga9 => wpAny_pyIter_enum ea9 ?_
      have iB : Inv X pz τ H1 { tA with heap := h' } := iA.kept (t' := tA.toks) ga9
      exact ⟨tA.heap.objs.size + 1, [tA.heap.objs.size + 1, tA.heap.objs.size], _, _, H1, rfl, iB, turn_enumT a (tA.heap.objs.size + 1) tA.heap.objs.size, ⟨⟨.none, ea9⟩, ia9, Nat.succ_ne_self _⟩, fin, q⟩
def iSeq (K : PySem.W.Frag) (tl : TE) : TI := fun τ H R => tl τ H fun x H1 => ∃ a, x = .ref a ∧ ((∃ xs, SqL K H1 a xs ∧ R (Itl K a) H1) ∨ (∃ xs, SqT K H1 a xs ∧ R (Itt K a) H1))
theorem pi_seq {X : Cx} {tg l : Expr} {tl : TE} (ha9 : PE X l tl) : PI X tg l (iSeq X.K tl) := by
  refine ⟨fun pz s τ H R I h => ?_⟩
  refine thn (ha9.run pz s τ H _ I h) fun v tA ⟨x, H1, iA, r1, q1⟩ => ?_
  obtain ⟨a, e, q⟩ := q1
  subst e
  cases r1
  rcases q with ⟨xs, hq, q⟩ | ⟨xs, hq, q⟩
  · obtain ⟨xs9, ra9, pp9, hs9⟩ := iA.list hq
    refine wpAny_pyIter_list pp9.isList ?_
    refine ⟨tA.heap.objs.size, [tA.heap.objs.size], _, _, H1, rfl, iA.kept (t' := tA.toks) fun b o e => Heap.get?_push_of_some _ e, turn_list a _, ⟨_, Heap.get?_push_size _ rfl, rfl, rfl⟩, fun b hb => ?_, q⟩
    have e : b = tA.heap.objs.size := by simpa using hb
    subst e
    exact iA.fpOk (Nat.le_refl _) (iA.hok.fresh (Nat.le_refl _))
  · obtain ⟨xs9, ra9, pp9, hs9⟩ := iA.tuple hq
    refine wpAny_pyIter_tuple (show tA.heap.IsTuple a xs9.toArray from pp9) ?_
    refine ⟨tA.heap.objs.size, [tA.heap.objs.size], _, _, H1, rfl, iA.kept (t' := tA.toks) fun b o e => Heap.get?_push_of_some _ e, turn_tuple a _, ⟨_, Heap.get?_push_size _ rfl, rfl, rfl⟩, fun b hb => ?_, q⟩
    have e : b = tA.heap.objs.size := by simpa using hb
    subst e
    exact iA.fpOk (Nat.le_refl _) (iA.hok.fresh (Nat.le_refl _))
end PD

set_option Elab.async false
set_option linter.all false
set_option maxRecDepth 100000
set_option maxHeartbeats 4000000
namespace PD
open PySem PySem.Spec PyProof.Rows L2
section
variable {X : Cx}
/-! ### displays -/
def dTup (a : DA) : DE := fun s m Q => a s m fun ds m1 => ds.length ≤ sizeLine ∧ Q (.tup ds) m1
def dLst (a : DA) : DE := fun s m Q => a s m fun ds m1 => ds.length ≤ sizeLine ∧ ∀ p, m1 p = none → Q (.ref p) (mset m1 p (.lst ds))
theorem ge_tup {es : List Expr} {pos : Pos} {x1} {da : DA} (h : GA X es da) : GE X (.Tuple es x1 pos) (dTup da) := by
  obtain ⟨ta, p, l⟩ := h.ex
  refine .of ⟨_, pe_tup p, fun s H sd m Qd Q rs rm h k => ?_⟩
  refine l s H sd m _ _ rs rm h fun vs H1 ds m1 t1 rm1 r1 h1 => ?_
  exact ⟨by rw [← r1.length]; exact h1.1, fun p hp => k _ _ _ m1 (t1.trans (.new hp)) (rm1.skip hp) (.tup (SqT.of upd_same) (r1.mono (.new hp))) h1.2⟩
theorem ge_lst {es : List Expr} {pos : Pos} {da : DA} (h : GA X es da) : GE X (.List es pos) (dLst da) := by
  obtain ⟨ta, p, l⟩ := h.ex
  refine .of ⟨_, pe_lst p, fun s H sd m Qd Q rs rm h k => ?_⟩
  refine l s H sd m _ _ rs rm h fun vs H1 ds m1 t1 rm1 r1 h1 => ?_
  exact ⟨by rw [← r1.length]; exact h1.1, fun p hp => k _ _ _ _ (t1.trans (.new hp)) (rm1.newL hp r1) (.ref p) (h1.2 p (rm1.fresh hp))⟩
/-! ### calls of built-ins -/
abbrev DC := List D → Mu → DK → Prop
def LC (K : PySem.W.Frag) (r : List V → Hp → VK → Prop) (d : DC) : Prop := ∀ vs H ds m (Qd : DK) (Q : VK), RM K H m → RepL K H ds vs → d ds m Qd →
  (∀ v H' dv m', TX H H' → RM K H' m' → Rep K H' dv v → Qd dv m' → Q v H') → r vs H Q
def dCB (d : DC) (a : DA) : DE := fun s m Q => a s m fun ds m1 => d ds m1 Q
theorem ge_callB {id : String} {x : Str} {p pos : Pos} {e : Expr} {es : List Expr} {r : List V → Hp → VK → Prop} {d : DC} {da : DA} (ca9 : CallR X (.builtin id) r) (lc : LC X.K r d) (hg : Gl X x) (ma9 : X.mg x = none) (hv : bootBuiltins x = some (.builtin id)) (ha : GA X (e :: es) da)
    (hn : x ≠ "__name__" := by decide) (hdb : (x == ("__debug__" : Str)) = false := by decide) (he : starEach (e :: es) X.env = (false, eval e X.env) :: starEach es X.env := by rfl) (hpl : (backTo pos (starEach es X.env)).any (·.1) = false := by rfl) :
    GE X (.Call (.Name x p) (e :: es) [] pos) (dCB d da) := by
  obtain ⟨ta, q, l⟩ := ha.ex
  refine .of ⟨_, pe_callB ca9 hg ma9 hv q hn hdb he hpl, fun s H sd m Qd Q rs rm h k => ?_⟩
  refine l s H sd m _ _ rs rm h fun vs H1 ds m1 t1 rm1 r1 h1 => ?_
  exact lc vs H1 ds m1 Qd Q rm1 r1 h1 fun v' H' dv' m' t' a b c => k v' H' dv' m' (t1.trans t') a b c
theorem ge_callTy {T : String} {x : Str} {p pos : Pos} {e : Expr} {es : List Expr} {r : List V → Hp → VK → Prop} {d : DC} {da : DA} (ca9 : CallR X (.type T) r) (lc : LC X.K r d) (hg : Gl X x) (ma9 : X.mg x = none) (hv : bootBuiltins x = some (.type T)) (ha : GA X (e :: es) da)
    (hn : x ≠ "__name__" := by decide) (hdb : (x == ("__debug__" : Str)) = false := by decide) (he : starEach (e :: es) X.env = (false, eval e X.env) :: starEach es X.env := by rfl) (hpl : (backTo pos (starEach es X.env)).any (·.1) = false := by rfl) :
    GE X (.Call (.Name x p) (e :: es) [] pos) (dCB d da) := by
  obtain ⟨ta, q, l⟩ := ha.ex
  refine .of ⟨_, pe_callTy ca9 hg ma9 hv q hn hdb he hpl, fun s H sd m Qd Q rs rm h k => ?_⟩
  refine l s H sd m _ _ rs rm h fun vs H1 ds m1 t1 rm1 r1 h1 => ?_
  exact lc vs H1 ds m1 Qd Q rm1 r1 h1 fun v' H' dv' m' t' a b c => k v' H' dv' m' (t1.trans t') a b c
theorem repL1 {K : PySem.W.Frag} {H : Hp} {d : D} {vs : List V} (r : RepL K H [d] vs) : ∃ v, vs = [v] ∧ Rep K H d v := by
  cases r with
  | cons a b => cases b; exact ⟨_, rfl, a⟩
theorem repL2 {K : PySem.W.Frag} {H : Hp} {d e : D} {vs : List V} (r : RepL K H [d, e] vs) : ∃ v u, vs = [v, u] ∧ Rep K H d v ∧ Rep K H e u := by
  cases r with
  | cons a b =>
    obtain ⟨u, rfl, q⟩ := repL1 b
    exact ⟨_, _, rfl, a, q⟩
def dLen : DC := fun ds m Q => match ds with
  | [.str z] => z.length ≤ sizeLine ∧ Q (.int z.length) m
  | [d] => ∃ es, seqOf m d = some es ∧ Q (.int es.length) m
  | _ => False
theorem call_lenU : CallR X (.builtin "len") (fun xs H Q => (∃ p ys, xs = [.ref p] ∧ (SqL X.K H p ys ∨ SqT X.K H p ys) ∧ Q (.int ys.length) H) ∨ ∃ z, xs = [.str z] ∧ z.length ≤ sizeLine ∧ Q (.int z.length) H) := call_len_seq.or call_len_str
theorem lc_len {K : PySem.W.Frag} : LC K (fun xs H Q => (∃ p ys, xs = [.ref p] ∧ (SqL K H p ys ∨ SqT K H p ys) ∧ Q (.int ys.length) H) ∨ ∃ z, xs = [.str z] ∧ z.length ≤ sizeLine ∧ Q (.int z.length) H) dLen := fun vs H ds m Qd Q rm r h k => by
  have go : ∀ {d : D}, RepL K H [d] vs → (∃ es, seqOf m d = some es ∧ Qd (.int es.length) m) → ∃ p ys, vs = [.ref p] ∧ (SqL K H p ys ∨ SqT K H p ys) ∧ Q (.int ys.length) H := fun {d} r h => by
    obtain ⟨es, e, q⟩ := h
    obtain ⟨v, rfl, ra9⟩ := repL1 r
    obtain ⟨a, ws, rfl, s, r2⟩ := seq_rep rm ra9 e
    exact ⟨a, ws, rfl, s, k _ H _ m (.refl H) rm (by rw [← r2.length]; exact .int _) q⟩
  match ds, r, h with
  | [.str z], r, h =>
    obtain ⟨v, rfl, ra9⟩ := repL1 r
    cases ra9
    exact .inr ⟨z, rfl, h.1, k _ H _ m (.refl H) rm (.int _) h.2⟩
  | [.non], r, h => exact .inl (go r h)
  | [.bl _], r, h => exact .inl (go r h)
  | [.int _], r, h => exact .inl (go r h)
  | [.ref _], r, h => exact .inl (go r h)
  | [.tup _], r, h => exact .inl (go r h)
  | [.rol _], r, h => exact .inl (go r h)
def dTuple : DC := fun ds m Q => match ds with
  | [d] => ∃ es, seqOf m d = some es ∧ Q (.tup es) m
  | _ => False
theorem lc_tuple {K : PySem.W.Frag} : LC K (fun xs H Q => ∃ p ys, xs = [.ref p] ∧ ((SqL K H p ys ∧ ∀ l, H l = none → Q (.ref l) (upd H l (.tup ys))) ∨ (SqT K H p ys ∧ Q (.ref p) H))) dTuple := fun vs H ds m Qd Q rm r h k => by
  match ds, r, h with
  | [d], r, h =>
    obtain ⟨es, e, q⟩ := h
    obtain ⟨v, rfl, ra9⟩ := repL1 r
    obtain ⟨a, ws, rfl, s, r2⟩ := seq_rep rm ra9 e
    rcases s with s | s
    · exact ⟨a, ws, rfl, .inl ⟨s, fun l hl => k _ _ _ m (.new hl) (rm.skip hl) (.tup (SqT.of upd_same) (r2.mono (.new hl))) q⟩⟩
    · exact ⟨a, ws, rfl, .inr ⟨s, k _ H _ m (.refl H) rm (.tup s r2) q⟩⟩
def dList : DC := fun ds m Q => match ds with
  | [d] => ∃ es, seqOf m d = some es ∧ ∀ p, m p = none → Q (.ref p) (mset m p (.lst es))
  | _ => False
theorem lc_list {K : PySem.W.Frag} : LC K (fun xs H Q => ∃ p ys, xs = [.ref p] ∧ (SqL K H p ys ∨ SqT K H p ys) ∧ ∀ l, H l = none → Q (.ref l) (upd H l (.lst ys))) dList := fun vs H ds m Qd Q rm r h k => by
  match ds, r, h with
  | [d], r, h =>
    obtain ⟨es, e, q⟩ := h
    obtain ⟨v, rfl, ra9⟩ := repL1 r
    obtain ⟨a, ws, rfl, s, r2⟩ := seq_rep rm ra9 e
    exact ⟨a, ws, rfl, s, fun l hl => k _ _ _ _ (.new hl) (rm.newL hl r2) (.ref l) (q l (rm.fresh hl))⟩
def dInt1 : DC := fun ds m Q => match ds with
  | [.int i] => Q (.int i) m
  | [.bl b] => Q (.int (if b then 1 else 0)) m
  | _ => False
theorem lc_int {K : PySem.W.Frag} : LC K (fun xs H Q => (∃ i, xs = [.int i] ∧ Q (.int i) H) ∨ ∃ k, xs = [.bl k] ∧ Q (.int (if k then 1 else 0)) H) dInt1 := fun vs H ds m Qd Q rm r h k => by
  match ds, r, h with
  | [.int i], r, h => obtain ⟨v, rfl, ra9⟩ := repL1 r; cases ra9; exact .inl ⟨i, rfl, k _ H _ m (.refl H) rm (.int _) h⟩
  | [.bl i], r, h => obtain ⟨v, rfl, ra9⟩ := repL1 r; cases ra9; exact .inr ⟨i, rfl, k _ H _ m (.refl H) rm (.int _) h⟩
def dTwo (g : Int → Int → Int) : DC := fun ds m Q => match ds with
  | [.int i, .int j] => Q (.int (g i j)) m
  | _ => False
theorem lc_two {K : PySem.W.Frag} {g : Int → Int → Int} : LC K (fun xs H Q => ∃ i j, xs = [.int i, .int j] ∧ Q (.int (g i j)) H) (dTwo g) := fun vs H ds m Qd Q rm r h k => by
  match ds, r, h with
  | [.int i, .int j], r, h => obtain ⟨v, u, rfl, ra9, ru9⟩ := repL2 r; cases ra9; cases ru9; exact ⟨i, j, rfl, k _ H _ m (.refl H) rm (.int _) h⟩
abbrev dMin2 : DC := dTwo fun i j => if j < i then j else i
abbrev dMax2 : DC := dTwo fun i j => if j > i then j else i
/-! isinstance(x, T) -/
def tyD (m : Mu) : D → Option String
  | .non => some "NoneType"
  | .bl _ => some "bool"
  | .int _ => some "int"
  | .str _ => some "str"
  | .tup _ => some "tuple"
  | .rol _ => some "list"
  | .ref a => match m a with | some (.lst _) => some "list" | _ => none
def isT (a T : String) : Bool := a == T || (a == "bool" && T == "int")
def knownT (T : String) : Bool := T == "bool" || T == "int" || T == "str" || T == "tuple" || T == "list"
theorem kitB_known : (["NoneType", "bool", "int", "str", "tuple", "list"].all fun a => ["bool", "int", "str", "tuple", "list"].all fun T => kitB a T == some (isT a T)) = true := by decide +kernel
theorem kit_known {m : Mu} {d : D} {a T : String} (h : tyD m d = some a) (hT : knownT T = true) : kitB a T = some (isT a T) := by
  have ha : a ∈ ["NoneType", "bool", "int", "str", "tuple", "list"] := by
    unfold tyD at h
    split at h
    · cases h; simp
    · cases h; simp
    · cases h; simp
    · cases h; simp
    · cases h; simp
    · cases h; simp
    · split at h
      · cases h; simp
      · cases h
  have hT' : T ∈ ["bool", "int", "str", "tuple", "list"] := by
    unfold knownT at hT
    simp only [Bool.or_eq_true, beq_iff_eq] at hT
    simp only [List.mem_cons, List.not_mem_nil, or_false]
    rcases hT with (((h | h) | h) | h) | h <;> simp [h]
  have z := List.all_eq_true.mp (List.all_eq_true.mp kitB_known a ha) T hT'
  exact eq_of_beq z
theorem tyx_of {K : PySem.W.Frag} {H : Hp} {m : Mu} {d : D} {v : V} {a : String} (rm : RM K H m) (r : Rep K H d v) (h : tyD m d = some a) : TyX K H v (.type a) := by
  cases r with
  | non => cases h; exact .base .non
  | bl b => cases h; exact .base (.bl b)
  | int i => cases h; exact .base (.int i)
  | str x => cases h; exact .base (.str x)
  | @tup ds p vs s q =>
    cases h
    rcases s with (s | ⟨o, s⟩) | ⟨o, xs9, n, s, c, _⟩
    · exact .base (.tup s)
    · exact .fTuple s
    · exact .kTuple s c
  | rol s q =>
    cases h
    rcases s with ⟨o, s⟩ | ⟨o, xs9, n, s, c, _⟩
    · exact .base (.frz s)
    · exact .kList s c
  | ref p =>
    unfold tyD at h
    cases e : m p with
    | none => simp only [e] at h; cases h
    | some o =>
      have q := rm p o e
      cases o with
      | lst es => simp only [e] at h; cases h; obtain ⟨vs, e2, _⟩ := q; exact .base (.lst e2)
      | _ => simp only [e] at h; cases h
def dIsi (T : String) (de : DE) : DE := fun s m Q => de s m fun x m1 => ∃ a, tyD m1 x = some a ∧ Q (.bl (isT a T)) m1
theorem ge_isi {T : String} {p q pos : Pos} {e : Expr} {y : Str} {de : DE} (hT : knownT T = true) (hg : Gl X "isinstance") (ma9 : X.mg "isinstance" = none) (he : GE X e de) (hgy : Gl X y) (hmy : X.mg y = none) (hvy : bootBuiltins y = some (.type T))
    (hny : y ≠ "__name__" := by decide) (hdy : (y == ("__debug__" : Str)) = false := by decide)
    (hs1 : starEach [e, .Name y q] X.env = (false, eval e X.env) :: starEach [.Name y q] X.env := by rfl) (hs2 : starEach [.Name y q] X.env = (false, eval (.Name y q) X.env) :: starEach [] X.env := by rfl)
    (hpl : (backTo pos (starEach [.Name y q] X.env)).any (·.1) = false := by rfl) (hv : bootBuiltins "isinstance" = some (.builtin "isinstance") := by decide +kernel) :
    GE X (.Call (.Name "isinstance" p) [e, .Name y q] [] pos) (dIsi T de) := by
  obtain ⟨te, pt, l⟩ := he.ex
  refine .of ⟨_, pe_callB call_isi hg ma9 hv (pa_cons pt (pa_cons (pe_bltn (v := .ty T) hgy hmy hvy rfl hny hdy) pa_nil hs2) hs1) (by decide) (by decide) hs1 hpl, fun s H sd m Qd Q rs rm h k => ?_⟩
  refine l s H sd m _ _ rs rm h fun v H1 dv m1 t1 rm1 r1 h1 => ?_
  obtain ⟨a, e1, h2⟩ := h1
  exact ⟨v, .ty T, .type a, .type T, isT a T, rfl, .ty T, tyx_of rm1 r1 e1, kit_ty (kit_known e1 hT), k _ H1 _ m1 t1 rm1 (.bl _) h2⟩
/-! sorted(list of pairs of ints) -/
def IsP (K : PySem.W.Frag) (H : Hp) (x : V) (p : Int × Int) : Prop := ∃ t, x = V.ref t ∧ SqT K H t [.int p.1, .int p.2]
def pLe (p q : Int × Int) : Prop := p.1 < q.1 ∨ (p.1 = q.1 ∧ p.2 ≤ q.2)
def rSortedPS (K : PySem.W.Frag) : List V → Hp → VK → Prop := fun vs H Q => ∃ (a : Addr) (xs : List V) (ps : List (Int × Int)), vs = [V.ref a] ∧ SqL K H a xs ∧ Paired (IsP K H) xs ps ∧
  ∀ ys qs p, Paired (IsP K H) ys qs → qs.Perm ps → qs.Pairwise pLe → H p = none → Q (.ref p) (upd H p (.lst ys))
theorem paired_map {K : PySem.W.Frag} {H : Hp} {k : V → Int × Int} : ∀ {ys : List V}, (∀ y ∈ ys, IsP K H y (k y)) → Paired (IsP K H) ys (ys.map k)
  | [], _ => .nil
  | y :: ys, h => .cons (h y (List.mem_cons_self ..)) (paired_map fun z hs9 => h z (List.mem_cons_of_mem _ hs9))
theorem cr_sortedPS : CallR X (.builtin "sorted") (rSortedPS X.K) := by
  intro pz s τ H vs us Q I r h
  obtain ⟨a, xs, ps, rfl, hs, hpr, q⟩ := h
  have uq : ∀ x p p', IsP X.K H x p → IsP X.K H x p' → p = p' := fun x p p' ⟨t, e, h1⟩ ⟨t', e', h2⟩ => by
    subst e
    cases e'
    have z := I.tuple_inj h1 h2
    injection z with z1 z2
    injection z2 with z2 _
    injection z1 with z1
    injection z2 with z2
    exact Prod.ext z1 z2
  obtain ⟨k, hk⟩ : ∃ k : V → Int × Int, ∀ x p, IsP X.K H x p → k x = p := by
    refine ⟨fun x => @dite _ (∃ p, IsP X.K H x p) (Classical.propDecidable _) (fun h => Classical.choose h) fun _ => (0, 0), fun x p h => ?_⟩
    have e : ∃ p, IsP X.K H x p := ⟨p, h⟩
    show @dite _ (∃ p, IsP X.K H x p) (Classical.propDecidable _) (fun h => Classical.choose h) (fun _ => (0, 0)) = p
    rw [dif_pos e]
    exact uq x _ _ (Classical.choose_spec e) h
  have xa9 : ∀ x ∈ xs, IsP X.K H x (k x) := by
    clear q hs
    induction hpr with
    | nil => intro x xa9; cases xa9
    | cons h1 h2 ih =>
      intro x xa9
      rcases List.mem_cons.mp xa9 with rfl | xa9
      · rw [hk _ _ h1]; exact h1
      · exact ih x xa9
  have hps : xs.map k = ps := by
    clear q hs xa9
    induction hpr with
    | nil => rfl
    | cons h1 h2 ih => rw [List.map_cons, hk _ _ h1, ih]
  obtain ⟨xs9, ra9, hl, hs9⟩ := I.list hs
  obtain ⟨u, rfl, ru9⟩ := vals1 r
  obtain rfl : u = Value.ref a := ru9
  obtain ⟨e1, e2⟩ := refs_back ra9 fun x m => by
    obtain ⟨t, e, _⟩ := xa9 x m
    exact ⟨t, e⟩
  refine SrtO.sorted_pairsO (k := fun u => k (backV u)) hl.isList (by rw [← ra9.length]; exact hs9) (fun v hv => ?_) fun h' d out h1 h2 kp da9 hn => ?_
  · obtain ⟨t, rfl⟩ := e2 v hv
    have ma9 : V.ref t ∈ xs := by rw [e1]; exact List.mem_map.mpr ⟨_, hv, rfl⟩
    obtain ⟨t', e, ht⟩ := xa9 _ ma9
    cases e
    obtain ⟨ys9, r2, ⟨o, ho, ca9, n, da9⟩, _⟩ := I.tuple ht
    obtain ⟨ua9, ub9, rfl, ri9, rj9⟩ := vals2 r2
    obtain ⟨t1, rfl⟩ := ri9
    obtain ⟨t2, rfl⟩ := rj9
    exact ⟨t, o, t1, t2, n, rfl, ho, ca9, da9⟩
  · have hc9 : ∀ u ∈ out, ∃ a, u = Value.ref a := fun u hu => e2 u (h2.perm.mem_iff.mp hu)
    obtain ⟨n, hn⟩ := hn
    have ba9 : SrtO.Stb (ltP k) (out.map backV) xs := by
      rw [e1]
      exact SrtO.Stb.map (ltP_swo k) backV h2
    have hs' : SrtO.Srtd (ltP k) (out.map backV) := SrtO.srtd_map h1
    refine ⟨.ref d, upd H d (.lst (out.map backV)), I.laid (t' := s.toks) kp da9 ⟨?_, out, n, vals_back hc9, hn⟩, rfl, q _ ((out.map backV).map k) d (paired_map fun y hy => xa9 y (ba9.perm.mem_iff.mp hy)) (by rw [← hps]; exact ba9.perm.map k) ?_ (I.hok.fresh da9)⟩
    · rw [ba9.len]
      exact hs9
    · refine List.pairwise_map.mpr (hs'.imp fun {x y} h => ?_)
      have z := SrtO.lexB_no.mp h
      unfold pLe
      omega
def pD (p : Int × Int) : D := .tup [.int p.1, .int p.2]
def dSortP : DC := fun ds m Q => match ds with
  | [.ref a] => ∃ ps : List (Int × Int), seqOf m (.ref a) = some (ps.map pD) ∧ ∀ qs : List (Int × Int), qs.Perm ps → qs.Pairwise pLe → ∀ p, m p = none → Q (.ref p) (mset m p (.lst (qs.map pD)))
  | _ => False
theorem isP_of {K : PySem.W.Frag} {H : Hp} : ∀ {ps : List (Int × Int)} {vs : List V}, RepL K H (ps.map pD) vs → Paired (IsP K H) vs ps
  | [], _, r => by rw [List.map_nil] at r; cases r; exact .nil
  | p :: ps, _, r => by
    rw [List.map_cons] at r
    cases r with
    | cons a b =>
      refine .cons ?_ (isP_of b)
      unfold pD at a
      cases a with
      | tup s r =>
        cases r with
        | cons r1 r2 =>
          cases r1
          cases r2 with
          | cons r3 r4 =>
            cases r3
            cases r4
            exact ⟨_, rfl, s⟩
theorem of_isP {K : PySem.W.Frag} {H : Hp} : ∀ {ps : List (Int × Int)} {vs : List V}, Paired (IsP K H) vs ps → RepL K H (ps.map pD) vs
  | _, _, .nil => .nil
  | _, _, .cons ⟨t, e, h⟩ b => by subst e; exact .cons (.tup h (.cons (.int _) (.cons (.int _) .nil))) (of_isP b)
theorem lc_sortP {K : PySem.W.Frag} : LC K (rSortedPS K) dSortP := fun vs H ds m Qd Q rm r h k => by
  match ds, r, h with
  | [.ref a], r, h =>
    obtain ⟨ps, e, q⟩ := h
    obtain ⟨v, rfl, ra9⟩ := repL1 r
    cases ra9
    obtain ⟨ws, sl, r2⟩ := ref_rep rm e
    exact ⟨a, ws, ps, rfl, sl, isP_of r2, fun ys qs p h1 h2 hc9 hp => k _ _ _ _ (.new hp) (rm.newL hp (of_isP h1)) (.ref p) (q qs h2 hc9 p (rm.fresh hp))⟩
end
end PD

set_option Elab.async false
set_option linter.all false
set_option maxRecDepth 100000
set_option maxHeartbeats 4000000
namespace PD
open PySem PySem.Spec PyProof.Rows L2
section
variable {X : Cx}
/-! ### methods of lists -/
abbrev DM := D → List D → Mu → DK → Prop
def LM (K : PySem.W.Frag) (r : V → List V → Hp → VK → Prop) (d : DM) : Prop := ∀ x vs H dx ds m (Qd : DK) (Q : VK), RM K H m → Rep K H dx x → RepL K H ds vs → d dx ds m Qd →
  (∀ v H' dv m', TX H H' → RM K H' m' → Rep K H' dv v → Qd dv m' → Q v H') → r x vs H Q
def dBM0 (d : DM) (a : DE) : DE := fun s m Q => a s m fun x m1 => (∃ a ds, lstOf m1 x = some (a, ds)) ∧ d x [] m1 Q
def dBM (d : DM) (a : DE) (b : DA) : DE := fun s m Q => a s m fun x m1 => (∃ a ds, lstOf m1 x = some (a, ds)) ∧ b s m1 fun ds m2 => d x ds m2 Q
theorem ty_lst {K : PySem.W.Frag} {H : Hp} {m : Mu} {d : D} {v : V} (rm : RM K H m) (r : Rep K H d v) (h : ∃ a ds, lstOf m d = some (a, ds)) : tyV K "list" v H := by
  obtain ⟨a, ds, e⟩ := h
  obtain ⟨rfl, _, _, vs, e2, _⟩ := lst_rep rm r e
  exact .inl ⟨rfl, _, SqL.of e2⟩
theorem ge_bm0 {o : Expr} {name : Str} {id : String} {apos cpos : Pos} {r : V → List V → Hp → VK → Prop} {d : DM} {da : DE} (slot : Slot "list" name id) (hty : typeOf (.builtin id) = pure (.type "method_descriptor")) (hm : MtR X id r) (lm : LM X.K r d) (ho : GE X o da)
    (base9 : attributeBase o name X.env (eval o X.env) = eval o X.env := by rfl) (line9 : (apos.endLine == cpos.line) = true := by rfl) : GE X (.Call (.Attribute o name apos) [] [] cpos) (dBM0 d da) := by
  obtain ⟨ta, p, l⟩ := ho.ex
  refine .of ⟨_, pe_bm0 PySem.F.plainAttrs_list slot hty hm p base9 line9, fun s H sd m Qd Q rs rm h k => ?_⟩
  refine l s H sd m _ _ rs rm h fun v H1 dv m1 t1 rm1 r1 h1 => ?_
  exact ⟨ty_lst rm1 r1 h1.1, lm v [] H1 dv [] m1 Qd Q rm1 r1 .nil h1.2 fun v' H' dv' m' t' a b c => k v' H' dv' m' (t1.trans t') a b c⟩
theorem ge_bm {o e : Expr} {es : List Expr} {name : Str} {id : String} {apos cpos : Pos} {r : V → List V → Hp → VK → Prop} {d : DM} {da : DE} {db : DA} (slot : Slot "list" name id) (hty : typeOf (.builtin id) = pure (.type "method_descriptor")) (hm : MtR X id r) (lm : LM X.K r d) (ho : GE X o da) (ha : GA X (e :: es) db)
    (base9 : attributeBase o name X.env (eval o X.env) = eval o X.env := by rfl)
    (few9 : ((backTo cpos (starEach (e :: es) X.env)).all (fun x => !x.1) && (backToKw cpos (keywordEach [] X.env)).all (fun x => x.1.isSome)
      && decide ((e :: es).length + ([] : List Keyword).length + (if ([] : List Keyword).isEmpty then 0 else 1) < 30)) = true := by rfl)
    (line9 : (apos.endLine == cpos.line) = true := by rfl) (hs : starEach (e :: es) X.env = (false, eval e X.env) :: starEach es X.env := by rfl) (plain9 : (backTo cpos (starEach es X.env)).any (·.1) = false := by rfl) :
    GE X (.Call (.Attribute o name apos) (e :: es) [] cpos) (dBM d da db) := by
  obtain ⟨ta, p, l⟩ := ho.ex
  obtain ⟨tb, q, l2⟩ := ha.ex
  refine .of ⟨_, pe_bm PySem.F.plainAttrs_list slot hty hm p q base9 few9 line9 hs plain9, fun s H sd m Qd Q rs rm h k => ?_⟩
  refine l s H sd m _ _ rs rm h fun v H1 dv m1 t1 rm1 r1 h1 => ?_
  refine ⟨ty_lst rm1 r1 h1.1, l2 s H1 sd m1 _ _ (rs.mono t1) rm1 h1.2 fun vs H2 ds m2 t2 rm2 r2 h2 => ?_⟩
  exact lm v vs H2 dv ds m2 Qd Q rm2 (r1.mono t2) r2 h2 fun v' H' dv' m' t' a b c => k v' H' dv' m' (t1.trans (t2.trans t')) a b c
def dAppend : DM := fun x ds m Q => match ds with
  | [d] => ∃ a es, lstOf m x = some (a, es) ∧ es.length < sizeLine ∧ Q .non (mset m a (.lst (es ++ [d])))
  | _ => False
theorem lm_append {K : PySem.W.Frag} : LM K rAppend dAppend := fun x vs H dx ds m Qd Q rm rx r h k => by
  match ds, r, h with
  | [d], r, h =>
    obtain ⟨a, es, e, hs9, q⟩ := h
    obtain ⟨rfl, rfl, _, ws, e2, r2⟩ := lst_rep rm rx e
    obtain ⟨v, rfl, ra9⟩ := repL1 r
    exact ⟨a, ws, v, rfl, rfl, e2, by rw [← r2.length]; exact hs9, k _ _ _ _ (.lst e2) (rm.setL e2 (r2.append (.cons ra9 .nil))) .non q⟩
def seqW (m : Mu) : D → Option (List D)
  | .tup ds => some ds
  | .ref a => match m a with | some (.lst ds) => some ds | _ => none
  | _ => none
def dExtend : DM := fun x ds m Q => match ds with
  | [d] => ∃ a es zs, lstOf m x = some (a, es) ∧ seqW m d = some zs ∧ es.length + zs.length ≤ sizeLine ∧ Q .non (mset m a (.lst (es ++ zs)))
  | _ => False
def rExtendT (K : PySem.W.Frag) : V → List V → Hp → VK → Prop := fun x vs H Q => ∃ l b xs zs, x = .ref l ∧ vs = [.ref b] ∧ H l = some (.lst xs) ∧ (SqL K H b zs ∨ SqT K H b zs) ∧ xs.length + zs.length ≤ sizeLine ∧ Q .non (upd H l (.lst (xs ++ zs)))
def dPop : DM := fun x ds m Q => match ds with
  | [] => ∃ a es d, lstOf m x = some (a, es) ∧ es[es.length - 1]? = some d ∧ Q d (mset m a (.lst es.dropLast))
  | [.int i] => ∃ a es, lstOf m x = some (a, es) ∧ -(2 ^ 63) ≤ i ∧ i < 2 ^ 63 ∧ ∃ k, seqIndex? i es.length = some k ∧ ∃ d, es[k]? = some d ∧ Q d (mset m a (.lst (es.eraseIdx k)))
  | _ => False
theorem mt_popU : MtM X "list.pop" (fun x xs H Q => rPop x xs H Q ∨ rPopAt x xs H Q) := fun pz s τ H x xs v us Q I rx ra9 h => by
  rcases h with h | h
  · exact mt_pop pz s τ H x xs v us Q I rx ra9 h
  · exact mt_popAt pz s τ H x xs v us Q I rx ra9 h
theorem lm_pop {K : PySem.W.Frag} : LM K (fun x xs H Q => rPop x xs H Q ∨ rPopAt x xs H Q) dPop := fun x vs H dx ds m Qd Q rm rx r h k => by
  match ds, r, h with
  | [], r, h =>
    obtain ⟨a, es, d, e, e1, q⟩ := h
    obtain ⟨rfl, rfl, _, ws, e2, r2⟩ := lst_rep rm rx e
    cases r
    obtain ⟨v, e3, ra9⟩ := r2.get e1
    rw [r2.length] at e3
    exact .inl ⟨a, ws, v, rfl, rfl, e2, e3, k _ _ _ _ (.lst e2) (rm.setL e2 r2.dropLast) (ra9.mono (.lst e2)) q⟩
  | [.int i], r, h =>
    obtain ⟨a, es, e, h1, h2, j, e3, d, e4, q⟩ := h
    obtain ⟨rfl, rfl, _, ws, e2, r2⟩ := lst_rep rm rx e
    obtain ⟨v, rfl, ra9⟩ := repL1 r
    cases ra9
    obtain ⟨u, e5, ru⟩ := r2.get e4
    rw [r2.length] at e3
    exact .inr ⟨a, ws, i, j, u, rfl, rfl, e2, h1, h2, e3, e5, k _ _ _ _ (.lst e2) (rm.setL e2 (r2.erase j)) (ru.mono (.lst e2)) q⟩
/-! ### calls of own functions -/
abbrev SpD := List D → Mu → DK → Prop
def spL (K : PySem.W.Frag) (n : Nat) (sd : SpD) : Sp := fun vs H Q _ => ∃ ds m Qd, RepL K H ds vs ∧ RM K H m ∧ (ds.length = n ∧ sd ds m Qd) ∧ ∀ v H' dv m', TX H H' → RM K H' m' → Rep K H' dv v → Qd dv m' → Q v H'
def dCall (n : Nat) (sd : SpD) (a : DA) : DE := fun s m Q => a s m fun ds m1 => ds.length = n ∧ sd ds m1 Q
theorem ge_call {k n : Nat} {f : Addr} {fd : FuncData} {ps : List Str} {sd : SpD} {x : Str} {p pos : Pos} {e : Expr} {es : List Expr} {da : DA} (F : FnOk X.prog X.w X.K X.mg X.base CX0 k f fd ps (spL X.K n sd)) (hr : Room k X.A) (hg : Gl X x) (hm : X.mg x = some (.ref f)) (hk : PySem.W.keepIn X.K (.ref f) = true) (hb : Binds X.K fd ps [])
    (ha : GA X (e :: es) da) (hdb : (x == ("__debug__" : Str)) = false := by decide) (he : starEach (e :: es) X.env = (false, eval e X.env) :: starEach es X.env := by rfl) (hpl : (backTo pos (starEach es X.env)).any (·.1) = false := by rfl) :
    GE X (.Call (.Name x p) (e :: es) [] pos) (dCall n sd da) := by
  obtain ⟨ta, q, l⟩ := ha.ex
  refine .of ⟨_, pe_call F hr hg hm hk hb .nil pass0 q hdb he hpl, fun s H sd' m Qd Q rs rm h k => ?_⟩
  refine l s H sd' m _ _ rs rm h fun vs H1 ds m1 t1 rm1 r1 h1 => ?_
  show spL X.K n sd (vs ++ []) H1 Q E0
  rw [List.append_nil]
  exact ⟨ds, m1, Qd, r1, rm1, h1, fun v' H' dv' m' t' a b c => k v' H' dv' m' (t1.trans t') a b c⟩
/-! f(k = e, ..): keywords alone, in the parameters' order -/
def GK (X : Cx) (kws : List Keyword) (d : DA) : Prop := ∃ t, PK X kws t ∧ LA X.K t d
theorem gk_nil : GK X [] dNil := ⟨_, pk_nil, fun _ H _ m _ _ _ rm h k => k [] H [] m (.refl H) rm .nil h⟩
theorem gk_cons {nm : Option Str} {e : Expr} {kpos : Pos} {kws : List Keyword} {de : DE} {dr : DA} (ha : GE X e de) (hr : GK X kws dr) : GK X (⟨nm, e, kpos⟩ :: kws) (dCons de dr) := by
  obtain ⟨te, p, l⟩ := ha.ex
  obtain ⟨tr, q, l2⟩ := hr
  refine ⟨_, pk_cons p q, fun s H sd m Qd Q rs rm h k => ?_⟩
  refine l s H sd m _ _ rs rm h fun v H1 dv m1 t1 rm1 r1 h1 => ?_
  exact l2 s H1 sd m1 _ _ (rs.mono t1) rm1 h1 fun vs H2 ds m2 t2 rm2 r2 h2 => k _ H2 _ m2 (t1.trans t2) rm2 (.cons (r1.mono t2) r2) h2
/-- keywords ks alone bind to the parameters ps in their order -/
def gK (n : Nat) (us ws : List Value) : List Value := if us.isEmpty = true then ws else List.replicate (n + 1) Value.none
def gKV (n : Nat) (vs zs : List V) : List V := if vs.isEmpty = true then zs else List.replicate (n + 1) V.non
def KwAll (K : PySem.W.Frag) (fd : FuncData) (ps ks : List Str) : Prop := KBinds K fd ps ks (gK ps.length) (gKV ps.length)
theorem ge_callK {k n : Nat} {f : Addr} {fd : FuncData} {ps ks : List Str} {sd : SpD} {x : Str} {p pos : Pos} {kws : List Keyword} {dk : DA} (F : FnOk X.prog X.w X.K X.mg X.base CX0 k f fd ps (spL X.K n sd)) (hr : Room k X.A) (hg : Gl X x) (hm : X.mg x = some (.ref f)) (hk : PySem.W.keepIn X.K (.ref f) = true) (hb : KwAll X.K fd ps ks)
    (hkw : GK X kws dk) (hall : (backToKw pos (keywordEach kws X.env)).all (·.1.isSome) = true := by rfl) (hks : (backToKw pos (keywordEach kws X.env)).filterMap (·.1) = ks := by rfl)
    (hdb : (x == ("__debug__" : Str)) = false := by decide) (hpl : ((backTo pos (starEach [] X.env)).any (·.1) || (backToKw pos (keywordEach kws X.env)).any (·.1.isNone)) = false := by rfl) :
    GE X (.Call (.Name x p) [] kws pos) (dCall n sd dk) := by
  obtain ⟨tk, q, l⟩ := hkw
  have P : PE X (.Call (.Name x p) [] kws pos) (fun τ H Q => tk τ H fun zs H2 => spL X.K n sd zs H2 Q E0) := by
    refine ⟨fun pz s τ H Q I h => ?_⟩
    refine wpAny_Call_Name_kw (ld_glob I hg hm ?_ hdb)
    refine PySem.W.callWith_KW0 (h₀ := X.base) I.ok.mod.kin hk hall (thn (q.run pos pz s τ H _ I h) fun ws tB ⟨zs, H2, iB, rz, q2⟩ => ⟨iB.kIn, ?_⟩) hpl
    rw [hks]
    exact run_fnk (us := []) (vs := []) F hr hb pass0 iB .nil rz q2
  refine .of ⟨_, P, fun s H sd' m Qd Q rs rm h k => ?_⟩
  refine l s H sd' m _ _ rs rm h fun vs H1 ds m1 t1 rm1 r1 h1 => ?_
  exact ⟨ds, m1, Qd, r1, rm1, h1, fun v' H' dv' m' t' a b c => k v' H' dv' m' (t1.trans t') a b c⟩
/-! ### and, or, not, if .. else -/
def dAnd (t u : DT) : DT := fun s m Q => t s m fun c m1 => if c = true then u s m1 Q else Q false m1
def dOr (t u : DT) : DT := fun s m Q => t s m fun c m1 => if c = true then Q true m1 else u s m1 Q
def dNot (t : DT) : DT := fun s m Q => t s m fun c m1 => Q (!c) m1
theorem LT.and {K : PySem.W.Frag} {t u : TT} {dt du : DT} (l : LT K t dt) (l2 : LT K u du) : LT K (tAnd t u) (dAnd dt du) := fun s H sd m Qd Q rs rm h k => by
  refine l s H sd m _ _ rs rm h fun b H1 m1 t1 rm1 h1 => ?_
  cases b with
  | true => exact l2 s H1 sd m1 _ _ (rs.mono t1) rm1 h1 fun b H2 m2 t2 rm2 h2 => k b H2 m2 (t1.trans t2) rm2 h2
  | false => exact k false H1 m1 t1 rm1 h1
theorem LT.or {K : PySem.W.Frag} {t u : TT} {dt du : DT} (l : LT K t dt) (l2 : LT K u du) : LT K (tOr t u) (dOr dt du) := fun s H sd m Qd Q rs rm h k => by
  refine l s H sd m _ _ rs rm h fun b H1 m1 t1 rm1 h1 => ?_
  cases b with
  | true => exact k true H1 m1 t1 rm1 h1
  | false => exact l2 s H1 sd m1 _ _ (rs.mono t1) rm1 h1 fun b H2 m2 t2 rm2 h2 => k b H2 m2 (t1.trans t2) rm2 h2
theorem gw_and1 {a : Expr} {pos : Pos} {d : DT} (h : GT X a d) : GW X (.BoolOp .And [a] pos) d := let ⟨t, p, l⟩ := h.ex; ⟨_, pw_and1 p, l⟩
theorem gw_or1 {a : Expr} {pos : Pos} {d : DT} (h : GT X a d) : GW X (.BoolOp .Or [a] pos) d := let ⟨t, p, l⟩ := h.ex; ⟨_, pw_or1 p, l⟩
theorem gw_and {a b : Expr} {rest : List Expr} {pos : Pos} {d d2 : DT} (h : GT X a d) (h2 : GW X (.BoolOp .And (b :: rest) pos) d2) : GW X (.BoolOp .And (a :: b :: rest) pos) (dAnd d d2) := by
  obtain ⟨t, p, l⟩ := h.ex
  obtain ⟨u, q, l2⟩ := h2.ex
  exact ⟨_, pw_and p q, l.and l2⟩
theorem gw_or {a b : Expr} {rest : List Expr} {pos : Pos} {d d2 : DT} (h : GT X a d) (h2 : GW X (.BoolOp .Or (b :: rest) pos) d2) : GW X (.BoolOp .Or (a :: b :: rest) pos) (dOr d d2) := by
  obtain ⟨t, p, l⟩ := h.ex
  obtain ⟨u, q, l2⟩ := h2.ex
  exact ⟨_, pw_or p q, l.or l2⟩
theorem gt_not {a : Expr} {pos : Pos} {d : DT} (h : GT X a d) : GT X (.UnaryOp .Not a pos) (dNot d) := by
  obtain ⟨t, p, l⟩ := h.ex
  exact .of ⟨_, pt_not p, fun s H sd m Qd Q rs rm h k => l s H sd m _ _ rs rm h fun b H1 m1 t1 rm1 h1 => k (!b) H1 m1 t1 rm1 h1⟩
def dAndV (a b : DE) : DE := fun s m Q => a s m fun x m1 => match x with | .bl c => if c = true then b s m1 Q else Q (.bl false) m1 | _ => False
def dOrV (a b : DE) : DE := fun s m Q => a s m fun x m1 => match x with | .bl c => if c = true then Q (.bl true) m1 else b s m1 Q | _ => False
def dNotV (a : DE) : DE := fun s m Q => a s m fun x m1 => match x with | .bl c => Q (.bl (!c)) m1 | _ => False
theorem ge_one {op} {a : Expr} {pos : Pos} {d : DE} (h : GE X a d) : GE X (.BoolOp op [a] pos) d := let ⟨t, p, l⟩ := h.ex; .of ⟨_, pe_one p, l⟩
theorem ge_and {a b : Expr} {rest : List Expr} {pos : Pos} {d d2 : DE} (h : GE X a d) (h2 : GE X (.BoolOp .And (b :: rest) pos) d2) : GE X (.BoolOp .And (a :: b :: rest) pos) (dAndV d d2) := by
  obtain ⟨t, p, l⟩ := h.ex
  obtain ⟨u, q, l2⟩ := h2.ex
  refine .of ⟨_, pe_and p q, fun s H sd m Qd Q rs rm h k => ?_⟩
  refine l s H sd m _ _ rs rm h fun v H1 dv m1 t1 rm1 r1 h1 => ?_
  cases r1 with
  | bl c =>
    refine ⟨c, rfl, ?_⟩
    cases c with
    | true => exact l2 s H1 sd m1 _ _ (rs.mono t1) rm1 h1 fun b H2 dv m2 t2 rm2 r2 h2 => k b H2 dv m2 (t1.trans t2) rm2 r2 h2
    | false => exact k _ H1 _ m1 t1 rm1 (.bl _) h1
  | _ => exact h1.elim
theorem ge_or {a b : Expr} {rest : List Expr} {pos : Pos} {d d2 : DE} (h : GE X a d) (h2 : GE X (.BoolOp .Or (b :: rest) pos) d2) : GE X (.BoolOp .Or (a :: b :: rest) pos) (dOrV d d2) := by
  obtain ⟨t, p, l⟩ := h.ex
  obtain ⟨u, q, l2⟩ := h2.ex
  refine .of ⟨_, pe_or p q, fun s H sd m Qd Q rs rm h k => ?_⟩
  refine l s H sd m _ _ rs rm h fun v H1 dv m1 t1 rm1 r1 h1 => ?_
  cases r1 with
  | bl c =>
    refine ⟨c, rfl, ?_⟩
    cases c with
    | true => exact k _ H1 _ m1 t1 rm1 (.bl _) h1
    | false => exact l2 s H1 sd m1 _ _ (rs.mono t1) rm1 h1 fun b H2 dv m2 t2 rm2 r2 h2 => k b H2 dv m2 (t1.trans t2) rm2 r2 h2
  | _ => exact h1.elim
theorem ge_not {a : Expr} {pos : Pos} {d : DE} (h : GE X a d) : GE X (.UnaryOp .Not a pos) (dNotV d) := by
  obtain ⟨t, p, l⟩ := h.ex
  refine .of ⟨_, pe_not p, fun s H sd m Qd Q rs rm h k => ?_⟩
  refine l s H sd m _ _ rs rm h fun v H1 dv m1 t1 rm1 r1 h1 => ?_
  cases r1 with
  | bl c => exact ⟨c, rfl, k _ H1 _ m1 t1 rm1 (.bl _) h1⟩
  | _ => exact h1.elim
def dIfE (t : DT) (a b : DE) : DE := fun s m Q => t s m fun c m1 => if c = true then a s m1 Q else b s m1 Q
theorem ge_ifE {c a b : Expr} {pos : Pos} {t : DT} {da db : DE} (h : GT X c t) (ha : GE X a da) (hb : GE X b db) : GE X (.IfExp c a b pos) (dIfE t da db) := by
  obtain ⟨tt, p, l⟩ := h.ex
  obtain ⟨ta, q, l2⟩ := ha.ex
  obtain ⟨tb, q2, l3⟩ := hb.ex
  refine .of ⟨_, pe_ifExp p q q2, fun s H sd m Qd Q rs rm h k => ?_⟩
  refine l s H sd m _ _ rs rm h fun b H1 m1 t1 rm1 h1 => ?_
  cases b with
  | true => exact l2 s H1 sd m1 _ _ (rs.mono t1) rm1 h1 fun b H2 dv m2 t2 rm2 r2 h2 => k b H2 dv m2 (t1.trans t2) rm2 r2 h2
  | false => exact l3 s H1 sd m1 _ _ (rs.mono t1) rm1 h1 fun b H2 dv m2 t2 rm2 r2 h2 => k b H2 dv m2 (t1.trans t2) rm2 r2 h2
/-! a list, a tuple, a number, a text as a test -/
def truD (m : Mu) : D → Option Bool
  | .non => some false
  | .bl b => some b
  | .int i => some (i != 0)
  | d => (seqOf m d).map fun ds => !ds.isEmpty
def dTru (a : DE) : DT := fun s m Q => a s m fun x m1 => ∃ b, truD m1 x = some b ∧ Q b m1
end
end PD

set_option Elab.async false
set_option linter.all false
set_option maxRecDepth 100000
set_option maxHeartbeats 4000000
namespace PD
open PySem PySem.Spec PyProof.Rows L2 HT
section
variable {pg9 : Program} {w : World} {A : Around} {E : Value → Shared → Prop} {s : Shared}
theorem rev_places (n : Nat) : Builtin.Slice.slicePlaces ((n : Int) - 1) (-1) (-1) = n := by
  unfold Builtin.Slice.slicePlaces
  rw [if_neg (by omega)]
  by_cases h : (n : Int) - 1 > -1
  · rw [if_pos h, show -(-1 : Int) = 1 from rfl, Int.ediv_one]; omega
  · rw [if_neg h]; omega
theorem sliceApplied_rev {sc9 : Addr} {vl vu vs : Value} {n : Nat} {Q : Int × Int × Nat → Shared → Prop} (hs : s.heap.IsSliceOf sc9 vl vu vs) (pl : IsPart vl none) (pu : IsPart vu none) (ps : IsPart vs (some (-1)))
    (h : Q ((n : Int) - 1, -1, n) s) : wpAny (model pg9 w) A (Builtin.Slice.sliceApplied (.ref sc9) (pure (n : Int))) Q E s := by
  obtain ⟨os, uos, ucs, uds⟩ := id hs
  unfold Builtin.Slice.sliceApplied Builtin.Slice.sliceFields
  refine wpAny_bind (wpAny_bind (wpAny_field uos uds (x := vl) rfl (wpAny_bind (wpAny_field uos uds (x := vu) rfl (wpAny_bind (wpAny_field uos uds (x := vs) rfl (wpAny_pure ?_)))))))
  refine wpAny_bind (slicePart_ ps ?_)
  show wpAny _ _ (if ((-1 : Int) == 0) = true then _ else _) _ _ s
  rw [if_neg (by decide)]
  refine wpAny_bind (slicePart_ pl (wpAny_bind (slicePart_ pu (wpAny_bind (wpAny_pure ?_)))))
  show wpAny _ _ (match Builtin.Slice.sliceAdjust none none (-1) (n : Int) with | (lo, hi) => pure (lo, (-1 : Int), Builtin.Slice.slicePlaces lo hi (-1))) _ _ s
  have e : Builtin.Slice.sliceAdjust none none (-1) (n : Int) = ((n : Int) - 1, -1) := rfl
  rw [e]
  show wpAny _ _ (pure ((n : Int) - 1, (-1 : Int), Builtin.Slice.slicePlaces ((n : Int) - 1) (-1) (-1))) _ _ s
  rw [rev_places]
  exact wpAny_pure h
theorem fm_congr {α β : Type} {f g : α → Option β} : ∀ {l : List α}, (∀ x ∈ l, f x = g x) → l.filterMap f = l.filterMap g
  | [], _ => rfl
  | x :: l, h => by
    rw [List.filterMap_cons, List.filterMap_cons, h x (List.mem_cons_self ..), fm_congr fun y hy => h y (List.mem_cons_of_mem _ hy)]
theorem fm_get {α : Type} (l : List α) : (List.range l.length).filterMap (fun (m : Nat) => l[m]?) = l := by
  have h1 : (List.range l.length).map (fun (m : Nat) => l[m]?) = l.map some := by
    apply List.ext_getElem?
    intro j
    rw [List.getElem?_map, List.getElem?_map]
    by_cases hj : j < l.length
    · rw [List.getElem?_eq_getElem (by rw [List.length_range]; exact hj), List.getElem_range]
      show some l[j]? = Option.map some l[j]?
      rw [List.getElem?_eq_getElem hj]; rfl
    · rw [List.getElem?_eq_none (by rw [List.length_range]; omega), List.getElem?_eq_none (by omega)]; rfl
  have h2 : (List.range l.length).filterMap (fun (m : Nat) => l[m]?) = ((List.range l.length).map (fun (m : Nat) => l[m]?)).filterMap id := by
    rw [List.filterMap_map]; rfl
  rw [h2, h1, List.filterMap_map]
  show l.filterMap some = l
  exact List.filterMap_some
theorem pick_rev (xs : Array Value) : ((List.range xs.size).filterMap fun (m : Nat) => xs[(((xs.size : Int) - 1) + (m : Int) * (-1)).toNat]?).toArray = xs.toList.reverse.toArray := by
  congr 1
  have e : ∀ (m : Nat), m ∈ List.range xs.size → xs[(((xs.size : Int) - 1) + (m : Int) * (-1)).toNat]? = xs.toList.reverse[m]? := fun m hm => by
    have hm' : m < xs.size := List.mem_range.mp hm
    have : (((xs.size : Int) - 1) + (m : Int) * (-1)).toNat = xs.size - 1 - m := by omega
    rw [this, List.getElem?_reverse (by rw [Array.length_toList]; exact hm'), Array.getElem?_toList, Array.length_toList]
  rw [fm_congr e]
  have hl : xs.toList.reverse.length = xs.size := by rw [List.length_reverse, Array.length_toList]
  have z := fm_get xs.toList.reverse
  rw [hl] at z
  exact z
theorem getItem_tuple_rev {t sc9 : Addr} {gs9 : Array Value} {vl vu vs : Value} {Q : Value → Shared → Prop} (th9 : IsTup s.heap t gs9) (hs : s.heap.IsSliceOf sc9 vl vu vs) (pl : IsPart vl none) (pu : IsPart vu none) (ps : IsPart vs (some (-1)))
    (h : Q (.ref s.heap.objs.size) { s with heap := s.heap.push { cls := .type "tuple", data := .seq gs9.toList.reverse.toArray } })
    (sz9 : gs9.size ≤ sizeLine) : wpAny (model pg9 w) A (getItem (.ref t) (.ref sc9)) Q E s := by
  have take9 : sizeOk (.seq gs9.toList.reverse.toArray) := by
    show gs9.toList.reverse.toArray.size ≤ sizeLine
    rw [List.size_toArray, List.length_reverse, Array.length_toList]
    exact sz9
  obtain ⟨os, uos, ucs, uds⟩ := id hs
  have uTs : s.TypeIs (.ref sc9) "slice" := ⟨os, uos, ucs⟩
  unfold getItem
  try with_reducible refine wpAny_holding ?_
  first | refine wpAny_bind (wpAny_pure ?_) | skip
  refine wpAny_bind (wpAny_sequenceKey th9.typeIs (by decide) ?_)
  refine wpAny_bind (wpAny_callSpecial?_slot (name := Str.ofString "__getitem__") th9.typeIs PyProof.Rows.slot_tuple_getitem
    (wpAny_call_entry PyProof.Rows.slot_tuple_getitem th9.typeIs entry_tuple_getitem ?_ (args_tuple_getitem _ _)))
  show wpAny _ _ (Builtin.Tuple.tupleItemsOf (.ref t) >>= _) _ _ s
  refine wpAny_bind (tupleItemsOf_ th9 ?_)
  refine wpAny_bind (wpAny_typeOf uTs ?_)
  rw [if_pos (by decide)]
  refine wpAny_bind (sliceApplied_rev hs pl pu ps ?_)
  have hno : ¬ (((((gs9.size : Nat) : Int) - 1) == 0 && (-1 : Int) == 1 && gs9.size == gs9.size) = true) := by
    intro q
    rw [Bool.and_eq_true, Bool.and_eq_true] at q
    exact absurd (eq_of_beq q.1.2) (by decide)
  show wpAny _ _ (if ((((gs9.size : Nat) : Int) - 1) == 0 && (-1 : Int) == 1 && gs9.size == gs9.size) = true then _ else _) _ _ s
  rw [if_neg hno, pick_rev]
  first
    | exact wpAny_bind (m := Builtin.Tuple.tupleExact _) (wpAny_newObj_type (wpAny_pure ⟨_, rfl, wpAny_pure h⟩) take9)
    | exact wpAny_bind (m := Builtin.Tuple.tupleExact _) (wpAny_newObj_type (wpAny_bind (wpAny_pure (wpAny_pure ⟨_, rfl, wpAny_pure h⟩))) take9)
    | exact wpAny_bind (wpAny_bind (m := Builtin.Tuple.tupleExact _) (wpAny_newObj_type (wpAny_pure (wpAny_pure ⟨_, rfl, wpAny_pure h⟩)) take9))
    | exact wpAny_bind (wpAny_bind (m := Builtin.Tuple.tupleExact _) (wpAny_newObj_type (wpAny_pure ⟨_, rfl, wpAny_pure h⟩) take9))
end
section
variable {X : Cx}
/-! x[::-1] -/
def tRevS (K : PySem.W.Frag) (te : TE) : TE := fun τ H Q => te τ H fun x H1 => ∃ a xs, x = .ref a ∧ ((SqL K H1 a xs ∧ ∀ p, H1 p = none → Q (.ref p) (upd H1 p (.lst xs.reverse))) ∨ (SqT K H1 a xs ∧ ∀ p, H1 p = none → Q (.ref p) (upd H1 p (.tup xs.reverse))))
theorem pe_revS {e : Expr} {te : TE} {k : Nat} {p1 p2 p3 pos : Pos} (he : PE X e te) : PE X (.Subscript e (.Slice none none (some (.UnaryOp .USub (.Constant (.int 1) k p1) p2)) p3) pos) (tRevS X.K te) := by
  refine ⟨fun pz s τ H Q I h => ?_⟩
  refine Subscript_ (thn (he.run pz s τ H _ I h) fun v tA ⟨x, H1, iA, r1, q1⟩ => ?_)
  obtain ⟨a, xs, ex, q⟩ := q1
  subst ex
  cases r1
  have st9 : PO X (some (.UnaryOp .USub (.Constant (.int 1) k p1) p2)) (tPart (tUn (rU fun i => .int (-i)) (tC (.int 1)))) := po_some (pe_un un_neg pe_int)
  refine wpAny_Slice (thn (po_none.run pz tA τ H1 (fun o H2 => o = none ∧ H2 = H1) iA ⟨rfl, rfl⟩) fun vl tB ⟨l, H2, iB, pl, el, e2⟩ => ?_)
  subst el e2
  refine thn (po_none.run pz tB τ H2 (fun o H3 => o = none ∧ H3 = H2) iB ⟨rfl, rfl⟩) fun vu tC ⟨u, H3, iC, pu, eu, e3⟩ => ?_
  subst eu e3
  refine thn (st9.run pz tC τ H3 (fun o H4 => o = some (-1) ∧ H4 = H3) iC ⟨1, rfl, -1, rfl, rfl, rfl⟩) fun vs tD ⟨o, H4, iD, ps, eo, e4⟩ => ?_
  subst eo e4
  have iE : Inv X pz τ H4 { tD with heap := tD.heap.push { cls := .type "slice", data := .fields #[vl, vu, vs] } } := iD.kept (t' := tD.toks) fun b ob q => Heap.get?_push_of_some _ q
  show wpAny (model X.prog X.w) X.A (subscriptTail e (.Slice none none (some (.UnaryOp .USub (.Constant (.int 1) k p1) p2)) p3) (.ref a) (.ref tD.heap.objs.size)) (EP X pz τ Q) X.xe { tD with heap := tD.heap.push { cls := .type "slice", data := .fields #[vl, vu, vs] } }
  rcases q with ⟨hx, q⟩ | ⟨hx, q⟩
  · obtain ⟨xs9, r, th9, hs9⟩ := iE.list hx
    have hlen := r.length
    refine tail_any (ops := [.ref a, .ref tD.heap.objs.size]) th9.isList.typeIs (PySem.slot_list_getitem.lookup) ?_ (by with_unfolding_all rfl)
    refine wpAny_getItem_list_slice th9.isList (Heap.IsSliceOf.new _ vl vu vs) pl pu ps (by decide) ?_ (by rw [List.size_toArray]; omega)
    rw [PySem.W.krv_pick]
    refine ⟨.ref _, _, iE.laid (t' := tD.toks) (o := .lst xs.reverse) (fun b ob q => Heap.get?_push_of_some _ q) (Nat.le_refl _) ?_, rfl, q _ (iE.hok.fresh (Nat.le_refl _))⟩
    exact ⟨by rw [List.length_reverse]; exact hs9, _, 0, r.reverse, Heap.get?_push_size _ rfl⟩
  · obtain ⟨xs9, r, th9, hs9⟩ := iE.tuple hx
    have hlen := r.length
    refine tail_any (ops := [.ref a, .ref tD.heap.objs.size]) th9.typeIs (PyProof.Rows.slot_tuple_getitem.lookup) ?_ (by with_unfolding_all rfl)
    refine getItem_tuple_rev th9 (Heap.IsSliceOf.new _ vl vu vs) pl pu ps ?_ (by rw [List.size_toArray]; omega)
    refine ⟨.ref _, _, iE.laid (t' := tD.toks) (o := .tup xs.reverse) (fun b ob q => Heap.get?_push_of_some _ q) (Nat.le_refl _) ?_, rfl, q _ (iE.hok.fresh (Nat.le_refl _))⟩
    exact ⟨by rw [List.length_reverse]; exact hs9, _, r.reverse, ⟨_, Heap.get?_push_size _ rfl, rfl, _, rfl⟩⟩
def dRev (de : DE) : DE := fun s m Q => de s m fun x m1 => match x with
  | .tup ds => Q (.tup ds.reverse) m1
  | .ref a => ∃ ds, seqOf m1 (.ref a) = some ds ∧ ∀ p, m1 p = none → Q (.ref p) (mset m1 p (.lst ds.reverse))
  | _ => False
theorem ge_rev {e : Expr} {de : DE} {k : Nat} {p1 p2 p3 pos : Pos} (he : GE X e de) : GE X (.Subscript e (.Slice none none (some (.UnaryOp .USub (.Constant (.int 1) k p1) p2)) p3) pos) (dRev de) := by
  obtain ⟨te, p, l⟩ := he.ex
  refine .of ⟨_, pe_revS p, fun s H sd m Qd Q rs rm h k => ?_⟩
  refine l s H sd m _ _ rs rm h fun v H1 dv m1 t1 rm1 r1 h1 => ?_
  cases r1 with
  | @tup ds a vs sa ra => exact ⟨a, vs, rfl, .inr ⟨sa, fun p hp => k _ _ _ m1 (t1.trans (.new hp)) (rm1.skip hp) (.tup (SqT.of upd_same) (ra.rev.mono (.new hp))) h1⟩⟩
  | ref a =>
    obtain ⟨ds, e, q⟩ := h1
    obtain ⟨vs, sc9, r⟩ := ref_rep rm1 e
    exact ⟨a, vs, rfl, .inl ⟨sc9, fun p hp => k _ _ _ _ (t1.trans (.new hp)) (rm1.newL hp r.rev) (.ref p) (q p (rm1.fresh hp))⟩⟩
  | _ => exact h1.elim
/-! extend by a list or a tuple -/
theorem tup_plain {P : Program} {w : World} {h : Heap} {b : Addr} {xs9 : Array Value} (p : IsTup h b xs9) : ∃ o, h.get? b = some o ∧ o.cls = .type "tuple" ∧ ∃ n, o.data = .seq xs9 n := p
def rExtendU (K : PySem.W.Frag) : V → List V → Hp → VK → Prop := fun x vs H Q => ∃ l b xs zs, x = .ref l ∧ vs = [.ref b] ∧ H l = some (.lst xs) ∧ (H b = some (.lst zs) ∨ SqT K H b zs) ∧ xs.length + zs.length ≤ sizeLine ∧ Q .non (upd H l (.lst (xs ++ zs)))
theorem pd_extend_tuple (l : Addr) (gs9 : Array Value) (n : Nat) (b : Addr) (gt9 : Array Value) (n2 : Nat) (dd : Option Addr) (sc9 : Array (Option Value)) (hs0 : ¬(!gs9.isEmpty && Builtin.List.listTooLong (gs9.size + gt9.size)) = true) (hs1 : gs9.size ≤ sizeLine) (hs2 : gs9.size + gt9.size ≤ sizeLine + 1) :
    Meets (Builtin.«list.extend» ⟨[.ref l, .ref b], []⟩) (fun _ R s => s.heap.get? l = some { cls := .type "list", dict := none, data := .seq gs9 n, slots := #[] } ∧ s.heap.get? b = some { cls := .type "tuple", dict := dd, data := .seq gt9 n2, slots := sc9 } ∧ R (.ok (.ret Value.none)) { s with heap := s.heap.update l (Obj.mapSeq fun x => x ++ gt9) }) :=
  .of_wp fun pg9 w A R s h => by
    obtain ⟨hp, g, d, tk, os⟩ := s; obtain ⟨hl, hb, h⟩ := h; have f1 := AutoSeq1.idx_int; have f2 := sub_tuple_tuple; have f3 := sub_list_list; have f4 := sub_tuple_list; have f5 := sub_list_tuple;
    have hz' : (gs9 ++ gt9).size ≤ sizeLine + 1 := by rw [Array.size_append]; exact hs2
    wp_walk using (wpAny_updateSeq hl rfl (hz := hs1) (_hz' := hz')), AutoSeq1.wpAny_loadPart' hl, AutoSeq1.wpAny_loadPart' hb; exact ⟨_, rfl, h⟩
theorem mt_extendU : MtM X "list.extend" (rExtendU X.K) := by
  intro pz s τ H x vs v us Q I rx ra9 h
  obtain ⟨l, b, xs, zs, rfl, rfl, hH, hB, hs9, q⟩ := h
  rcases hB with hB | hB
  · exact mt_extend pz s τ H _ _ v us Q I rx ra9 ⟨l, b, xs, zs, rfl, rfl, hH, hB, hs9, q⟩
  · cases rx
    obtain ⟨u, rfl, ru⟩ := ra9.one
    cases ru
    obtain ⟨z, xs9, n, r, hl, e⟩ := I.lstM hH
    obtain ⟨ys9, r2, p2, hl2⟩ := I.tuple hB
    obtain ⟨⟨c2, dd2, dt2, sl2⟩, e2, hc2, n2, hd2⟩ := id p2
    replace hc2 : c2 = .type "tuple" := hc2
    replace hd2 : dt2 = .seq ys9.toArray n2 := hd2
    subst hc2 hd2
    have le9 := r2.length
    have sz9 : xs9.toArray.size + ys9.toArray.size ≤ sizeLine := by rw [List.size_toArray, List.size_toArray]; omega
    have hlong : ¬ (!xs9.toArray.isEmpty && Builtin.List.listTooLong (xs9.toArray.size + ys9.toArray.size)) = true := by
      rw [notLongL sz9, Bool.and_false]
      exact Bool.false_ne_true
    refine call_meets F.slot_list_extend ⟨_, e, rfl⟩ F.entry_list_extend (F.args_list_extend_2 _ _)
      (pd_extend_tuple l xs9.toArray n b ys9.toArray n2 dd2 sl2 hlong (by rw [List.size_toArray]; omega) (by omega)) ⟨e, e2, ?_⟩
    refine ⟨.non, _, I.lset (its' := xs9 ++ ys9) hH e (by simp) (r.append r2) ?_, rfl, q⟩
    rw [List.length_append]
    omega
theorem lm_extend {K : PySem.W.Frag} : LM K (rExtendU K) dExtend := fun x vs H dx ds m Qd Q rm rx r h k => by
  match ds, r, h with
  | [.tup zs], r, h =>
    obtain ⟨a, es, zs', e, e1, hs9, q⟩ := h
    cases e1
    obtain ⟨rfl, rfl, _, ws, e2, r2⟩ := lst_rep rm rx e
    obtain ⟨v, rfl, ra9⟩ := repL1 r
    cases ra9 with
    | @tup _ b us sb rb => exact ⟨a, b, ws, us, rfl, rfl, e2, .inr sb, by rw [← r2.length, ← rb.length]; exact hs9, k _ _ _ _ (.lst e2) (rm.setL e2 (r2.append rb)) .non q⟩
  | [.ref b], r, h =>
    obtain ⟨a, es, zs, e, e1, hs9, q⟩ := h
    obtain ⟨rfl, rfl, _, ws, e2, r2⟩ := lst_rep rm rx e
    obtain ⟨v, rfl, ra9⟩ := repL1 r
    cases ra9
    unfold seqW at e1
    cases e3 : m b with
    | none => simp only [e3] at e1; cases e1
    | some o =>
      have z := rm b o e3
      cases o with
      | lst ys =>
        simp only [e3] at e1; cases e1
        obtain ⟨us, e4, rb⟩ := z
        exact ⟨a, b, ws, us, rfl, rfl, e2, .inl e4, by rw [← r2.length, ← rb.length]; exact hs9, k _ _ _ _ (.lst e2) (rm.setL e2 (r2.append rb)) .non q⟩
      | _ => simp only [e3] at e1; cases e1
  | [.non], _, h => obtain ⟨_, _, _, _, e, _⟩ := h; cases e
  | [.bl _], _, h => obtain ⟨_, _, _, _, e, _⟩ := h; cases e
  | [.int _], _, h => obtain ⟨_, _, _, _, e, _⟩ := h; cases e
  | [.str _], _, h => obtain ⟨_, _, _, _, e, _⟩ := h; cases e
  | [.rol _], _, h => obtain ⟨_, _, _, _, e, _⟩ := h; cases e
end
end PD

set_option Elab.async false
set_option linter.all false
set_option maxRecDepth 100000
set_option maxHeartbeats 4000000
namespace PD
open PySem PySem.Spec PyProof.Rows L2
section
variable {X : Cx}
/-! ### truth -/
theorem isEmptyL {K : PySem.W.Frag} {H : Hp} {ds : List D} {vs : List V} (r : RepL K H ds vs) : ds.isEmpty = vs.isEmpty := by
  cases r <;> rfl
theorem gt_tru {a : Expr} {da : DE} (ha : GE X a da) (he : ∀ whole, isTrue a X.env whole = (do let v ← whole; standAt a.pos; holding [v] (truthy v)) := by intro _; rfl) : GT X a (dTru da) := by
  obtain ⟨ta, p, l⟩ := ha.ex
  refine .of ⟨_, pt_truth p he, fun s H sd m Qd Q rs rm h k => ?_⟩
  refine l s H sd m _ _ rs rm h fun v H1 dv m1 t1 rm1 r1 h1 => ?_
  obtain ⟨b, e, q⟩ := h1
  refine ⟨b, ?_, k b H1 m1 t1 rm1 q⟩
  cases r1 with
  | non => cases e; rfl
  | bl c => cases e; rfl
  | int i => cases e; rfl
  | str z => cases e
  | @tup ds a vs sa ra =>
    cases e
    exact .inr (.inl ⟨vs, sa, by rw [← isEmptyL ra]⟩)
  | rol s r =>
    cases e
    exact .inl ⟨_, s.sq, by rw [← isEmptyL r]⟩
  | ref a =>
    have e : (seqOf m1 (.ref a)).map (fun ds => !ds.isEmpty) = some b := e
    cases e2 : seqOf m1 (.ref a) with
    | none => rw [e2] at e; cases e
    | some ds =>
      rw [e2] at e; cases e
      obtain ⟨vs, sl, r⟩ := ref_rep rm1 e2
      exact .inl ⟨vs, sl, by rw [← isEmptyL r]⟩
/-! ### statements -/
def dNext : DS := fun E s m => E.nx s m
def dSeq (t u : DS) : DS := fun E s m => t { E with nx := u E } s m
theorem gss_nil : GSs X [] dNext := ⟨_, pss_nil, fun s H sd m Ed E rs rm h k1 _ _ _ => k1 s H sd m (.refl H) rs rm h⟩
theorem LS.seq {K : PySem.W.Frag} {t u : TS} {d e : DS} (l : LS K t d) (l2 : LS K u e) : LS K (tSeq t u) (dSeq d e) := fun s H sd m Ed E rs rm h k1 k2 k3 k4 => by
  refine l s H sd m { Ed with nx := e Ed } { E with nx := u E } rs rm h (fun s' H' sd' m' t1 rs1 rm1 h1 => ?_) k2 k3 k4
  exact l2 s' H' sd' m' Ed E rs1 rm1 h1 (fun tB H2 sd2 m2 t2 a b c => k1 tB H2 sd2 m2 (t1.trans t2) a b c) (fun v H2 dv m2 t2 a b c => k2 v H2 dv m2 (t1.trans t2) a b c)
    (fun tB H2 sd2 m2 t2 a b c => k3 tB H2 sd2 m2 (t1.trans t2) a b c) (fun tB H2 sd2 m2 t2 a b c => k4 tB H2 sd2 m2 (t1.trans t2) a b c)
theorem gss_cons {st : Stmt} {rest : List Stmt} {d e : DS} (h1 : GS X st d) (h2 : GSs X rest e) : GSs X (st :: rest) (dSeq d e) := by
  obtain ⟨t, p, l⟩ := h1.ex
  obtain ⟨u, q, l2⟩ := h2.ex
  exact ⟨_, pss_cons p q, l.seq l2⟩
theorem gss_one {st : Stmt} {d : DS} (h1 : GS X st d) : GSs X [st] d := by
  obtain ⟨t, p, l⟩ := h1.ex
  exact ⟨_, pss_one p, l⟩
def dBreak : DS := fun E s m => E.bk s m
def dCont : DS := fun E s m => E.ct s m
theorem gs_pass {pos : Pos} : GS X (.Pass pos) dNext := ⟨_, ps_pass, fun s H sd m Ed E rs rm h k1 _ _ _ => k1 s H sd m (.refl H) rs rm h⟩
theorem gs_break {pos : Pos} : GS X (.Break pos) dBreak := ⟨_, ps_break, fun s H sd m Ed E rs rm h _ _ k3 _ => k3 s H sd m (.refl H) rs rm h⟩
theorem gs_continue {pos : Pos} : GS X (.Continue pos) dCont := ⟨_, ps_continue, fun s H sd m Ed E rs rm h _ _ _ k4 => k4 s H sd m (.refl H) rs rm h⟩
def dDrop (a : DE) : DS := fun E s m => a s m fun _ m1 => E.nx s m1
theorem gs_expr {e : Expr} {pos : Pos} {d : DE} (he : GE X e d) (hs : swapsWith e none pos.line X.env = pure false := by rfl) : GS X (.Expr e pos) (dDrop d) := by
  obtain ⟨t, p, l⟩ := he.ex
  exact ⟨_, ps_expr p hs, fun s H sd m Ed E rs rm h k1 _ _ _ => l s H sd m _ _ rs rm h fun v H1 dv m1 t1 rm1 r1 h1 => k1 s H1 sd m1 t1 (rs.mono t1) rm1 h1⟩
def dRet (a : DE) : DS := fun E s m => a s m E.rt
theorem gs_ret {e : Expr} {pos : Pos} {d : DE} (he : GE X e d) : GS X (.Return (some e) pos) (dRet d) := by
  obtain ⟨t, p, l⟩ := he.ex
  exact ⟨_, ps_ret p, fun s H sd m Ed E rs rm h _ k2 _ _ => l s H sd m _ _ rs rm h fun v H1 dv m1 t1 rm1 r1 h1 => k2 v H1 dv m1 t1 rm1 r1 h1⟩
def dRetN : DS := fun E _ m => E.rt .non m
theorem gs_retN {pos : Pos} : GS X (.Return none pos) dRetN := ⟨_, ps_retN, fun s H sd m Ed E rs rm h _ k2 _ _ => k2 .non H .non m (.refl H) rm .non h⟩
def dIfS (c : DT) (t u : DS) : DS := fun E s m => c s m fun b m1 => if b = true then t E s m1 else u E s m1
theorem gs_if {c : Expr} {a b : List Stmt} {pos : Pos} {dc : DT} {t u : DS} (hc : GT X c dc) (ha : GSs X a t) (hb : GSs X b u) : GS X (.If c a b pos) (dIfS dc t u) := by
  obtain ⟨tc, p, l⟩ := hc.ex
  obtain ⟨ta, q, l2⟩ := ha.ex
  obtain ⟨tb, q2, l3⟩ := hb.ex
  refine ⟨_, ps_if p q q2, fun s H sd m Ed E rs rm h k1 k2 k3 k4 => ?_⟩
  refine l s H sd m _ _ rs rm h fun b H1 m1 t1 rm1 h1 => ?_
  have c1 : ∀ tB H2 sd2 m2, TX H1 H2 → RS X.K H2 sd2 tB → RM X.K H2 m2 → Ed.nx sd2 m2 → E.nx tB H2 := fun tB H2 sd2 m2 t2 a b c => k1 tB H2 sd2 m2 (t1.trans t2) a b c
  have c2 : ∀ v H2 dv m2, TX H1 H2 → RM X.K H2 m2 → Rep X.K H2 dv v → Ed.rt dv m2 → E.rt v H2 := fun v H2 dv m2 t2 a b c => k2 v H2 dv m2 (t1.trans t2) a b c
  have c3 : ∀ tB H2 sd2 m2, TX H1 H2 → RS X.K H2 sd2 tB → RM X.K H2 m2 → Ed.bk sd2 m2 → E.bk tB H2 := fun tB H2 sd2 m2 t2 a b c => k3 tB H2 sd2 m2 (t1.trans t2) a b c
  have c4 : ∀ tB H2 sd2 m2, TX H1 H2 → RS X.K H2 sd2 tB → RM X.K H2 m2 → Ed.ct sd2 m2 → E.ct tB H2 := fun tB H2 sd2 m2 t2 a b c => k4 tB H2 sd2 m2 (t1.trans t2) a b c
  cases b with
  | true =>
    show ta E s H1
    exact l2 s H1 sd m1 Ed E (rs.mono t1) rm1 h1 c1 c2 c3 c4
  | false =>
    show tb E s H1
    exact l3 s H1 sd m1 Ed E (rs.mono t1) rm1 h1 c1 c2 c3 c4
/-! ### targets -/
abbrev DG := D → Sd → Mu → (Sd → Mu → Prop) → Prop
abbrev DGs := List D → Sd → Mu → (Sd → Mu → Prop) → Prop
/-- js: the slots that may be set -/
def Own (js : List Nat) (s tB : L2.St) : Prop := ∀ vs : List Nat, (∀ j ∈ js, j ∈ vs) → wipe tB vs = wipe s vs
def LG (K : PySem.W.Frag) (g : TG) (dg : DG) (js : List Nat) : Prop := ∀ x dx s H sd m (Qd : Sd → Mu → Prop) (Q : L2.St → Hp → Prop), Rep K H dx x → RS K H sd s → RM K H m → dg dx sd m Qd →
  (∀ s' H' sd' m', TX H H' → RS K H' sd' s' → RM K H' m' → Qd sd' m' → Own js s s' → Q s' H') → g x s H Q
def LGs (K : PySem.W.Frag) (g : TGs) (dg : DGs) (js : List Nat) : Prop := ∀ xs dxs s H sd m (Qd : Sd → Mu → Prop) (Q : L2.St → Hp → Prop), RepL K H dxs xs → RS K H sd s → RM K H m → dg dxs sd m Qd →
  (∀ s' H' sd' m', TX H H' → RS K H' sd' s' → RM K H' m' → Qd sd' m' → Own js s s' → Q s' H') → g xs s H Q
def liftG (K : PySem.W.Frag) (dg : DG) (js : List Nat) : TG := fun x s H Q => ∃ dx sd m Qd, Rep K H dx x ∧ RS K H sd s ∧ RM K H m ∧ dg dx sd m Qd ∧ ∀ s' H' sd' m', TX H H' → RS K H' sd' s' → RM K H' m' → Qd sd' m' → Own js s s' → Q s' H'
theorem liftG_le (K : PySem.W.Frag) (dg : DG) (js : List Nat) : LG K (liftG K dg js) dg js := fun x dx s H sd m Qd Q rx rs rm h k => ⟨dx, sd, m, Qd, rx, rs, rm, h, k⟩
structure GG (X : Cx) (tg : Expr) (dg : DG) (js : List Nat) : Prop where
  mk ::
  pg : PG X tg (liftG X.K dg js)
theorem GG.of {X : Cx} {tg : Expr} {g : TG} {dg : DG} {js : List Nat} (p : PG X tg g) (l : LG X.K g dg js) : GG X tg dg js :=
  ⟨⟨fun pz s τ H v u Q I r ⟨dx, sd, m, Qd, rx, rs, rm, h, k⟩ => p.run pz s τ H v u Q I r (l v dx τ H sd m Qd Q rx rs rm h k)⟩⟩
theorem GG.lg {X : Cx} {tg : Expr} {dg : DG} {js : List Nat} (h : GG X tg dg js) : LG X.K (liftG X.K dg js) dg js := liftG_le _ _ _
structure GGs (X : Cx) (ts : List Expr) (dg : DGs) (js : List Nat) : Prop where
  ex : ∃ g, PGs X ts g ∧ LGs X.K g dg js
theorem wipe_set {v : Option V} {j : Nat} : ∀ {vs : List Nat} {s : L2.St}, j ∈ vs → wipe (s.set j v) vs = wipe s vs
  | [], _, h => by cases h
  | i :: vs, s, h => by
    unfold wipe
    by_cases e : j = i
    · subst e
      by_cases h2 : j ∈ vs
      · rw [wipe_set h2]
      · have : ∀ {ws : List Nat} {s : L2.St}, j ∉ ws → wipe (s.set j v) ws = (wipe s ws).set j v := fun {ws} {s} => by
          induction ws with
          | nil => intro _; rfl
          | cons w ws ih =>
            intro hn
            unfold wipe
            rw [ih fun z => hn (List.mem_cons_of_mem _ z)]
            rw [List.set_comm _ _ (fun z => hn (by rw [z]; exact List.mem_cons_self ..))]
        rw [this h2, List.set_set]
    · rw [wipe_set (by rcases List.mem_cons.mp h with z | z; exact absurd z e; exact z)]
def dgN (j : Nat) : DG := fun d s m Q => Q (s.set j (some d)) m
theorem gg_name {pos : Pos} {i : Nat} {x : Str} (hN : X.N.Nodup) (hi : X.N[i]? = some x) (hx : Loc X.env.scope x) (hf : X.fn x = true ∨ X.env.scope.names.lookup x = some .local := by first | exact .inl rfl | exact .inr rfl | assumption) : GG X (.Name x pos) (dgN i) [i] :=
  .of (pg_name hN hi hx hf) fun x dx s H sd m Qd Q rx rs rm h k => k _ H _ m (.refl H) (rs.set rx i) rm h fun vs hv => wipe_set (hv i (List.mem_singleton.mpr rfl))
def dgNil : DGs := fun ds s m Q => match ds with | [] => Q s m | _ => False
def dgCons (g : DG) (r : DGs) : DGs := fun ds s m Q => match ds with | d :: ds => g d s m fun tA m1 => r ds tA m1 Q | [] => False
theorem ggs_nil : GGs X [] dgNil [] :=
  ⟨_, pgs_nil, fun xs dxs s H sd m Qd Q rx rs rm h k => by
    cases rx with
    | nil => exact ⟨rfl, k s H sd m (.refl H) rs rm h fun _ _ => rfl⟩
    | cons a b => exact h.elim⟩
theorem ggs_cons {e : Expr} {es : List Expr} {dg : DG} {dgs : DGs} {js ks : List Nat} (h1 : GG X e dg js) (h2 : GGs X es dgs ks) (hs : (assignEach (e :: es) X.env).map (·.2) = assign e X.env :: (assignEach es X.env).map (·.2) := by rfl) : GGs X (e :: es) (dgCons dg dgs) (js ++ ks) := by
  obtain ⟨gs, p2, l2⟩ := h2.ex
  exact ⟨_, pgs_cons h1.pg p2 hs, fun xs dxs s H sd m Qd Q rx rs rm h k => by
    cases rx with
    | nil => exact h.elim
    | cons a b =>
      refine ⟨_, _, rfl, h1.lg _ _ s H sd m _ _ a rs rm h fun tA H1 sd1 m1 t1 rs1 rm1 q1 o1 => ?_⟩
      exact l2 _ _ tA H1 sd1 m1 _ _ (b.mono t1) rs1 rm1 q1 fun tB H2 sd2 m2 t2 rs2 rm2 q2 o2 => k tB H2 sd2 m2 (t1.trans t2) rs2 rm2 q2 fun vs hv =>
        (o2 vs fun j hj => hv j (List.mem_append_right _ hj)).trans (o1 vs fun j hj => hv j (List.mem_append_left _ hj))⟩
def dgTup (n : Nat) (g : DGs) : DG := fun d s m Q => match d with | .tup ds => ds.length = n ∧ g ds s m Q | _ => False
theorem gg_tup {es : List Expr} {k n : Nat} {pos : Pos} {dg : DGs} {js : List Nat} (hc : X.calm = true) (h : GGs X es dg js) (hn : (assignEach es X.env).length = n := by rfl) (hst : (assignEach es X.env).findIdx? (·.1) = none := by rfl) : GG X (.Tuple es k pos) (dgTup n dg) js := by
  obtain ⟨g, p, l⟩ := h.ex
  exact .of (pg_tup hc p hn hst) fun x dx s H sd m Qd Q rx rs rm hh k => by
    cases rx with
    | @tup ds a vs sa ra => exact ⟨a, vs, rfl, sa, by rw [← ra.length]; exact hh.1, l _ _ s H sd m Qd Q ra rs rm hh.2 k⟩
    | _ => exact hh.elim
def dAsg (e : DE) (g : DG) : DS := fun E s m => e s m fun x m1 => g x s m1 E.nx
theorem gs_asg {tg e : Expr} {pos : Pos} {de : DE} {dg : DG} {js : List Nat} (he : GE X e de) (hg : GG X tg dg js) (hs : swapsWithSole [tg] e pos.line X.env = pure false := by rfl) (hw : swappedStores [tg] e X.env = pure none := by rfl) (h1 : (assignEach [tg] X.env).map (·.2) = [assign tg X.env] := by rfl) : GS X (.Assign [tg] e pos) (dAsg de dg) := by
  obtain ⟨t, p, l⟩ := he.ex
  refine ⟨_, ps_asg p hg.pg hs hw h1, fun s H sd m Ed E rs rm h k1 _ _ _ => ?_⟩
  refine l s H sd m _ _ rs rm h fun v H1 dv m1 t1 rm1 r1 h1 => ?_
  exact hg.lg v dv s H1 sd m1 _ _ r1 (rs.mono t1) rm1 h1 fun tB H2 sd2 m2 t2 rs2 rm2 q2 _ => k1 tB H2 sd2 m2 (t1.trans t2) rs2 rm2 q2
def dSet (i : Nat) (e : DE) : DS := dAsg e (dgN i)
theorem gs_set {i : Nat} {x : Str} {e : Expr} {pos pos' : Pos} {de : DE} (hN : X.N.Nodup) (hi : X.N[i]? = some x) (hx : Loc X.env.scope x) (he : GE X e de) (hs : swapsWith e (some (.Name x pos')) pos.line X.env = pure false := by rfl) (hf : X.fn x = true ∨ X.env.scope.names.lookup x = some .local := by first | exact .inl rfl | exact .inr rfl | assumption) :
    GS X (.Assign [.Name x pos'] e pos) (dSet i de) := by
  obtain ⟨t, p, l⟩ := he.ex
  refine ⟨_, ps_set hN hi hx p hs hf, fun s H sd m Ed E rs rm h k1 _ _ _ => ?_⟩
  exact l s H sd m _ _ rs rm h fun v H1 dv m1 t1 rm1 r1 h1 => k1 _ H1 _ m1 t1 ((rs.mono t1).set r1 i) rm1 h1
/-! x[i] = e -/
def dSub3 : D → D → D → Mu → (Mu → Prop) → Prop := fun o i v m Q => match i with
  | .int k => ∃ a es, lstOf m o = some (a, es) ∧ ∃ j, ixN es.length k = some j ∧ Q (mset m a (.lst (es.set j v)))
  | _ => False
def dgSub (o i : DE) : DG := fun v s m Q => o s m fun ov9 m1 => i s m1 fun iv m2 => dSub3 ov9 iv v m2 fun m3 => Q s m3
theorem gg_sub {o i : Expr} {pos : Pos} {d1 d2 : DE} (ho : GE X o d1) (hi : GE X i d2) (ha : ∀ v, assign (.Subscript o i pos) X.env v = (do
      let ov9 ← holding [v] (eval o X.env)
      let iv ← holding [v, ov9] (eval i X.env)
      standAt pos
      holding [v, ov9, iv] (setItem ov9 iv v)
      release [v, ov9, iv] []) := by intro _; rfl) : GG X (.Subscript o i pos) (dgSub d1 d2) [] :=
  .of (pg_sub ho.pe hi.pe set_list ha) fun x dx s H sd m Qd Q rx rs rm h k => by
    refine liftE_le _ d1 s H sd m _ _ rs rm h fun v H1 dv m1 t1 rm1 r1 h1 => ?_
    refine liftE_le _ d2 s H1 sd m1 _ _ (rs.mono t1) rm1 h1 fun u H2 du m2 t2 rm2 r2 h2 => ?_
    cases r2 with
    | int z =>
      obtain ⟨a, es, e, j, e2, q⟩ := h2
      obtain ⟨rfl, rfl, _, ws, e3, r3⟩ := lst_rep rm2 (r1.mono t2) e
      have t12 := t1.trans t2
      exact ⟨a, ws, z, j, rfl, rfl, e3, by rw [← r3.length]; exact e2, k s _ sd _ (t12.trans (.lst e3)) (rs.mono (t12.trans (.lst e3))) (rm2.setL e3 (RepL.set (rx.mono t12) j r3)) q fun _ _ => rfl⟩
    | _ => exact h2.elim
/-! ### += on a name -/
def dAug (i : Nat) (e : DE) (r : D2) : DS := fun E s m => match s[i]? with | some (some x) => e s m fun y m1 => r x y m1 fun z m2 => E.nx (s.set i (some z)) m2 | _ => False
theorem gs_aug {i : Nat} {x : Str} {e : Expr} {pos pos' : Pos} {op : Operator} {ti : TIp} {r : D2} {de : DE} (hN : X.N.Nodup) (hi : X.N[i]? = some x) (hx : Loc X.env.scope x) (he : GE X e de) (ho : PIp X op ti) (lr : LR X.K ti r) (hf : X.fn x = true ∨ X.env.scope.names.lookup x = some .local := by first | exact .inl rfl | exact .inr rfl | assumption) :
    GS X (.AugAssign (.Name x pos') op e pos) (dAug i de r) := by
  obtain ⟨t, p, l⟩ := he.ex
  refine ⟨_, ps_aug hN hi hx p ho hf, fun s H sd m Ed E rs rm h k1 _ _ _ => ?_⟩
  unfold dAug at h
  split at h
  · rename_i d e1
    obtain ⟨v, e2, ra9⟩ := rs.at_ i d e1
    refine ⟨v, e2, l s H sd m _ _ rs rm h fun u H1 du m1 t1 rm1 r1 h1 => ?_⟩
    exact lr v u H1 d du m1 _ _ rm1 (ra9.mono t1) r1 h1 fun z H2 dz m2 t2 rm2 r2 h2 => k1 _ H2 _ m2 (t1.trans t2) ((rs.mono (t1.trans t2)).set r2 i) rm2 h2
  · exact h.elim
end
end PD

set_option Elab.async false
set_option linter.all false
set_option maxRecDepth 100000
set_option maxHeartbeats 4000000
namespace PD
open PySem PySem.Spec PyProof.Rows L2
/-! ### what is walked: the items, and what must stand while it is walked -/
abbrev DI := Sd → Mu → (List D → (Mu → Prop) → Mu → Prop) → Prop
structure JOk (K : PySem.W.Frag) (J : It) (es : List D) (st : Mu → Prop) (H1 : Hp) : Prop where
  go : ∀ i H m, TX H1 H → RM K H m → st m → i < es.length → J.go i H
  yld : ∀ i H x H' m, TX H1 H → RM K H m → st m → i < es.length → J.yld i H x H' → ∃ d, es[i]? = some d ∧ TX H H' ∧ RM K H' m ∧ Rep K H' d x
  stop : ∀ i H m, TX H1 H → RM K H m → st m → es.length ≤ i → J.stop i H
def LI (K : PySem.W.Frag) (wi : TI) (di : DI) : Prop := ∀ s H sd m (Rd : List D → (Mu → Prop) → Mu → Prop) (R : It → Hp → Prop), RS K H sd s → RM K H m → di sd m Rd →
  (∀ J H1 es st m1, TX H H1 → RM K H1 m1 → JOk K J es st H1 → Rd es st m1 → R J H1) → wi s H R
structure GI (X : Cx) (tg iter : Expr) (wi : TI) (di : DI) : Prop where
  pi : PI X tg iter wi
  li : LI X.K wi di
def GIE (X : Cx) (tg iter : Expr) (di : DI) : Prop := ∃ wi, GI X tg iter wi di
/-- es walked -/
def dLoop (st : Mu → Prop) (g : DG) (tb : DS) (E : DEnds) : List D → Sd → Mu → Prop
  | [] => fun s m => st m ∧ E.nx s m
  | d :: es => fun s m => st m ∧ g d s m fun s2 m2 => tb { E with nx := dLoop st g tb E es, ct := dLoop st g tb E es, bk := E.nx } s2 m2
def dFor (di : DI) (g : DG) (tb : DS) : DS := fun E s m => di s m fun es st m1 => dLoop st g tb E es s m1
section
variable {X : Cx}
theorem gs_for {tg iter : Expr} {body : List Stmt} {pos : Pos} {di : DI} {dg : DG} {js : List Nat} {d : DS} (hp : PassesOwn (model X.prog X.w) X.A X.env X.xe) (hc : X.calm = true) (hi : GIE X tg iter di) (hg : GG X tg dg js) (hb : GSs X body d) (hs : ∀ x, foldedSetIterable iter X.env x = pure x := by intro _; rfl) :
    GS X (.For tg iter body [] pos) (dFor di dg d) := by
  obtain ⟨wi, hi⟩ := hi
  obtain ⟨tb, p, l⟩ := hb.ex
  refine ⟨_, ps_for hp hc hi.pi hg.pg p hs, fun s H sd m Ed E rs rm h k1 k2 k3 k4 => ?_⟩
  refine hi.li s H sd m _ _ rs rm h fun J H1 es st m1 t1 rm1 jo h1 => ?_
  refine ⟨fun i n s' H' => i ≤ es.length ∧ n = es.length - i ∧ ∃ sd' m', TX H1 H' ∧ RS X.K H' sd' s' ∧ RM X.K H' m' ∧ dLoop st dg d Ed (es.drop i) sd' m', ⟨es.length, Nat.zero_le _, by omega, sd, m1, .refl _, rs.mono t1, rm1, h1⟩, ?_⟩
  rintro i n s' H' ⟨hle, rfl, sd', m', t2, rs2, rm2, q⟩
  by_cases hlt : i < es.length
  · rw [List.drop_eq_getElem_cons hlt] at q
    obtain ⟨hst, q⟩ := q
    refine .inr ⟨jo.go i H' m' t2 rm2 hst hlt, fun s2 H2 => ∃ sd2 m2, TX H1 H2 ∧ RS X.K H2 sd2 s2 ∧ RM X.K H2 m2 ∧ dLoop st dg d Ed (es.drop (i + 1)) sd2 m2, fun s2 H2 ⟨sd2, m2, a, b, c, e⟩ => ⟨es.length - (i + 1), by omega, hlt, rfl, sd2, m2, a, b, c, e⟩, fun x H3 hy => ?_⟩
    obtain ⟨dx, e, t3, rm3, rx⟩ := jo.yld i H' x H3 m' t2 rm2 hst hlt hy
    rw [List.getElem?_eq_getElem hlt] at e
    cases e
    refine hg.lg x _ s' H3 sd' m' _ _ rx (rs2.mono t3) rm3 q fun s4 H4 sd4 m4 t4 rs4 rm4 q4 _ => ?_
    have t14 : TX H1 H4 := t2.trans (t3.trans t4)
    refine l s4 H4 sd4 m4 _ _ rs4 rm4 q4 (fun s5 H5 sd5 m5 t5 a b c => ⟨sd5, m5, t14.trans t5, a, b, c⟩) (fun v H5 dv m5 t5 a b c => k2 v H5 dv m5 (t1.trans (t14.trans t5)) a b c)
      (fun s5 H5 sd5 m5 t5 a b c => k1 s5 H5 sd5 m5 (t1.trans (t14.trans t5)) a b c) (fun s5 H5 sd5 m5 t5 a b c => ⟨sd5, m5, t14.trans t5, a, b, c⟩)
  · have e : i = es.length := by omega
    subst e
    rw [List.drop_length] at q
    exact .inl ⟨jo.stop _ H' m' t2 rm2 q.1 (Nat.le_refl _), k1 s' H' sd' m' (t1.trans t2) rs2 rm2 q.2⟩
/-! a list, a tuple -/
def dISeq (a : DE) : DI := fun s m R => a s m fun x m1 => match x with
  | .tup ds => R ds (fun _ => True) m1
  | .rol ds => R ds (fun _ => True) m1
  | .ref p => ∃ ds, seqOf m1 (.ref p) = some ds ∧ R ds (fun m' => seqOf m' (.ref p) = some ds) m1
  | _ => False
theorem gi_seq {tg l : Expr} {a : DE} (h : GE X l a) : GIE X tg l (dISeq a) :=
  ⟨iSeq X.K (liftE X.K a), pi_seq h.pe, fun s H sd m Rd R rs rm hh k => by
    refine liftE_le _ a s H sd m _ _ rs rm hh fun v H1 dv m1 t1 rm1 r1 h1 => ?_
    cases r1 with
    | @tup ds p vs sa ra =>
      refine ⟨p, rfl, .inr ⟨vs, sa, k _ H1 ds (fun _ => True) m1 t1 rm1 ⟨fun i H' m' t' _ _ hi => ?_, fun i H' x H2 m' t' rm' _ _ hy => ?_, fun i H' m' t' _ _ hi => ?_⟩ h1⟩⟩
      · have hi' : i < vs.length := by rw [← ra.length]; exact hi
        exact ⟨vs, vs[i], t'.sqT sa, List.getElem?_eq_getElem hi'⟩
      · obtain ⟨rfl, f⟩ := hy
        obtain ⟨d, e, q⟩ := ra.getV (f _ (t'.sqT sa))
        exact ⟨d, e, .refl _, rm', q.mono t'⟩
      · exact ⟨vs, t'.sqT sa, by rw [← ra.length]; exact hi⟩
    | @rol ds p vs sa ra =>
      refine ⟨p, rfl, .inl ⟨vs, sa.sq, k _ H1 ds (fun _ => True) m1 t1 rm1 ⟨fun i H' m' t' _ _ hi => ?_, fun i H' x H2 m' t' rm' _ _ hy => ?_, fun i H' m' t' _ _ hi => ?_⟩ h1⟩⟩
      · have hi' : i < vs.length := by rw [← ra.length]; exact hi
        exact ⟨vs, vs[i], (t'.ro sa).sq, List.getElem?_eq_getElem hi'⟩
      · obtain ⟨rfl, f⟩ := hy
        obtain ⟨d, e, q⟩ := ra.getV (f _ (t'.ro sa).sq)
        exact ⟨d, e, .refl _, rm', q.mono t'⟩
      · exact ⟨vs, (t'.ro sa).sq, by rw [← ra.length]; exact hi⟩
    | ref p =>
      obtain ⟨ds, e, q⟩ := h1
      obtain ⟨vs, sl, r⟩ := ref_rep rm1 e
      refine ⟨p, rfl, .inl ⟨vs, sl, k _ H1 ds (fun m' => seqOf m' (.ref p) = some ds) m1 t1 rm1 ⟨fun i H' m' t' rm' st hi => ?_, fun i H' x H2 m' t' rm' st _ hy => ?_, fun i H' m' t' rm' st hi => ?_⟩ q⟩⟩
      · obtain ⟨ws, sl', r'⟩ := ref_rep rm' st
        have hi' : i < ws.length := by rw [← r'.length]; exact hi
        exact ⟨ws, ws[i], sl', List.getElem?_eq_getElem hi'⟩
      · obtain ⟨rfl, f⟩ := hy
        obtain ⟨ws, sl', r'⟩ := ref_rep rm' st
        obtain ⟨d, e, q⟩ := r'.getV (f _ sl')
        exact ⟨d, e, .refl _, rm', q⟩
      · obtain ⟨ws, sl', r'⟩ := ref_rep rm' st
        exact ⟨ws, sl', by rw [← r'.length]; exact hi⟩
    | _ => exact h1.elim⟩
/-! range -/
def rangeD (lo : Int) (n : Nat) : List D := (List.range n).map fun (i : Nat) => .int (lo + (i : Int))
theorem jo_range {K : PySem.W.Frag} {lo : Int} {n : Nat} {H1 : Hp} : JOk K (Itr lo n) (rangeD lo n) (fun _ => True) H1 := by
  have hl : (rangeD lo n).length = n := by unfold rangeD; rw [List.length_map, List.length_range]
  refine ⟨fun i H m _ _ _ h => ?_, fun i H x H' m _ rm _ h hy => ?_, fun i H m _ _ _ h => ?_⟩
  · rw [hl] at h; exact h
  · obtain ⟨rfl, rfl⟩ := hy
    rw [hl] at h
    exact ⟨.int (lo + (i : Int)), by unfold rangeD; rw [List.getElem?_map, List.getElem?_range h]; rfl, .refl _, rm, .int _⟩
  · rw [hl] at h; exact h
def dIRng1 (a : DA) : DI := fun s m R => a s m fun ds m1 => match ds with
  | [.int j] => -(2 ^ 62) ≤ j ∧ j < 2 ^ 62 ∧ R (rangeD 0 j.toNat) (fun _ => True) m1
  | _ => False
def dIRng2 (a : DA) : DI := fun s m R => a s m fun ds m1 => match ds with
  | [.int i, .int j] => (-(2 ^ 62) ≤ i ∧ i < 2 ^ 62 ∧ -(2 ^ 62) ≤ j ∧ j < 2 ^ 62) ∧ R (rangeD i (j - i).toNat) (fun _ => True) m1
  | _ => False
theorem gi_rng1 {tg a : Expr} {p pos : Pos} {da : DA} (hg : Gl X "range") (hm : X.mg "range" = none) (ha : GA X [a] da) (hs : starEach [a] X.env = [(false, eval a X.env)] := by rfl) :
    GIE X tg (.Call (.Name "range" p) [a] [] pos) (dIRng1 da) := by
  obtain ⟨ta, q, l⟩ := ha.ex
  refine ⟨_, pi_range1 hg hm q hs, fun s H sd m Rd R rs rm h k => ?_⟩
  refine l s H sd m _ _ rs rm h fun vs H1 ds m1 t1 rm1 r1 h1 => ?_
  match ds, r1, h1 with
  | [.int j], r1, h1 =>
    obtain ⟨v, rfl, rv⟩ := repL1 r1
    cases rv
    exact ⟨j, rfl, h1.1, h1.2.1, k _ H1 _ _ m1 t1 rm1 jo_range h1.2.2⟩
theorem gi_rng2 {tg a b : Expr} {p pos : Pos} {da : DA} (hg : Gl X "range") (hm : X.mg "range" = none) (ha : GA X [a, b] da) (hs : starEach [a, b] X.env = [(false, eval a X.env), (false, eval b X.env)] := by rfl) (hs2 : starEach [b] X.env = [(false, eval b X.env)] := by rfl) :
    GIE X tg (.Call (.Name "range" p) [a, b] [] pos) (dIRng2 da) := by
  obtain ⟨ta, q, l⟩ := ha.ex
  refine ⟨_, pi_range2 hg hm q hs hs2, fun s H sd m Rd R rs rm h k => ?_⟩
  refine l s H sd m _ _ rs rm h fun vs H1 ds m1 t1 rm1 r1 h1 => ?_
  match ds, r1, h1 with
  | [.int i, .int j], r1, h1 =>
    obtain ⟨v, u, rfl, rv, ru⟩ := repL2 r1
    cases rv
    cases ru
    exact ⟨i, j, rfl, h1.1, k _ H1 _ _ m1 t1 rm1 jo_range h1.2⟩
/-! enumerate -/
def enumD (i : Nat) : List D → List D
  | [] => []
  | d :: ds => .tup [.int (i : Int), d] :: enumD (i + 1) ds
theorem enumD_len : ∀ (ds : List D) (i : Nat), (enumD i ds).length = ds.length
  | [], _ => rfl
  | d :: ds, i => by unfold enumD; rw [List.length_cons, List.length_cons, enumD_len ds]
theorem enumD_get : ∀ (ds : List D) (i j : Nat) {d : D}, ds[j]? = some d → (enumD i ds)[j]? = some (.tup [.int ((i + j : Nat) : Int), d])
  | [], _, _, _, h => by simp at h
  | d :: ds, i, 0, _, h => by
    have e := Option.some.inj h
    subst e; rfl
  | d :: ds, i, j + 1, e, h => by
    have z := enumD_get ds (i + 1) j (d := e) (by simpa using h)
    unfold enumD
    rw [List.getElem?_cons_succ, z]
    rw [show i + 1 + j = i + (j + 1) by omega]
def dIEnum (a : DA) : DI := fun s m R => a s m fun ds m1 => match ds with
  | [.tup es] => R (enumD 0 es) (fun _ => True) m1
  | [.ref p] => ∃ es, seqOf m1 (.ref p) = some es ∧ R (enumD 0 es) (fun m' => seqOf m' (.ref p) = some es) m1
  | _ => False
theorem enum_item {K : PySem.W.Frag} {i : Nat} {x : V} {d : D} {H : Hp} {T : Addr} {m : Mu} {es : List D} (rm : RM K H m) (hT : H T = none) (e : es[i]? = some d) (r : Rep K H d x) :
    ∃ d', (enumD 0 es)[i]? = some d' ∧ TX H (upd H T (.tup [.int (i : Nat), x])) ∧ RM K (upd H T (.tup [.int (i : Nat), x])) m ∧ Rep K (upd H T (.tup [.int (i : Nat), x])) d' (.ref T) := by
  refine ⟨_, enumD_get es 0 i e, .new hT, rm.skip hT, ?_⟩
  rw [Nat.zero_add]
  exact .tup (SqT.of upd_same) (.cons (.int _) (.cons (r.mono (.new hT)) .nil))
theorem gi_enum {e : Expr} {p pos tpos : Pos} {elts : List Expr} {kk : Nat} {da : DA} (hg : Gl X "enumerate") (hm : X.mg "enumerate" = none) (ha : GA X [e] da) (hs : starEach [e] X.env = [(false, eval e X.env)] := by rfl) :
    GIE X (.Tuple elts kk tpos) (.Call (.Name "enumerate" p) [e] [] pos) (dIEnum da) := by
  obtain ⟨ta, q, l⟩ := ha.ex
  refine ⟨_, pi_enumT hg hm q hs, fun s H sd m Rd R rs rm h k => ?_⟩
  refine l s H sd m _ _ rs rm h fun vs H1 ds m1 t1 rm1 r1 h1 => ?_
  match ds, r1, h1 with
  | [.tup es], r1, h1 =>
    obtain ⟨v, rfl, rv⟩ := repL1 r1
    cases rv with
    | @tup _ a ws sa ra =>
      refine ⟨a, rfl, .inr ⟨ws, sa, k _ H1 _ (fun _ => True) m1 t1 rm1 ⟨fun i H' m' t' _ _ hi => ?_, fun i H' x H2 m' t' rm' _ _ hy => ?_, fun i H' m' t' _ _ hi => ?_⟩ h1⟩⟩
      · rw [enumD_len] at hi
        have hi' : i < ws.length := by rw [← ra.length]; exact hi
        exact ⟨ws, ws[i], t'.sqT sa, List.getElem?_eq_getElem hi'⟩
      · obtain ⟨T, y, rfl, hT, rfl, f⟩ := hy
        obtain ⟨d, e, q⟩ := ra.getV (f _ (t'.sqT sa))
        exact enum_item rm' hT e (q.mono t')
      · rw [enumD_len] at hi
        exact ⟨ws, t'.sqT sa, by rw [← ra.length]; exact hi⟩
  | [.ref p], r1, h1 =>
    obtain ⟨es, e, q⟩ := h1
    obtain ⟨v, rfl, rv⟩ := repL1 r1
    cases rv
    obtain ⟨ws, sl, r⟩ := ref_rep rm1 e
    refine ⟨p, rfl, .inl ⟨ws, sl, k _ H1 _ (fun m' => seqOf m' (.ref p) = some es) m1 t1 rm1 ⟨fun i H' m' t' rm' st hi => ?_, fun i H' x H2 m' t' rm' st _ hy => ?_, fun i H' m' t' rm' st hi => ?_⟩ q⟩⟩
    · rw [enumD_len] at hi
      obtain ⟨us, sl', r'⟩ := ref_rep rm' st
      have hi' : i < us.length := by rw [← r'.length]; exact hi
      exact ⟨us, us[i], sl', List.getElem?_eq_getElem hi'⟩
    · obtain ⟨T, y, rfl, hT, rfl, f⟩ := hy
      obtain ⟨us, sl', r'⟩ := ref_rep rm' st
      obtain ⟨d, e, q⟩ := r'.getV (f _ sl')
      exact enum_item rm' hT e q
    · rw [enumD_len] at hi
      obtain ⟨us, sl', r'⟩ := ref_rep rm' st
      exact ⟨us, sl', by rw [← r'.length]; exact hi⟩
/-! ### while -/
def dWhile (c : DT) (tb : DS) : DS := fun E s m => ∃ W : Nat → Sd → Mu → Prop, (∃ n, W n s m) ∧ ∀ n s m, W n s m →
  c s m fun b m1 => if b = true then tb { E with nx := fun s' m' => ∃ n', n' < n ∧ W n' s' m', ct := fun s' m' => ∃ n', n' < n ∧ W n' s' m', bk := E.nx } s m1 else E.nx s m1
theorem gs_while {c : Expr} {body : List Stmt} {pos : Pos} {dc : DT} {d : DS} (hp : PassesOwn (model X.prog X.w) X.A X.env X.xe) (hc : GT X c dc) (hb : GSs X body d) : GS X (.While c body [] pos) (dWhile dc d) := by
  obtain ⟨tc, p, l⟩ := hc.ex
  obtain ⟨tb, q, l2⟩ := hb.ex
  refine ⟨_, ps_while hp p q, fun s H sd m Ed E rs rm h k1 k2 k3 k4 => ?_⟩
  obtain ⟨W, ⟨n0, w0⟩, turn⟩ := h
  refine ⟨fun n s' H' => ∃ sd' m', TX H H' ∧ RS X.K H' sd' s' ∧ RM X.K H' m' ∧ W n sd' m', ⟨n0, sd, m, .refl _, rs, rm, w0⟩, ?_⟩
  rintro n s' H' ⟨sd', m', t1, rs1, rm1, w⟩
  refine l s' H' sd' m' _ _ rs1 rm1 (turn n sd' m' w) fun b H2 m2 t2 rm2 h2 => ?_
  have t12 : TX H H2 := t1.trans t2
  cases b with
  | true =>
    refine ⟨fun s3 H3 => ∃ n', n' < n ∧ ∃ sd3 m3, TX H H3 ∧ RS X.K H3 sd3 s3 ∧ RM X.K H3 m3 ∧ W n' sd3 m3, fun s3 H3 ⟨n', a, b⟩ => ⟨n', a, b⟩, ?_⟩
    exact l2 s' H2 sd' m2 _ _ (rs1.mono t2) rm2 h2 (fun s5 H5 sd5 m5 t5 a b ⟨n', c, e⟩ => ⟨n', c, sd5, m5, t12.trans t5, a, b, e⟩) (fun v H5 dv m5 t5 a b c => k2 v H5 dv m5 (t12.trans t5) a b c)
      (fun s5 H5 sd5 m5 t5 a b c => k1 s5 H5 sd5 m5 (t12.trans t5) a b c) (fun s5 H5 sd5 m5 t5 a b ⟨n', c, e⟩ => ⟨n', c, sd5, m5, t12.trans t5, a, b, e⟩)
  | false => exact k1 s' H2 sd' m2 t12 (rs1.mono t2) rm2 h2
/-! ### [e for x in xs if t] -/
def wipeD (s : Sd) : List Nat → Sd
  | [] => s
  | v :: vs => (wipeD s vs).set v none
theorem RS.wipe {K : PySem.W.Frag} {H : Hp} {sd : Sd} {s : L2.St} (r : RS K H sd s) : ∀ vs : List Nat, RS K H (wipeD sd vs) (wipe s vs)
  | [] => r
  | v :: vs => by
    have ih := RS.wipe r vs
    unfold wipeD L2.wipe
    refine ⟨by rw [List.length_set, List.length_set]; exact ih.len, fun i d e => ?_⟩
    rw [List.getElem?_set] at e
    rw [List.getElem?_set]
    by_cases hv : v = i
    · rw [if_pos hv] at e
      split at e
      · cases e
      · cases e
    · rw [if_neg hv] at e ⊢
      exact ih.at_ i d e
theorem wipe_wipe (s : L2.St) (vs : List Nat) : wipe (wipe s vs) vs = wipe s vs := by
  have go : ∀ ws : List Nat, (∀ w ∈ ws, w ∈ vs) → wipe (wipe s ws) vs = wipe s vs := fun ws => by
    induction ws with
    | nil => intro _; rfl
    | cons w ws ih =>
      intro h
      show wipe ((wipe s ws).set w none) vs = wipe s vs
      rw [wipe_set (h w (List.mem_cons_self ..)), ih fun x hx => h x (List.mem_cons_of_mem _ hx)]
  exact go vs fun _ h => h
def dTests (c : DT) : DT := c
def dYes : DT := fun _ m Q => Q true m
structure GTs (X : Cx) (ifs : List Expr) (d : DT) : Prop where
  mk ::
  pts : PTs X ifs (liftT X.K d)
theorem gts_nil : GTs X [] dYes := ⟨⟨fun pins s σ H Q I ⟨sd, m, Qd, rs, rm, h, k⟩ => pts_nil.run pins s σ H Q I (k true H m (.refl H) rm h)⟩⟩
theorem gts_one {c : Expr} {d : DT} (h : GT X c d) : GTs X [c] d := ⟨pts_one h.pt⟩
def dComp (st : Mu → Prop) (g : DG) (t : DT) (e : DE) (p : Addr) (s : Sd) (Q : DK) : List D → List D → Mu → Prop
  | [], acc => fun m => st m ∧ m p = some (.lst acc) ∧ Q (.ref p) m
  | d :: es, acc => fun m => st m ∧ g d s m fun s2 m2 => t s2 m2 fun b m3 =>
      if b = true then e s2 m3 fun y m4 => m4 p = some (.lst acc) ∧ acc.length < sizeLine ∧ dComp st g t e p s Q es (acc ++ [y]) (mset m4 p (.lst (acc ++ [y]))) else dComp st g t e p s Q es acc m3
def dLc (di : DI) (g : DG) (t : DT) (e : DE) (vs : List Nat) : DE := fun s m Q => di s m fun es st m1 => ∀ p, m1 p = none → dComp st g t e p (wipeD s vs) Q es [] (mset m1 p (.lst []))
theorem le_lc {s : L2.St} {H : Hp} {Q : VK} {sd : Sd} {m : Mu} {Qd : DK} {tg iter : Expr} {vs : List Nat} {wi : TI} {di : DI} {g : TG} {dg : DG} {js : List Nat} {dt : DT} {de : DE} (hi : GI X tg iter wi di) (lg : LG X.K g dg js) (hj : ∀ j ∈ js, j ∈ vs)
    (rs : RS X.K H sd s) (rm : RM X.K H m) (h : dLc di dg dt de vs sd m Qd) (k : ∀ v H' dv m', TX H H' → RM X.K H' m' → Rep X.K H' dv v → Qd dv m' → Q v H') : tLc wi g (liftT X.K dt) (liftE X.K de) vs s H Q := by
  refine hi.li s H sd m _ _ rs rm h fun J H1 es st m1 t1 rm1 jo h1 => ?_
  intro p hp
  have h2 := h1 p (rm1.fresh hp)
  have tn : TX H1 (upd H1 p (.lst [])) := .new hp
  refine ⟨fun i n H' => i ≤ es.length ∧ n = es.length - i ∧ ∃ m' acc, TX H1 H' ∧ RM X.K H' m' ∧ dComp st dg dt de p (wipeD sd vs) Qd (es.drop i) acc m', ⟨es.length, Nat.zero_le _, by omega, _, [], tn, rm1.newL hp .nil, h2⟩, ?_⟩
  rintro i n H' ⟨hle, rfl, m', acc, t2, rm2, q⟩
  by_cases hlt : i < es.length
  · rw [List.drop_eq_getElem_cons hlt] at q
    obtain ⟨hst, q⟩ := q
    refine .inr ⟨jo.go i H' m' t2 rm2 hst hlt, fun H2 => ∃ m2 acc, TX H1 H2 ∧ RM X.K H2 m2 ∧ dComp st dg dt de p (wipeD sd vs) Qd (es.drop (i + 1)) acc m2, fun H2 ⟨m2, acc, a, b, e⟩ => ⟨es.length - (i + 1), by omega, hlt, rfl, m2, acc, a, b, e⟩, fun x H3 hy => ?_⟩
    obtain ⟨dx, e, t3, rm3, rx⟩ := jo.yld i H' x H3 m' t2 rm2 hst hlt hy
    rw [List.getElem?_eq_getElem hlt] at e
    cases e
    refine lg x _ (wipe s vs) H3 (wipeD sd vs) m' _ _ rx ((rs.mono (t1.trans (t2.trans t3))).wipe _) rm3 q fun s4 H4 sd4 m4 t4 rs4 rm4 q4 ow => ?_
    refine ⟨by rw [ow _ hj, wipe_wipe], ?_⟩
    have t14 : TX H1 H4 := t2.trans (t3.trans t4)
    refine liftT_le _ dt s4 H4 sd4 m4 _ _ rs4 rm4 q4 fun b H5 m5 t5 rm5 q5 => ?_
    cases b with
    | true =>
      show liftE X.K de s4 H5 _
      refine liftE_le _ de s4 H5 sd4 m5 _ _ (rs4.mono t5) rm5 q5 fun y H6 dy m6 t6 rm6 ry q6 => ?_
      obtain ⟨e6, hz, q6⟩ := q6
      obtain ⟨ws, e7, r7⟩ := rm6 p _ e6
      exact ⟨ws, e7, by rw [← r7.length]; exact hz, _, acc ++ [dy], t14.trans (t5.trans (t6.trans (.lst e7))), rm6.setL e7 (r7.append (.cons ry .nil)), q6⟩
    | false =>
      exact ⟨m5, acc, t14.trans t5, rm5, q5⟩
  · have e : i = es.length := by omega
    subst e
    rw [List.drop_length] at q
    exact .inl ⟨jo.stop _ H' m' t2 rm2 q.1 (Nat.le_refl _), k _ H' _ m' (t1.trans t2) rm2 (.ref p) q.2.2⟩
theorem ge_lc {elt tg iter : Expr} {ifs : List Expr} {scope : Scope} {own : List (Str × Nat)} {pos : Pos} {di : DI} {dg : DG} {js : List Nat} {dt : DT} {de : DE} (hc : X.calm = true) (hN : X.N.Nodup) (hi : GIE X tg iter di) (ok : BlkOk X.N X.env.scope scope own)
    (hg : ∀ (s : Shared) (H : Hp) (C : Addr) (cl : List (Str × Addr)) (fp : List Addr), GG (X.blk s H scope (compEnvC scope cl C X.env) fp) tg dg js) (ht : ∀ (s : Shared) (H : Hp) (C : Addr) (cl : List (Str × Addr)) (fp : List Addr), GTs (X.blk s H scope (compEnvC scope cl C X.env) fp) ifs dt)
    (he : ∀ (s : Shared) (H : Hp) (C : Addr) (cl : List (Str × Addr)) (fp : List Addr), GE (X.blk s H scope (compEnvC scope cl C X.env) fp) elt de) (hj : ∀ j ∈ js, j ∈ own.map (·.2)) (hs : ∀ x, foldedSetIterable iter X.env x = pure x := by intro _; rfl) :
    GE X (.ListComp elt [⟨tg, iter, ifs, 0⟩] scope pos) (dLc di dg dt de (own.map (·.2))) := by
  obtain ⟨wi, hi⟩ := hi
  refine ⟨⟨fun pins s0 s H Q I ⟨sd, m, Qd, rs, rm, h, k⟩ => (pe_lc (g := liftG X.K dg js) (tt := liftT X.K dt) (te := liftE X.K de) hc hN hi.pi ok (fun s H C cl fp => (hg s H C cl fp).pg) (fun s H C cl fp => (ht s H C cl fp).pts) (fun s H C cl fp => (he s H C cl fp).pe) hs).run pins s0 s H Q I ?_⟩⟩
  exact le_lc hi (hg s0 H 0 [] []).lg hj rs rm h k
theorem gs_setLc {i : Nat} {y : Str} {py spos : Pos} {elt tg iter : Expr} {ifs : List Expr} {scope : Scope} {own : List (Str × Nat)} {pos : Pos} {di : DI} {dg : DG} {js : List Nat} {dt : DT} {de : DE} (hc : X.calm = true) (hN : X.N.Nodup) (hy : X.N[i]? = some y) (hyl : X.env.scope.names.lookup y = some .local)
    (hsw : swapsWith (.ListComp elt [⟨tg, iter, ifs, 0⟩] scope pos) (some (.Name y py)) spos.line X.env = pure true) (hi : GIE X tg iter di) (ok : BlkOk X.N X.env.scope scope own)
    (hg : ∀ (s : Shared) (H : Hp) (C : Addr) (cl : List (Str × Addr)) (fp : List Addr), GG (X.blk s H scope (compEnvC scope cl C X.env) fp) tg dg js) (ht : ∀ (s : Shared) (H : Hp) (C : Addr) (cl : List (Str × Addr)) (fp : List Addr), GTs (X.blk s H scope (compEnvC scope cl C X.env) fp) ifs dt)
    (he : ∀ (s : Shared) (H : Hp) (C : Addr) (cl : List (Str × Addr)) (fp : List Addr), GE (X.blk s H scope (compEnvC scope cl C X.env) fp) elt de) (hj : ∀ j ∈ js, j ∈ own.map (·.2)) (hs : ∀ x, foldedSetIterable iter X.env x = pure x := by intro _; rfl) :
    GS X (.Assign [.Name y py] (.ListComp elt [⟨tg, iter, ifs, 0⟩] scope pos) spos) (dSet i (dLc di dg dt de (own.map (·.2)))) := by
  obtain ⟨wi, hi⟩ := hi
  have P : PS X (.Assign [.Name y py] (.ListComp elt [⟨tg, iter, ifs, 0⟩] scope pos) spos) (fun E s H => ∃ sd m Ed, RS X.K H sd s ∧ RM X.K H m ∧ dSet i (dLc di dg dt de (own.map (·.2))) Ed sd m ∧
      ∀ s' H' sd' m', TX H H' → RS X.K H' sd' s' → RM X.K H' m' → Ed.nx sd' m' → E.nx s' H') :=
    ⟨fun pins s0 s H E I ⟨sd, m, Ed, rs, rm, h, k⟩ => (ps_setLc (g := liftG X.K dg js) (tt := liftT X.K dt) (te := liftE X.K de) hc hN hy hyl hsw hi.pi ok (fun s H C cl fp => (hg s H C cl fp).pg) (fun s H C cl fp => (ht s H C cl fp).pts) (fun s H C cl fp => (he s H C cl fp).pe) hs).run pins s0 s H E I
      (le_lc (Qd := fun x m1 => Ed.nx (sd.set i (some x)) m1) hi (hg s0 H 0 [] []).lg hj rs rm h fun v H' dv m' t rm' rv q => k _ H' _ m' t ((rs.mono t).set rv i) rm' q)⟩
  exact ⟨_, P, fun s H sd m Ed E rs rm h k1 _ _ _ => ⟨sd, m, Ed, rs, rm, h, k1⟩⟩
theorem lr_ip {K : PySem.W.Frag} {f : Int → Int → Int} : LR K (ipI f) (dInt2 (fun _ _ => True) f) := fun x y H dx dy m Qd Q rm rx ry h k => by
  cases rx with
  | int i =>
    cases ry with
    | int j => exact ⟨i, j, rfl, rfl, k _ H _ m (.refl H) rm (.int _) h.2⟩
    | _ => exact h.elim
  | _ => exact h.elim
end
end PD

set_option Elab.async false
set_option linter.all false
set_option maxRecDepth 100000
set_option maxHeartbeats 4000000
namespace PD
open PySem PySem.Spec PyProof.Rows L2
def startD (N : List Str) (ds : List D) : Sd := ds.map some ++ List.replicate (N.length - ds.length) none
def endsOf (Qd : DK) : DEnds := { nx := fun _ m' => ∃ m'', Sub m'' m' ∧ Qd .non m'', rt := fun v m' => ∃ m'', Sub m'' m' ∧ Qd v m'' }
theorem rs_start {K : PySem.W.Frag} {H : Hp} {N : List Str} {ds : List D} {vs : List V} (r : RepL K H ds vs) : RS K H (startD N ds) (L2.start N vs) := by
  refine ⟨by unfold startD L2.start; simp [r.length], fun i d e => ?_⟩
  unfold startD at e
  unfold L2.start
  have hl := r.length
  by_cases h : i < ds.length
  · rw [List.getElem?_append_left (by rw [List.length_map]; exact h), List.getElem?_map, List.getElem?_eq_getElem h] at e
    cases e
    obtain ⟨v, e2, q⟩ := r.get (List.getElem?_eq_getElem h)
    refine ⟨v, ?_, q⟩
    rw [List.getElem?_append_left (by rw [List.length_map]; omega), List.getElem?_map, e2]
    rfl
  · rw [List.getElem?_append_right (by rw [List.length_map]; omega), List.getElem?_replicate] at e
    split at e
    · cases e
    · cases e
section
variable {P : Program} {w : World} {K : PySem.W.Frag} {mg : Str → Option Value} {base : Heap}
theorem fn_ok {x qual : Str} {st : Stmt} {f : Addr} {fd : FuncData} {N ps : List Str} {k : Nat} {sd : SpD} {d : DS} (F : Fun K x qual st f fd) (S : FnScope N ps (defScope st))
    (hb : ∀ (cdv : Value) (A : Around) (outer : List Env) (s : Shared) (H : Hp) (E : XK), Room k (A.deeper (envOfC qual (defScope st) s.heap.objs.size f cdv)) →
      GSs (cxOf CX0 P w K mg base N qual (defScope st) f cdv A outer s H E).nox (defBody st) d)
    (hd : ∀ ds m Qd, sd ds m Qd → d (endsOf Qd) (startD N ds) m) : FnOk P w K mg base CX0 (k + 1) f fd ps (spL K ps.length sd) := by
  refine F.ok S (fun vs H Q E ⟨ds, m, Qd, r, rm, h, _⟩ => by rw [← r.length]; exact h.1) fun cdv A outer s H vs Q E hr ⟨ds, m, Qd, r, rm, ⟨_, h⟩, kq⟩ => ?_
  obtain ⟨t, p, l⟩ := (hb cdv A outer s H E hr).ex
  refine ⟨t, p, ?_⟩
  refine l (L2.start N vs) H (startD N ds) m (endsOf Qd) _ (rs_start r) rm (hd ds m Qd h) ?_ ?_ ?_ ?_
  · intro s' H' sd' m' t' rs' rm' ⟨m'', sb, q⟩
    exact kq .non H' .non m'' t' (rm'.sub sb) .non q
  · intro v H' dv m' t' rm' rv ⟨m'', sb, q⟩
    exact kq v H' dv m'' t' (rm'.sub sb) rv q
  · intro _ _ _ _ _ _ _ h; exact h.elim
  · intro _ _ _ _ _ _ _ h; exact h.elim
/-- any function whose keywords are its parameters in their order -/
theorem kw_all {x qual : Str} {st : Stmt} {f : Addr} {fd : FuncData} {ps : List Str} (F : Fun K x qual st f fd)
    (h : ∀ (kV doc pm : Value) (an : Option Addr) (cdv ct : Value) (ws : List Value), ws.length = ps.length → bindArgs (PySem.W.fnOf x qual (defArgs st) (defBody st) (defScope st) .none kV doc pm an cdv ct) ⟨[], ps.zip ws⟩ = pure (ps.zip ws)) : KwAll K fd ps ps := by
  obtain ⟨oc, od, kV, doc, pm, an, cdv, ct, osl, rfl, lk, hcd⟩ := F.ex
  refine ⟨fun s us ws hK hl => ?_, fun {vs us zs ws} r rz => ?_⟩
  · cases us with
    | nil => exact .of_eq (h kV doc pm an cdv ct ws hl)
    | cons u us =>
      have e : gK ps.length (u :: us) ws = List.replicate (ps.length + 1) Value.none := rfl
      rw [e, List.length_replicate] at hl
      exact absurd hl (Nat.succ_ne_self _)
  · cases r with
    | nil => exact rz
    | cons a b =>
      show Vals (List.replicate (ps.length + 1) V.non) (List.replicate (ps.length + 1) Value.none)
      generalize ps.length + 1 = n
      induction n with
      | zero => exact .nil
      | succ n ih => exact .cons rfl ih
end
end PD

set_option Elab.async false
set_option linter.all false
set_option maxRecDepth 100000
set_option maxHeartbeats 4000000
namespace PD
open PySem PySem.Spec PyProof.Rows L2
section
variable {m : Mu} {a b : Str} {i j : Int} {p q : Bool} {xs ys : List D} {x y z u v : D} {A : Addr}
theorem seqOf_tup : seqOf m (.tup xs) = some xs := rfl
theorem seqOf_rol : seqOf m (.rol xs) = some xs := rfl
theorem seqOf_ref (h : m A = some (.lst xs)) : seqOf m (.ref A) = some xs := by unfold seqOf; simp only [h]
theorem seqW_tup : seqW m (.tup xs) = some xs := rfl
theorem seqW_ref (h : m A = some (.lst xs)) : seqW m (.ref A) = some xs := by unfold seqW; simp only [h]
theorem lstOf_ref (h : m A = some (.lst xs)) : lstOf m (.ref A) = some (A, xs) := by unfold lstOf; simp only [h]
theorem eqK_ss : eqK m (.str a) (.str b) = some (a == b) := rfl
theorem eqK_ii : eqK m (.int i) (.int j) = some (i == j) := rfl
theorem eqK_bb : eqK m (.bl p) (.bl q) = some (p == q) := rfl
theorem eqK_nn : eqK m .non .non = some true := rfl
theorem eqK_ts : eqK m (.tup xs) (.str b) = some false := rfl
theorem eqK_st : eqK m (.str b) (.tup xs) = some false := rfl
theorem eqK_ti : eqK m (.tup xs) (.int i) = some false := rfl
theorem eqK_is : eqK m (.int i) (.str b) = some false := rfl
theorem eqK_ns : eqK m .non (.str b) = some false := rfl
theorem eqK_rs (h : m A = some (.lst xs)) : eqK m (.ref A) (.str b) = some false := by
  unfold eqK isSeq
  rw [seqOf_ref h]
  rfl
theorem flatD_str : flatD (.str a) = true := rfl
theorem flatD_int : flatD (.int i) = true := rfl
theorem flatD_bl : flatD (.bl p) = true := rfl
theorem flatD_non : flatD .non = true := rfl
theorem isNon_non : isNon .non = true := rfl
theorem isNon_bl : isNon (.bl p) = false := rfl
theorem isNon_int : isNon (.int i) = false := rfl
theorem isNon_str : isNon (.str a) = false := rfl
theorem isNon_tup : isNon (.tup xs) = false := rfl
theorem tyD_non : tyD m .non = some "NoneType" := rfl
theorem tyD_bl : tyD m (.bl p) = some "bool" := rfl
theorem tyD_int : tyD m (.int i) = some "int" := rfl
theorem tyD_str : tyD m (.str a) = some "str" := rfl
theorem tyD_tup : tyD m (.tup xs) = some "tuple" := rfl
theorem truD_bl : truD m (.bl p) = some p := rfl
theorem truD_int : truD m (.int i) = some (i != 0) := rfl
theorem truD_tup : truD m (.tup xs) = some (!xs.isEmpty) := rfl
theorem truD_ref (h : m A = some (.lst xs)) : truD m (.ref A) = some (!xs.isEmpty) := by
  show (seqOf m (.ref A)).map _ = _
  rw [seqOf_ref h]; rfl
theorem atI_0 {α : Type} {x : α} {xs : List α} : atI (x :: xs) 0 = some x := atI_nat (j := 0) rfl
theorem atI_1 {α : Type} {x y : α} {xs : List α} : atI (x :: y :: xs) 1 = some y := atI_nat (j := 1) rfl
theorem atI_2 {α : Type} {x y z : α} {xs : List α} : atI (x :: y :: z :: xs) 2 = some z := atI_nat (j := 2) rfl
theorem atI_3 {α : Type} {x y z u : α} {xs : List α} : atI (x :: y :: z :: u :: xs) 3 = some u := atI_nat (j := 3) rfl
theorem atI_4 {α : Type} {x y z u v : α} {xs : List α} : atI (x :: y :: z :: u :: v :: xs) 4 = some v := atI_nat (j := 4) rfl
theorem atI_m1 {α : Type} {x : α} : atI [x] (-1) = some x := atI_last [] x
theorem atI_m2 {α : Type} {x y : α} : atI [x, y] (-1) = some y := atI_last [x] y
theorem atI_m3 {α : Type} {x y z : α} : atI [x, y, z] (-1) = some z := atI_last [x, y] z
theorem ixN_0 {n : Nat} : ixN (n + 1) 0 = some 0 := by unfold ixN; rw [if_pos (by omega), if_pos (by omega)]; rfl
theorem ixN_1 {n : Nat} : ixN (n + 2) 1 = some 1 := by unfold ixN; rw [if_pos (by omega), if_pos (by omega)]; rfl
theorem ixN_2 {n : Nat} : ixN (n + 3) 2 = some 2 := by unfold ixN; rw [if_pos (by omega), if_pos (by omega)]; rfl
theorem ixN_3 {n : Nat} : ixN (n + 4) 3 = some 3 := by unfold ixN; rw [if_pos (by omega), if_pos (by omega)]; rfl
theorem ixN_40 : ixN 4 0 = some 0 := rfl
theorem ixN_41 : ixN 4 1 = some 1 := rfl
theorem ixN_42 : ixN 4 2 = some 2 := rfl
theorem ixN_43 : ixN 4 3 = some 3 := rfl
theorem seqI_0 {n : Nat} : seqIndex? 0 (n + 1) = some 0 := (ixN_seq ixN_0).1
theorem mset_skip {m : Mu} {a b : Addr} {o o' : MO} (h : b ≠ a) (e : m b = some o) : mset m a o' b = some o := by rw [mset_ne h]; exact e
/-! operations on known kinds -/
section
variable {Q : DK} {s : Sd} {B : Addr}
theorem dAdd_i : dAdd (.int i) (.int j) m Q = Q (.int (i + j)) m := rfl
theorem dAdd_s : dAdd (.str a) (.str b) m Q = (a.length + b.length ≤ sizeLine ∧ Q (.str (a ++ b)) m) := rfl
theorem dAdd_t : dAdd (.tup xs) (.tup ys) m Q = (xs.length + ys.length ≤ sizeLine ∧ Q (.tup (xs ++ ys)) m) := rfl
theorem dAdd_r : dAdd (.ref A) (.ref B) m Q = (∃ xs ys, m A = some (.lst xs) ∧ m B = some (.lst ys) ∧ xs.length + ys.length ≤ sizeLine ∧ ∀ p, m p = none → Q (.ref p) (mset m p (.lst (xs ++ ys)))) := rfl
theorem dSub_i : dSub (.int i) (.int j) m Q = Q (.int (i - j)) m := rfl
theorem dInt2_i {C : Int → Int → Prop} {g : Int → Int → Int} : dInt2 C g (.int i) (.int j) m Q = (C i j ∧ Q (.int (g i j)) m) := rfl
theorem dMul_i : dMul (.int i) (.int j) m Q = (CMul i j ∧ Q (.int (i * j)) m) := rfl
theorem dMul_s : dMul (.str a) (.int j) m Q = (0 ≤ j ∧ j ≤ 1000 ∧ a.length ≤ 1000 ∧ Q (.str (repS a j.toNat)) m) := rfl
theorem dNeg_i : dNeg (.int i) m Q = Q (.int (-i)) m := rfl
theorem dCmp_i {g : Int → Int → Bool} : dCmp g (.int i) (.int j) m Q = Q (.bl (g i j)) m := rfl
theorem dIsN_n : dIsN x .non m Q = Q (.bl (isNon x)) m := rfl
theorem dNotN_n : dNotN x .non m Q = Q (.bl (!isNon x)) m := rfl
theorem dInG_t {f : Bool → Bool} : dInG f x (.tup xs) m Q = (flatD x = true ∧ xs.all flatD = true ∧ Q (.bl (f (inF x xs))) m) := propext ⟨fun ⟨_, e, h⟩ => by cases e; exact h, fun h => ⟨_, rfl, h⟩⟩
theorem dInG_r {f : Bool → Bool} : dInG f x (.ref A) m Q = ∃ ds, seqOf m (.ref A) = some ds ∧ flatD x = true ∧ ds.all flatD = true ∧ Q (.bl (f (inF x ds))) m := rfl
theorem dIx_s : dIx (.str a) (.int i) m Q = (a.length ≤ sizeLine ∧ ∃ c, atI a.cps.toList i = some c ∧ Q (.str ⟨#[c]⟩) m) := rfl
theorem dIx_t : dIx (.tup xs) (.int i) m Q = ∃ d, atI xs i = some d ∧ Q d m := propext ⟨fun ⟨_, e, h⟩ => by cases e; exact h, fun h => ⟨_, rfl, h⟩⟩
theorem dIx_r : dIx (.ref A) (.int i) m Q = ∃ ds, seqOf m (.ref A) = some ds ∧ ∃ d, atI ds i = some d ∧ Q d m := rfl
theorem dLen_s : dLen [.str a] m Q = (a.length ≤ sizeLine ∧ Q (.int a.length) m) := rfl
theorem dLen_t : dLen [.tup xs] m Q = Q (.int xs.length) m := propext ⟨fun ⟨_, e, h⟩ => by cases e; exact h, fun h => ⟨_, rfl, h⟩⟩
theorem dLen_r : dLen [.ref A] m Q = ∃ es, seqOf m (.ref A) = some es ∧ Q (.int es.length) m := rfl
theorem dTuple_1 : dTuple [x] m Q = ∃ es, seqOf m x = some es ∧ Q (.tup es) m := rfl
theorem dList_1 : dList [x] m Q = ∃ es, seqOf m x = some es ∧ ∀ p, m p = none → Q (.ref p) (mset m p (.lst es)) := rfl
theorem dInt1_i : dInt1 [.int i] m Q = Q (.int i) m := rfl
theorem dTwo_i {g : Int → Int → Int} : dTwo g [.int i, .int j] m Q = Q (.int (g i j)) m := rfl
def dSlV (lo hi : Option Int) (x : D) (m3 : Mu) (Q : DK) : Prop := match x with
  | .tup ds => Q (.tup (cutD ds lo hi)) m3
  | .ref a => ∃ ds, seqOf m3 (.ref a) = some ds ∧ ∀ p, m3 p = none → Q (.ref p) (mset m3 p (.lst (cutD ds lo hi)))
  | _ => False
theorem dSl_v {de : DE} {dl dh : DO} : dSl de dl dh s m Q = de s m fun x m1 => dl s m1 fun lo m2 => dh s m2 fun hi m3 => dSlV lo hi x m3 Q := rfl
theorem dSlV_t {lo hi : Option Int} : dSlV lo hi (.tup xs) m Q = Q (.tup (cutD xs lo hi)) m := rfl
theorem dSlV_r {lo hi : Option Int} : dSlV lo hi (.ref A) m Q = ∃ ds, seqOf m (.ref A) = some ds ∧ ∀ p, m p = none → Q (.ref p) (mset m p (.lst (cutD ds lo hi))) := rfl
def dRevV (x : D) (m1 : Mu) (Q : DK) : Prop := match x with
  | .tup ds => Q (.tup ds.reverse) m1
  | .ref a => ∃ ds, seqOf m1 (.ref a) = some ds ∧ ∀ p, m1 p = none → Q (.ref p) (mset m1 p (.lst ds.reverse))
  | _ => False
theorem dRev_v {de : DE} : dRev de s m Q = de s m fun x m1 => dRevV x m1 Q := rfl
theorem dRevV_t : dRevV (.tup xs) m Q = Q (.tup xs.reverse) m := rfl
theorem dRevV_r : dRevV (.ref A) m Q = ∃ ds, seqOf m (.ref A) = some ds ∧ ∀ p, m p = none → Q (.ref p) (mset m p (.lst ds.reverse)) := rfl
variable {R : List D → (Mu → Prop) → Mu → Prop}
def dISeqV (x : D) (m1 : Mu) (R : List D → (Mu → Prop) → Mu → Prop) : Prop := match x with
  | .tup ds => R ds (fun _ => True) m1
  | .rol ds => R ds (fun _ => True) m1
  | .ref p => ∃ ds, seqOf m1 (.ref p) = some ds ∧ R ds (fun m' => seqOf m' (.ref p) = some ds) m1
  | _ => False
theorem dISeq_v {de : DE} : dISeq de s m R = de s m fun x m1 => dISeqV x m1 R := rfl
theorem dISeqV_t : dISeqV (.tup xs) m R = R xs (fun _ => True) m := rfl
theorem dISeqV_l : dISeqV (.rol xs) m R = R xs (fun _ => True) m := rfl
theorem dISeqV_r : dISeqV (.ref A) m R = ∃ ds, seqOf m (.ref A) = some ds ∧ R ds (fun m' => seqOf m' (.ref A) = some ds) m := rfl
def dIEnumV (ds : List D) (m1 : Mu) (R : List D → (Mu → Prop) → Mu → Prop) : Prop := match ds with
  | [.tup es] => R (enumD 0 es) (fun _ => True) m1
  | [.ref p] => ∃ es, seqOf m1 (.ref p) = some es ∧ R (enumD 0 es) (fun m' => seqOf m' (.ref p) = some es) m1
  | _ => False
theorem dIEnum_v {da : DA} : dIEnum da s m R = da s m fun ds m1 => dIEnumV ds m1 R := rfl
theorem dIEnumV_t : dIEnumV [.tup xs] m R = R (enumD 0 xs) (fun _ => True) m := rfl
theorem dIEnumV_r : dIEnumV [.ref A] m R = ∃ es, seqOf m (.ref A) = some es ∧ R (enumD 0 es) (fun m' => seqOf m' (.ref A) = some es) m := rfl
theorem dPop_0 : dPop x [] m Q = ∃ a es d, lstOf m x = some (a, es) ∧ es[es.length - 1]? = some d ∧ Q d (mset m a (.lst es.dropLast)) := rfl
theorem dPop_i : dPop x [.int i] m Q = ∃ a es, lstOf m x = some (a, es) ∧ -(2 ^ 63) ≤ i ∧ i < 2 ^ 63 ∧ ∃ k, seqIndex? i es.length = some k ∧ ∃ d, es[k]? = some d ∧ Q d (mset m a (.lst (es.eraseIdx k))) := rfl
theorem dAppend_1 : dAppend x [y] m Q = ∃ a es, lstOf m x = some (a, es) ∧ es.length < sizeLine ∧ Q .non (mset m a (.lst (es ++ [y]))) := rfl
theorem dExtend_1 : dExtend x [y] m Q = ∃ a es zs, lstOf m x = some (a, es) ∧ seqW m y = some zs ∧ es.length + zs.length ≤ sizeLine ∧ Q .non (mset m a (.lst (es ++ zs))) := rfl
theorem dSub3_i {v : D} {R : Mu → Prop} : dSub3 x (.int i) v m R = ∃ a es, lstOf m x = some (a, es) ∧ ∃ j, ixN es.length i = some j ∧ R (mset m a (.lst (es.set j v))) := rfl
theorem dSortP_r : dSortP [.ref A] m Q = ∃ ps : List (Int × Int), seqOf m (.ref A) = some (ps.map pD) ∧ ∀ qs : List (Int × Int), qs.Perm ps → qs.Pairwise pLe → ∀ p, m p = none → Q (.ref p) (mset m p (.lst (qs.map pD))) := rfl
def dRng1V (ds : List D) (m1 : Mu) (R : List D → (Mu → Prop) → Mu → Prop) : Prop := match ds with
  | [.int j] => -(2 ^ 62) ≤ j ∧ j < 2 ^ 62 ∧ R (rangeD 0 j.toNat) (fun _ => True) m1
  | _ => False
theorem dIRng1_v {da : DA} : dIRng1 da s m R = da s m fun ds m1 => dRng1V ds m1 R := rfl
theorem dRng1V_i : dRng1V [.int i] m R = (-(2 ^ 62) ≤ i ∧ i < 2 ^ 62 ∧ R (rangeD 0 i.toNat) (fun _ => True) m) := rfl
end
theorem isT_NoneType_bool : isT "NoneType" "bool" = false := by decide
theorem isT_NoneType_int : isT "NoneType" "int" = false := by decide
theorem isT_NoneType_str : isT "NoneType" "str" = false := by decide
theorem isT_NoneType_tuple : isT "NoneType" "tuple" = false := by decide
theorem isT_NoneType_list : isT "NoneType" "list" = false := by decide
theorem isT_bool_bool : isT "bool" "bool" = true := by decide
theorem isT_bool_int : isT "bool" "int" = true := by decide
theorem isT_bool_str : isT "bool" "str" = false := by decide
theorem isT_bool_tuple : isT "bool" "tuple" = false := by decide
theorem isT_bool_list : isT "bool" "list" = false := by decide
theorem isT_int_bool : isT "int" "bool" = false := by decide
theorem isT_int_int : isT "int" "int" = true := by decide
theorem isT_int_str : isT "int" "str" = false := by decide
theorem isT_int_tuple : isT "int" "tuple" = false := by decide
theorem isT_int_list : isT "int" "list" = false := by decide
theorem isT_str_bool : isT "str" "bool" = false := by decide
theorem isT_str_int : isT "str" "int" = false := by decide
theorem isT_str_str : isT "str" "str" = true := by decide
theorem isT_str_tuple : isT "str" "tuple" = false := by decide
theorem isT_str_list : isT "str" "list" = false := by decide
theorem isT_tuple_bool : isT "tuple" "bool" = false := by decide
theorem isT_tuple_int : isT "tuple" "int" = false := by decide
theorem isT_tuple_str : isT "tuple" "str" = false := by decide
theorem isT_tuple_tuple : isT "tuple" "tuple" = true := by decide
theorem isT_tuple_list : isT "tuple" "list" = false := by decide
theorem isT_list_bool : isT "list" "bool" = false := by decide
theorem isT_list_int : isT "list" "int" = false := by decide
theorem isT_list_str : isT "list" "str" = false := by decide
theorem isT_list_tuple : isT "list" "tuple" = false := by decide
theorem isT_list_list : isT "list" "list" = true := by decide
theorem small_line {n : Nat} (h : n ≤ 1000) : n ≤ sizeLine := Nat.le_trans h (by decide)
theorem sub_refl_fin {Qd : DK} {v : D} (h : Qd v m) : ∃ m'', Sub m'' m ∧ Qd v m'' := ⟨m, .refl m, h⟩
/-! ### loops and comprehensions by what holds between their turns -/
theorem loop_inv {st : Mu → Prop} {g : DG} {tb : DS} {E : DEnds} (J : List D → Sd → Mu → Prop)
    (hs : ∀ d rem s m (R : Sd → Mu → Prop), (∀ s m, J rem s m → R s m) → J (d :: rem) s m → st m ∧ g d s m fun s2 m2 => tb { E with nx := R, ct := R, bk := E.nx } s2 m2)
    (he : ∀ s m, J [] s m → st m ∧ E.nx s m) : ∀ {es : List D} {s : Sd} {m : Mu}, J es s m → dLoop st g tb E es s m
  | [], s, m, h => he s m h
  | d :: es, s, m, h => hs d es s m _ (fun s' m' h' => loop_inv J hs he h') h
theorem comp_inv {st : Mu → Prop} {g : DG} {t : DT} {e : DE} {p : Addr} {s : Sd} {Q : DK} (J : List D → List D → Mu → Prop)
    (hs : ∀ d rem acc m (R : List D → Mu → Prop), (∀ acc m, J rem acc m → R acc m) → J (d :: rem) acc m → st m ∧ g d s m fun s2 m2 => t s2 m2 fun b m3 =>
      if b = true then e s2 m3 fun y m4 => m4 p = some (.lst acc) ∧ acc.length < sizeLine ∧ R (acc ++ [y]) (mset m4 p (.lst (acc ++ [y]))) else R acc m3)
    (he : ∀ acc m, J [] acc m → st m ∧ m p = some (.lst acc) ∧ Q (.ref p) m) : ∀ {es acc : List D} {m : Mu}, J es acc m → dComp st g t e p s Q es acc m
  | [], acc, m, h => he acc m h
  | d :: es, acc, m, h => hs d es acc m _ (fun acc' m' h' => comp_inv J hs he h') h
/-- each item's answer is f of it, kept where c; nothing else changes -/
theorem comp_pure {st : Mu → Prop} {g : DG} {t : DT} {e : DE} {p : Addr} {s : Sd} {Q : DK} {m : Mu} (c : D → Bool) (f : D → D) (hst : ∀ a, st (mset m p (.lst a))) {es0 : List D} (hz : es0.length ≤ 100000)
    (h : ∀ d ∈ es0, ∀ a (R1 : D → Mu → Prop) (R2 : Mu → Prop), (c d = true → R1 (f d) (mset m p (.lst a))) → (c d = false → R2 (mset m p (.lst a))) → g d s (mset m p (.lst a)) fun s2 m2 => t s2 m2 fun b m3 => if b = true then e s2 m3 R1 else R2 m3)
    (hq : Q (.ref p) (mset m p (.lst ((es0.filter c).map f)))) : dComp st g t e p s Q es0 [] (mset m p (.lst [])) := by
  refine comp_inv (fun rem acc m' => ∃ pre, es0 = pre ++ rem ∧ acc = (pre.filter c).map f ∧ m' = mset m p (.lst acc)) (fun d rem acc m1 R hR ⟨pre, e1, e2, e3⟩ => ?_) (fun acc m1 ⟨pre, e1, e2, e3⟩ => ?_) ⟨[], rfl, rfl, rfl⟩
  · subst e3
    refine ⟨hst _, h d (by rw [e1]; simp) acc _ _ (fun hc => ⟨mset_same, ?_, ?_⟩) fun hc => ?_⟩
    · rw [e2, List.length_map]
      have h1 := List.length_filter_le c pre
      have h2 : pre.length < es0.length := by rw [e1]; simp
      exact Nat.lt_of_lt_of_le (by omega : _ < 100000) (by decide)
    · refine hR _ _ ⟨pre ++ [d], by rw [e1]; simp, ?_, mset_mset⟩
      rw [e2, List.filter_append, List.map_append]
      simp [hc]
    · refine hR _ _ ⟨pre ++ [d], by rw [e1]; simp, ?_, rfl⟩
      rw [e2, List.filter_append, List.map_append]
      simp [hc]
  · subst e3
    rw [List.append_nil] at e1
    subst e1 e2
    exact ⟨hst _, mset_same, hq⟩
theorem filter_yes {α : Type} : ∀ l : List α, l.filter (fun _ => true) = l
  | [] => rfl
  | a :: l => by rw [List.filter_cons, if_pos rfl, filter_yes l]
/-- [f(x) for x in xs] -/
theorem comp_map {st : Mu → Prop} {g : DG} {e : DE} {p : Addr} {s : Sd} {Q : DK} {m : Mu} (f : D → D) (hst : ∀ a, st (mset m p (.lst a))) {es0 : List D} (hz : es0.length ≤ 100000)
    (h : ∀ d ∈ es0, ∀ a (R1 : D → Mu → Prop), R1 (f d) (mset m p (.lst a)) → g d s (mset m p (.lst a)) fun s2 m2 => e s2 m2 R1)
    (hq : Q (.ref p) (mset m p (.lst (es0.map f)))) : dComp st g dYes e p s Q es0 [] (mset m p (.lst [])) := by
  refine comp_pure (fun _ => true) f hst hz (fun d hd a R1 R2 h1 _ => ?_) (by rw [filter_yes]; exact hq)
  have := h d hd a R1 (h1 rfl)
  unfold dYes
  simpa using this
theorem rangeD_len (lo : Int) (n : Nat) : (rangeD lo n).length = n := by unfold rangeD; rw [List.length_map, List.length_range]
theorem rangeD_succ (n : Nat) : rangeD 0 (n + 1) = rangeD 0 n ++ [.int (n : Int)] := by
  unfold rangeD
  rw [List.range_succ, List.map_append]
  simp
/-- a loop over range(n): what holds ahead of turn i -/
theorem loop_range {st : Mu → Prop} {g : DG} {tb : DS} {E : DEnds} {n : Nat} (J : Nat → Sd → Mu → Prop)
    (hs : ∀ (i : Nat) s m (R : Sd → Mu → Prop), i < n → (∀ s m, J (i + 1) s m → R s m) → J i s m → st m ∧ g (.int (i : Int)) s m fun s2 m2 => tb { E with nx := R, ct := R, bk := E.nx } s2 m2)
    (he : ∀ s m, J n s m → st m ∧ E.nx s m) {s : Sd} {m : Mu} (h : J 0 s m) : dLoop st g tb E (rangeD 0 n) s m := by
  refine loop_inv (fun rem s m => ∃ i, i ≤ n ∧ rem = (rangeD 0 n).drop i ∧ J i s m) (fun d rem s m R hR ⟨i, hi, e, hj⟩ => ?_) (fun s m ⟨i, hi, e, hj⟩ => ?_) ⟨0, Nat.zero_le _, rfl, h⟩
  · have hlt : i < n := by
      by_cases q : i < n
      · exact q
      · have e2 : i = n := by omega
        subst e2
        rw [List.drop_of_length_le (by rw [rangeD_len]; exact Nat.le_refl _)] at e
        cases e
    have hl : i < (rangeD 0 n).length := by rw [rangeD_len]; exact hlt
    rw [List.drop_eq_getElem_cons hl] at e
    injection e with e1 e2
    have e3 : (rangeD 0 n)[i] = .int (i : Int) := by unfold rangeD; simp
    rw [e3] at e1
    subst e1
    exact hs i s m R hlt (fun s' m' h' => hR s' m' ⟨i + 1, hlt, e2, h'⟩) hj
  · have e2 : i = n := by
      by_cases q : i < n
      · have hl : i < (rangeD 0 n).length := by rw [rangeD_len]; exact q
        rw [List.drop_eq_getElem_cons hl] at e
        cases e
      · omega
    subst e2
    exact he s m hj
theorem FnOk_falso {P : Program} {w : World} {K : PySem.W.Frag} {mg : Str → Option Value} {base : Heap} {k n : Nat} {f : Addr} {fd : FuncData} {ps : List Str} : FnOk P w K mg base CX0 k f fd ps (spL K n fun _ _ _ => False) :=
  ⟨fun _ _ _ _ ⟨_, _, _, _, _, h, _⟩ => h.2.elim, fun _ _ _ _ _ _ _ _ _ _ _ _ _ ⟨_, _, _, _, _, h, _⟩ => h.2.elim⟩
theorem atI_getD {α : Type} {xs : List α} {i : Nat} (h : i < xs.length) : atI xs (i : Int) = some xs[i] := atI_nat (List.getElem?_eq_getElem h)
theorem slen_app (a b : Str) : (a ++ b).length = a.length + b.length := Array.size_append
theorem atI_ex {α : Type} {xs : List α} {i : Int} (h0 : 0 ≤ i) (h1 : i < xs.length) : ∃ v, atI xs i = some v ∧ v ∈ xs := by
  obtain ⟨n, rfl⟩ : ∃ n : Nat, i = n := ⟨i.toNat, by omega⟩
  have h : n < xs.length := by omega
  exact ⟨xs[n], atI_getD h, List.getElem_mem h⟩
/-- a cut between a statement and what follows -/
theorem seq_cut {t u : DS} {E : DEnds} {s : Sd} {m : Mu} (Mid : Sd → Mu → Prop) (h1 : ∀ R : Sd → Mu → Prop, (∀ s' m', Mid s' m' → R s' m') → t { E with nx := R } s m) (h2 : ∀ s' m', Mid s' m' → u E s' m') : dSeq t u E s m := h1 _ h2
/-- all lists but two are kept -/
def OffS (a q : Addr) (m m' : Mu) : Prop := ∀ x o, x ≠ a → x ≠ q → m x = some o → m' x = some o
theorem OffS.refl (a q : Addr) (m : Mu) : OffS a q m m := fun _ _ _ _ h => h
theorem OffS.trans {a q : Addr} {m m1 m2 : Mu} (h : OffS a q m m1) (h' : OffS a q m1 m2) : OffS a q m m2 := fun x o n1 n2 e => h' x o n1 n2 (h x o n1 n2 e)
theorem OffS.setA {a q : Addr} {m m1 : Mu} {o : MO} (h : OffS a q m m1) : OffS a q m (mset m1 a o) := fun x u n1 n2 e => by rw [mset_ne n1]; exact h x u n1 n2 e
theorem OffS.setQ {a q : Addr} {m m1 : Mu} {o : MO} (h : OffS a q m m1) : OffS a q m (mset m1 q o) := fun x u n1 n2 e => by rw [mset_ne n2]; exact h x u n1 n2 e
theorem OffS.new {a q p : Addr} {m m1 : Mu} {o : MO} (h : OffS a q m m1) (hp : m1 p = none) : OffS a q m (mset m1 p o) := fun x u n1 n2 e => mset_new hp (h x u n1 n2 e)
theorem OffS.of_sub {a q : Addr} {m m1 : Mu} (h : Sub m m1) : OffS a q m m1 := fun x u _ _ e => h x u e
end
end PD

set_option Elab.async false
set_option linter.all false
set_option maxRecDepth 100000
set_option maxHeartbeats 4000000
/-! Errors: what a def may let out. Behind an error no slot of the caller is looked at (no def of the program catches one). -/
namespace PD
open PySem PySem.Spec PyProof.Rows L2
/-- a wish for errors: the class, the fields (the last one set first), the store -/
abbrev DX := Value → List (Str × D) → Mu → Prop
def FldR (K : PySem.W.Frag) (H : Hp) (fs : List (Str × D)) (d : Option Addr) : Prop := ∃ dd vs, d = some dd ∧ H dd = some (.xd vs) ∧ vs.map (·.1) = fs.map (·.1) ∧ RepL K H (fs.map (·.2)) (vs.map (·.2))
def wX (K : PySem.W.Frag) (Ed : DX) : WX := fun cls d _ H => ∃ fs m, RM K H m ∧ FldR K H fs d ∧ Ed cls fs m
abbrev SpX := List D → Mu → DK → DX → Prop
def spX (K : PySem.W.Frag) (n : Nat) (sd : SpX) : Sp := fun vs H Q E => ∃ ds m Qd Ed, RepL K H ds vs ∧ RM K H m ∧ (ds.length = n ∧ sd ds m Qd Ed) ∧ (∀ v H' dv m', TX H H' → RM K H' m' → Rep K H' dv v → Qd dv m' → Q v H') ∧ ∀ cls d H' fs m', RM K H' m' → FldR K H' fs d → Ed cls fs m' → E cls d H'
def dCallX (n : Nat) (sd : SpX) (Ed : DX) (a : DA) : DE := fun s m Q => a s m fun ds m1 => ds.length = n ∧ sd ds m1 Q Ed
section
variable {X : Cx} {Ed : DX}
theorem ge_callX {k n : Nat} {f : Addr} {fd : FuncData} {ps : List Str} {sd : SpX} {x : Str} {p pos : Pos} {e : Expr} {es : List Expr} {da : DA} (F : FnOk X.prog X.w X.K X.mg X.base (L2.CX X.prog X.w) k f fd ps (spX X.K n sd)) (tk : Takes X (wX X.K Ed)) (hr : Room k X.A) (hg : Gl X x) (hm : X.mg x = some (.ref f)) (hk : PySem.W.keepIn X.K (.ref f) = true) (hb : Binds X.K fd ps [])
    (ha : GA X (e :: es) da) (hdb : (x == ("__debug__" : Str)) = false := by decide) (he : starEach (e :: es) X.env = (false, eval e X.env) :: starEach es X.env := by rfl) (hpl : (backTo pos (starEach es X.env)).any (·.1) = false := by rfl) :
    GE X (.Call (.Name x p) (e :: es) [] pos) (dCallX n sd Ed da) := by
  obtain ⟨ta, q, l⟩ := ha.ex
  refine .of ⟨_, pe_callS (E := WE (wX X.K Ed)) F hr hg hm hk hb (passAt tk) q hdb he hpl, fun s H sd' m Qd Q rs rm h k => ?_⟩
  refine l s H sd' m _ _ rs rm h fun vs H1 ds m1 t1 rm1 r1 h1 => ?_
  exact ⟨ds, m1, Qd, Ed, r1, rm1, h1, fun v' H' dv' m' t' a b c => k v' H' dv' m' (t1.trans t') a b c, fun cls d H' fs m' a b c => ⟨fs, m', a, b, c⟩⟩
/-- raise C(..), the making told by its own reading -/
def dRaise (cls : Value) (ns : List Str) (Ed : DX) (a : DA) : DS := fun _ s m => a s m fun ds m1 => ds.length = ns.length ∧ Ed cls (ns.zip ds).reverse m1
end
section
variable {P : Program} {w : World} {K : PySem.W.Frag} {mg : Str → Option Value} {base : Heap}
theorem fn_okX {x qual : Str} {st : Stmt} {f : Addr} {fd : FuncData} {N ps : List Str} {k : Nat} {sd : SpX} {d : DX → DS} (F : Fun K x qual st f fd) (S : FnScope N ps (defScope st))
    (hb : ∀ (cdv : Value) (A : Around) (outer : List Env) (s : Shared) (H : Hp) (E : XK) (Ed : DX), Room k (A.deeper (envOfC qual (defScope st) s.heap.objs.size f cdv)) →
      Takes (cxOf (L2.CX P w) P w K mg base N qual (defScope st) f cdv A outer s H E) (wX K Ed) →
      GSs (cxOf (L2.CX P w) P w K mg base N qual (defScope st) f cdv A outer s H E) (defBody st) (d Ed))
    (hd : ∀ ds m Qd Ed, sd ds m Qd Ed → ds.length = ps.length → d Ed (endsOf Qd) (startD N ds) m) : FnOk P w K mg base (L2.CX P w) (k + 1) f fd ps (spX K ps.length sd) := by
  refine F.okX S (fun vs H Q E ⟨ds, m, Qd, Ed, r, rm, h, _⟩ => by rw [← r.length]; exact h.1) fun cdv A outer s H vs Q E hr ⟨ds, m, Qd, Ed, r, rm, ⟨hl, h⟩, kq, ke⟩ => ?_
  have tk : Takes (cxOf (L2.CX P w) P w K mg base N qual (defScope st) f cdv A outer s H E) (wX K Ed) :=
    Takes.imp (takes_of (E := E) rfl rfl rfl rfl) fun c d' σ H' ⟨fs, m', a, b, c'⟩ => ke c d' H' fs m' a b c'
  obtain ⟨t, p, l⟩ := (hb cdv A outer s H E Ed hr tk).ex
  refine ⟨t, p, ?_⟩
  refine l (L2.start N vs) H (startD N ds) m (endsOf Qd) _ (rs_start r) rm (hd ds m Qd Ed h hl) ?_ ?_ ?_ ?_
  · intro s' H' sd' m' t' rs' rm' ⟨m'', sb, q⟩
    exact kq .non H' .non m'' t' (rm'.sub sb) .non q
  · intro v H' dv m' t' rm' rv ⟨m'', sb, q⟩
    exact kq v H' dv m'' t' (rm'.sub sb) rv q
  · intro _ _ _ _ _ _ _ h; exact h.elim
  · intro _ _ _ _ _ _ _ h; exact h.elim
end
end PD

set_option Elab.async false
set_option linter.all false
set_option maxRecDepth 100000
set_option maxHeartbeats 4000000
/-! Own errors with fields: __init__ sets the parameters, one after the other. -/
namespace PD
open PySem PySem.Spec PyProof.Rows L2
/-- what __init__(self, ns) does to a fresh error -/
def iniSp (K : PySem.W.Frag) (ns : List Str) : Sp := fun vs H Q _ => ∃ (a C : Addr) (us : List V), vs = .ref a :: us ∧ us.length = ns.length ∧ OexC K C ∧ (∀ n ∈ ns, PySem.W.findIn K (.ref C) n = some none) ∧ H a = some (exo a C none) ∧
  ∀ d, H d = none → d ≠ a → Q .non (upd (upd H d (exd d (ns.zip us).reverse)) a (exo a C (some d)))
theorem upd_over {H : Hp} {a d : Addr} {A B A' : HO} (h : d ≠ a) : upd (upd (upd H d A) a B) d A' = upd (upd H d A') a B := by
  funext x
  by_cases h1 : x = d
  · subst h1; rw [upd_same, upd_ne h, upd_same]
  · rw [upd_ne h1]
    by_cases h2 : x = a
    · subst h2; rw [upd_same, upd_same]
    · rw [upd_ne h2, upd_ne h2, upd_ne h1, upd_ne h1]
theorem upd_gone {H : Hp} {a d : Addr} {A B E F : HO} (ha : H a = none) (h : d ≠ a) : upd (del (upd (upd (upd H a E) d A) a B) a) d F = upd H d F := by
  funext x
  by_cases h1 : x = d
  · subst h1; rw [upd_same, upd_same]
  · rw [upd_ne h1, upd_ne h1]
    by_cases h2 : x = a
    · subst h2; rw [del_same, ha]
    · rw [del_ne h2, upd_ne h2, upd_ne h1, upd_ne h2]
section
variable {P : Program} {w : World} {K : PySem.W.Frag} {mg : Str → Option Value} {base : Heap}
theorem ini_one {qual n : Str} {st : Stmt} {f : Addr} {fd : FuncData} (F : Fun K "__init__" qual st f fd) (S : FnScope ["self", n] ["self", n] (defScope st))
    (hb : ∀ (cdv : Value) (A : Around) (outer : List Env) (s : Shared) (H : Hp) (E : XK), PSs (cxOf CX0 P w K mg base ["self", n] qual (defScope st) f cdv A outer s H E).nox (defBody st) (tOst K n (tVar 0) (tVar 1))) :
    FnOk P w K mg base CX0 1 f fd ["self", n] (iniSp K [n]) := by
  refine F.ok S (fun vs H Q E ⟨a, C, us, e, hl, _⟩ => by rw [e]; show us.length + 1 = 2; rw [hl]; rfl) fun cdv A outer s H vs Q E hr ⟨a, C, us, e, hl, T, hno, ha, q⟩ => ⟨_, hb cdv A outer s H E, ?_⟩
  subst e
  match us, hl with
  | [u], _ =>
    refine ⟨u, rfl, .ref a, rfl, a, C, rfl, T, hno n (List.mem_singleton.mpr rfl), .inl ⟨ha, fun d h1 h2 => ?_⟩⟩
    exact q d h1 h2
theorem ini_two {qual n n2 : Str} {st : Stmt} {f : Addr} {fd : FuncData} (F : Fun K "__init__" qual st f fd) (S : FnScope ["self", n, n2] ["self", n, n2] (defScope st))
    (hb : ∀ (cdv : Value) (A : Around) (outer : List Env) (s : Shared) (H : Hp) (E : XK), PSs (cxOf CX0 P w K mg base ["self", n, n2] qual (defScope st) f cdv A outer s H E).nox (defBody st) (tSeq (tOst K n (tVar 0) (tVar 1)) (tOst K n2 (tVar 0) (tVar 2)))) :
    FnOk P w K mg base CX0 1 f fd ["self", n, n2] (iniSp K [n, n2]) := by
  refine F.ok S (fun vs H Q E ⟨a, C, us, e, hl, _⟩ => by rw [e]; show us.length + 1 = 3; rw [hl]; rfl) fun cdv A outer s H vs Q E hr ⟨a, C, us, e, hl, T, hno, ha, q⟩ => ⟨_, hb cdv A outer s H E, ?_⟩
  subst e
  match us, hl with
  | [u, u2], _ =>
    refine ⟨u, rfl, .ref a, rfl, a, C, rfl, T, hno n (by simp), .inl ⟨ha, fun d h1 h2 => ?_⟩⟩
    refine ⟨u2, rfl, .ref a, rfl, a, C, rfl, T, hno n2 (by simp), .inr ⟨d, _, upd_same, by rw [upd_ne h2, upd_same], by simp, ?_⟩⟩
    rw [upd_over h2]
    exact q d h1 h2
end
section
variable {X : Cx} {Ed : DX}
/-- raise C(e, ..) of an own error whose __init__ keeps its parameters -/
theorem gs_raise {x : Str} {C fI : Addr} {k : Nat} {fd : FuncData} {ns : List Str} {e : Expr} {es : List Expr} {da : DA} {p pos pos2 : Pos} (hc : X.calm = true) (tk : Takes X (wX X.K Ed)) (T : OexC X.K C) (hno : ∀ n ∈ ns, PySem.W.findIn X.K (.ref C) n = some none)
    (iC : PySem.W.findIn X.K (.ref C) "__init__" = some (some (.ref fI))) (tI : PySem.W.typeIn X.K (.ref fI) = some (.type "function"))
    (F1 : FnOk X.prog X.w X.K X.mg X.base CX0 k fI fd ("self" :: ns) (iniSp X.K ns)) (hr : Room (k + 1) X.A) (hb : Binds X.K fd ("self" :: ns) []) (hg : Gl X x) (hm : X.mg x = some (.ref C)) (ha : GA X (e :: es) da) (hns : ns.length ≤ 900)
    (hdb : (x == ("__debug__" : Str)) = false := by decide) (he : starEach (e :: es) X.env = (false, eval e X.env) :: starEach es X.env := by rfl) (hpl : (backTo pos (starEach es X.env)).any (·.1) = false := by rfl) :
    GS X (.Raise (some (.Call (.Name x p) (e :: es) [] pos)) none pos2) (dRaise (.ref C) ns Ed da) := by
  obtain ⟨ta, q, l⟩ := ha.ex
  refine ⟨_, ps_raise hc tk (pmk_oex T iC tI F1 hr hb .nil pass0 hg hm q hdb he hpl), fun s H sd m Ed' E rs rm h _ _ _ _ => ?_⟩
  refine l s H sd m _ _ rs rm h fun vs H1 ds m1 t1 rm1 r1 ⟨hl, h1⟩ => ?_
  have hlv : vs.length = ns.length := by rw [← r1.length]; exact hl
  refine ⟨by omega, fun a ha => ⟨a, C, vs, by rw [List.append_nil], hlv, T, hno, upd_same, fun d hd hda => ⟨rfl, d, _, upd_same, by rw [upd_ne hda, upd_same], by rw [upd_ne hda] at hd; exact hd, ?_⟩⟩⟩
  rw [upd_ne hda] at hd
  rw [upd_gone ha hda]
  have z1 : (ns.zip vs).map (·.1) = ns := List.map_fst_zip (by omega)
  have z2 : (ns.zip ds).map (·.1) = ns := List.map_fst_zip (by omega)
  have z3 : (ns.zip vs).map (·.2) = vs := List.map_snd_zip (by omega)
  have z4 : (ns.zip ds).map (·.2) = ds := List.map_snd_zip (by omega)
  refine ⟨(ns.zip ds).reverse, m1, rm1.skip hd, ⟨d, _, rfl, upd_same, ?_, ?_⟩, h1⟩
  · rw [List.map_reverse, List.map_reverse, z1, z2]
  · rw [List.map_reverse, List.map_reverse, z3, z4]
    exact r1.rev.mono (.new hd)
end
end PD

set_option Elab.async false
set_option linter.all false
set_option maxRecDepth 100000
set_option maxHeartbeats 4000000
/-! Instances: fields read and set. -/
namespace PD
open PySem PySem.Spec PyProof.Rows L2
theorem lookup_rep {κ : Type} [BEq κ] {K : PySem.W.Frag} {H : Hp} {f : κ} {u : D} : ∀ {fs : List (κ × D)} {us : List (κ × V)}, us.map (·.1) = fs.map (·.1) → RepL K H (fs.map (·.2)) (us.map (·.2)) → fs.lookup f = some u → ∃ v, us.lookup f = some v ∧ Rep K H u v
  | [], _, _, _, h => by cases h
  | (g, d) :: fs, [], e, _, _ => by cases e
  | (g, d) :: fs, (g', v) :: us, e, r, h => by
    simp only [List.map_cons] at e r
    injection e with e1 e2
    subst e1
    cases r with
    | cons r1 r2 =>
      rw [List.lookup_cons] at h ⊢
      cases q : (f == g') with
      | true => rw [q] at h; cases h; exact ⟨v, rfl, r1⟩
      | false => rw [q] at h; exact lookup_rep e2 r2 h
theorem lookup_none {κ : Type} [BEq κ] {f : κ} : ∀ {fs : List (κ × D)} {us : List (κ × V)}, us.map (·.1) = fs.map (·.1) → fs.lookup f = none → us.lookup f = none
  | [], [], _, _ => rfl
  | [], _ :: _, e, _ => by cases e
  | _ :: _, [], e, _ => by cases e
  | (g, d) :: fs, (g', v) :: us, e, h => by
    simp only [List.map_cons] at e
    injection e with e1 e2
    subst e1
    rw [List.lookup_cons] at h ⊢
    cases q : (f == g') with
    | true => rw [q] at h; cases h
    | false => rw [q] at h; exact lookup_none e2 h
theorem TX.ins {H : Hp} {a C dx : Addr} {us : List (Str × V)} {o : HO} (h : H a = some (.ins C dx us)) : TX H (upd H a o) := fun b u i e => by
  rw [upd_ne]
  · exact e
  · rintro rfl
    rw [h] at e; cases e; exact i.elim
theorem RM.setI {K : PySem.W.Frag} {H : Hp} {m : Mu} {p C dx dx' : Addr} {fs : List (Str × D)} {us ws : List (Str × V)} (r : RM K H m) (h : H p = some (.ins C dx ws)) (e1 : us.map (·.1) = fs.map (·.1)) (q : RepL K H (fs.map (·.2)) (us.map (·.2))) : RM K (upd H p (.ins C dx' us)) (mset m p (.ins C fs)) := fun a o e => by
  by_cases ha : a = p
  · subst ha
    rw [mset_same] at e; cases e
    exact ⟨dx', us, upd_same, e1, q.mono (.ins h)⟩
  · rw [mset_ne ha] at e
    refine (r a o e).tx (.ins h) fun us z => ?_
    rw [upd_ne ha]; exact z
def dFld (C : Addr) (f : Str) (de : DE) : DE := fun s m Q => de s m fun x m1 => ∃ a fs v, x = .ref a ∧ m1 a = some (.ins C fs) ∧ fs.lookup f = some v ∧ Q v m1
section
variable {X : Cx}
theorem ge_fld {C : Addr} {f : Str} {e : Expr} {de : DE} {pos : Pos} (c : Cls X.K C) (n : NoAttr X.K C f) (he : GE X e de) (hb : attributeBase e f X.env (eval e X.env) = eval e X.env := by rfl) : GE X (.Attribute e f pos) (dFld C f de) := by
  obtain ⟨te, pt, l⟩ := he.ex
  refine .of ⟨_, pe_fld pt hb, fun s H sd m Qd Q rs rm h k => l s H sd m _ _ rs rm h fun v H1 dv m1 t1 rm1 r1 h1 => ?_⟩
  obtain ⟨a, fs, u, rfl, e2, e3, h2⟩ := h1
  cases r1
  obtain ⟨dx, us, e4, e5, r⟩ := rm1 a _ e2
  obtain ⟨v', e6, r6⟩ := lookup_rep e5 r e3
  exact ⟨a, C, dx, us, v', rfl, e4, c, n, e6, k _ _ _ _ t1 rm1 r6 h2⟩
def putD (f : Str) (v : D) : List (Str × D) → List (Str × D)
  | [] => [(f, v)]
  | (g, x) :: r => if g = f then (g, v) :: r else (g, x) :: putD f v r
theorem put_names {f : Str} {y : V} {d : D} : ∀ {fs : List (Str × D)} {us : List (Str × V)}, us.map (·.1) = fs.map (·.1) → (putF f y us).map (·.1) = (putD f d fs).map (·.1)
  | [], [], _ => rfl
  | [], _ :: _, e => by cases e
  | _ :: _, [], e => by cases e
  | (g, b) :: fs, (g', v) :: us, e => by
    simp only [List.map_cons] at e
    injection e with e1 e2
    subst e1
    unfold putF putD
    by_cases h : g' = f
    · rw [if_pos h, if_pos h, List.map_cons, List.map_cons, e2]
    · rw [if_neg h, if_neg h, List.map_cons, List.map_cons, put_names e2]
theorem put_rep {K : PySem.W.Frag} {H : Hp} {f : Str} {y : V} {d : D} (ry : Rep K H d y) : ∀ {fs : List (Str × D)} {us : List (Str × V)}, us.map (·.1) = fs.map (·.1) → RepL K H (fs.map (·.2)) (us.map (·.2)) → RepL K H ((putD f d fs).map (·.2)) ((putF f y us).map (·.2))
  | [], [], _, _ => .cons ry .nil
  | [], _ :: _, e, _ => by cases e
  | _ :: _, [], e, _ => by cases e
  | (g, b) :: fs, (g', v) :: us, e, r => by
    simp only [List.map_cons] at e r
    injection e with e1 e2
    subst e1
    cases r with
    | cons r1 r2 =>
      unfold putF putD
      by_cases h : g' = f
      · rw [if_pos h, if_pos h]; exact .cons ry r2
      · rw [if_neg h, if_neg h]; exact .cons r1 (put_rep ry e2 r2)
def dSetF (C : Addr) (f : Str) (da dv : DE) : DS := fun E s m => dv s m fun y m1 => da s m1 fun x m2 => ∃ a fs, x = .ref a ∧ m2 a = some (.ins C fs) ∧ fs.length < 1000 ∧ E.nx s (mset m2 a (.ins C (putD f y fs)))
theorem gs_fld {C : Addr} {f : Str} {o value : Expr} {da dv : DE} {pos pos' : Pos} (c : Cls X.K C) (n : NoAttr X.K C f) (ha : GE X o da) (hv : GE X value dv) (hs : swapsWith value (some (.Attribute o f pos')) pos.line X.env = pure false := by rfl) : GS X (.Assign [.Attribute o f pos'] value pos) (dSetF C f da dv) := by
  obtain ⟨ta, pa, la⟩ := ha.ex
  obtain ⟨tv, pv', lv⟩ := hv.ex
  refine ⟨_, ps_fld pa pv' hs, fun s H sd m Ed E rs rm h k1 _ _ _ => ?_⟩
  refine lv s H sd m _ _ rs rm h fun y H1 dy m1 t1 rm1 r1 h1 => ?_
  refine la s H1 sd m1 _ _ (rs.mono t1) rm1 h1 fun x H2 dx2 m2 t2 rm2 r2 h2 => ?_
  obtain ⟨a, fs, rfl, e2, hl, h2⟩ := h2
  cases r2
  obtain ⟨dx, us, e4, e5, r⟩ := rm2 a _ e2
  have hlen : us.length = fs.length := by have z := congrArg List.length e5; rwa [List.length_map, List.length_map] at z
  exact ⟨a, C, dx, us, rfl, e4, c, n, by omega, k1 _ _ _ _ (t1.trans (t2.trans (.ins e4))) ((rs.mono (t1.trans t2)).mono (.ins e4)) (rm2.setI e4 (put_names e5) (put_rep (r1.mono t2) e5 r)) h2⟩
/-! methods -/
def dMeth (C : Addr) (mn : Str) (n : Nat) (sd : SpD) (de : DE) (da : DA) : DE := fun s m Q => de s m fun x m1 => ∃ a fs, x = .ref a ∧ m1 a = some (.ins C fs) ∧ fs.lookup mn = none ∧ da s m1 fun ds m2 => ds.length + 1 = n ∧ sd (x :: ds) m2 Q
theorem ge_meth {C f : Addr} {k n : Nat} {fd : FuncData} {ps : List Str} {sd : SpD} {mn : Str} {o e : Expr} {es : List Expr} {de : DE} {da : DA} {apos pos : Pos} {pl : Sem Bool} (he : GE X o de) (c : Cls X.K C) (hm : Meth X.K C mn f) (F : FnOk X.prog X.w X.K X.mg X.base CX0 k f fd ps (spL X.K n sd)) (hr : Room k X.A) (hb : Binds X.K fd ps [])
    (ha : GA X (e :: es) da) (hst : starEach (e :: es) X.env = (false, eval e X.env) :: starEach es X.env := by rfl) (hpl : (backTo pos (starEach es X.env)).any (·.1) = false := by rfl)
    (ht : eval (.Call (.Attribute o mn apos) (e :: es) [] pos) X.env = (do
      let ov9 ← eval o X.env
      standAt apos.atName
      let (f, first) ← holding [ov9] (getMethod ov9 mn pl)
      callWith pos f first (backTo pos (starEach (e :: es) X.env)) (backToKw pos (keywordEach [] X.env))) := by rfl) :
    GE X (.Call (.Attribute o mn apos) (e :: es) [] pos) (dMeth C mn n sd de da) := by
  obtain ⟨te, pt, l⟩ := he.ex
  obtain ⟨ta, q, la⟩ := ha.ex
  refine .of ⟨_, pe_meth (E := E0) pt c hm F hr hb .nil pass0 q hst hpl ht, fun s H sd' m Qd Q rs rm h k => ?_⟩
  refine l s H sd' m _ _ rs rm h fun x H1 dx1 m1 t1 rm1 r1 h1 => ?_
  obtain ⟨a, fs, rfl, e2, e3, h2⟩ := h1
  cases r1
  obtain ⟨dx, us, e4, e5, r⟩ := rm1 a _ e2
  refine ⟨a, dx, us, rfl, e4, lookup_none e5 e3, ?_⟩
  refine la s H1 sd' m1 _ _ (rs.mono t1) rm1 h2 fun vs H2 ds m2 t2 rm2 r2 h3 => ?_
  rw [List.append_nil]
  exact ⟨.ref a :: ds, m2, Qd, .cons (.ref a) r2, rm2, ⟨h3.1, h3.2⟩, fun v' H' dv' m' t' a b c => k v' H' dv' m' (t1.trans (t2.trans t')) a b c⟩
end
end PD

set_option Elab.async false
set_option linter.all false
set_option maxRecDepth 100000
set_option maxHeartbeats 4000000
/-! Instances: methods without arguments, methods that may raise, new instances. -/
namespace PD
open PySem PySem.Spec PyProof.Rows L2
theorem RM.newI {K : PySem.W.Frag} {H : Hp} {m : Mu} {x dx C : Addr} (r : RM K H m) (h1 : H x = none) (h2 : H dx = none) (hne : dx ≠ x) : RM K (upd (upd H dx (.own x)) x (.ins C dx [])) (mset m x (.ins C [])) := fun a o e => by
  by_cases ha : a = x
  · subst ha
    rw [mset_same] at e; cases e
    exact ⟨dx, [], upd_same, rfl, .nil⟩
  · rw [mset_ne ha] at e
    exact (r.skip h2).skip (by rw [upd_ne hne.symm]; exact h1) a o e
section
variable {X : Cx} {Ed : DX}
theorem ge_meth0 {C f : Addr} {k n : Nat} {fd : FuncData} {ps : List Str} {sd : SpD} {mn : Str} {o : Expr} {de : DE} {apos pos : Pos} {pl : Sem Bool} (he : GE X o de) (c : Cls X.K C) (hm : Meth X.K C mn f) (F : FnOk X.prog X.w X.K X.mg X.base CX0 k f fd ps (spL X.K n sd)) (hr : Room k X.A) (hb : Binds X.K fd ps [])
    (ht : eval (.Call (.Attribute o mn apos) [] [] pos) X.env = (do
      let ov9 ← eval o X.env
      standAt apos.atName
      let (f, first) ← holding [ov9] (getMethod ov9 mn pl)
      callWith pos f first (backTo pos (starEach [] X.env)) (backToKw pos (keywordEach [] X.env))) := by rfl) :
    GE X (.Call (.Attribute o mn apos) [] [] pos) (dMeth C mn n sd de dNil) := by
  obtain ⟨te, pt, l⟩ := he.ex
  refine .of ⟨_, pe_meth0 (E := E0) pt c hm F hr hb .nil pass0 ht, fun s H sd' m Qd Q rs rm h k => ?_⟩
  refine l s H sd' m _ _ rs rm h fun x H1 dx1 m1 t1 rm1 r1 h1 => ?_
  obtain ⟨a, fs, rfl, e2, e3, h2⟩ := h1
  cases r1
  obtain ⟨dx, us, e4, e5, r⟩ := rm1 a _ e2
  refine ⟨a, dx, us, rfl, e4, lookup_none e5 e3, ?_⟩
  exact ⟨[.ref a], m1, Qd, .cons (.ref a) .nil, rm1, ⟨h2.1, h2.2⟩, fun v' H' dv' m' t' a b c => k v' H' dv' m' (t1.trans t') a b c⟩
/-- what a callee may let out is what the caller may -/
theorem passX (tk : Takes X (wX X.K Ed)) : Passes (L2.CX X.prog X.w) X (fun cls d H => wX X.K Ed cls d [] H) := passes_call tk fun _ _ _ _ h => h
def dMethX (C : Addr) (mn : Str) (n : Nat) (sd : SpX) (Ed : DX) (de : DE) (da : DA) : DE := fun s m Q => de s m fun x m1 => ∃ a fs, x = .ref a ∧ m1 a = some (.ins C fs) ∧ fs.lookup mn = none ∧ da s m1 fun ds m2 => ds.length + 1 = n ∧ sd (x :: ds) m2 Q Ed
theorem ge_methX {C f : Addr} {k n : Nat} {fd : FuncData} {ps : List Str} {sd : SpX} {mn : Str} {o e : Expr} {es : List Expr} {de : DE} {da : DA} {apos pos : Pos} {pl : Sem Bool} (he : GE X o de) (c : Cls X.K C) (hm : Meth X.K C mn f) (F : FnOk X.prog X.w X.K X.mg X.base (L2.CX X.prog X.w) k f fd ps (spX X.K n sd)) (tk : Takes X (wX X.K Ed)) (hr : Room k X.A) (hb : Binds X.K fd ps [])
    (ha : GA X (e :: es) da) (hst : starEach (e :: es) X.env = (false, eval e X.env) :: starEach es X.env := by rfl) (hpl : (backTo pos (starEach es X.env)).any (·.1) = false := by rfl)
    (ht : eval (.Call (.Attribute o mn apos) (e :: es) [] pos) X.env = (do
      let ov9 ← eval o X.env
      standAt apos.atName
      let (f, first) ← holding [ov9] (getMethod ov9 mn pl)
      callWith pos f first (backTo pos (starEach (e :: es) X.env)) (backToKw pos (keywordEach [] X.env))) := by rfl) :
    GE X (.Call (.Attribute o mn apos) (e :: es) [] pos) (dMethX C mn n sd Ed de da) := by
  obtain ⟨te, pt, l⟩ := he.ex
  obtain ⟨ta, q, la⟩ := ha.ex
  refine .of ⟨_, pe_meth (E := fun cls d H => wX X.K Ed cls d [] H) pt c hm F hr hb .nil (passX tk) q hst hpl ht, fun s H sd' m Qd Q rs rm h k => ?_⟩
  refine l s H sd' m _ _ rs rm h fun x H1 dx1 m1 t1 rm1 r1 h1 => ?_
  obtain ⟨a, fs, rfl, e2, e3, h2⟩ := h1
  cases r1
  obtain ⟨dx, us, e4, e5, r⟩ := rm1 a _ e2
  refine ⟨a, dx, us, rfl, e4, lookup_none e5 e3, ?_⟩
  refine la s H1 sd' m1 _ _ (rs.mono t1) rm1 h2 fun vs H2 ds m2 t2 rm2 r2 h3 => ?_
  rw [List.append_nil]
  exact ⟨.ref a :: ds, m2, Qd, Ed, .cons (.ref a) r2, rm2, ⟨h3.1, h3.2⟩, fun v' H' dv' m' t' a b c => k v' H' dv' m' (t1.trans (t2.trans t')) a b c, fun cls d H' fs m' a b c => ⟨fs, m', a, b, c⟩⟩
/-- C(e, ..) -/
def dMakeX (C : Addr) (n : Nat) (sd : SpX) (Ed : DX) (da : DA) : DE := fun s m Q => da s m fun ds m1 => ds.length + 1 = n ∧ ∀ x, m1 x = none → sd (.ref x :: ds) (mset m1 x (.ins C [])) (fun v m2 => v = .non ∧ Q (.ref x) m2) Ed
theorem ge_makeX {C f : Addr} {k n : Nat} {fd : FuncData} {ps : List Str} {sd : SpX} {x : Str} {e : Expr} {es : List Expr} {da : DA} {p pos : Pos} (M : Mk X.K C f) (F : FnOk X.prog X.w X.K X.mg X.base (L2.CX X.prog X.w) k f fd ps (spX X.K n sd)) (tk : Takes X (wX X.K Ed)) (hr : Room (k + 1) X.A) (hg : Gl X x) (hm : X.mg x = some (.ref C)) (hb : Binds X.K fd ps [])
    (ha : GA X (e :: es) da) (hdb : (x == ("__debug__" : Str)) = false := by decide) (he : starEach (e :: es) X.env = (false, eval e X.env) :: starEach es X.env := by rfl) (hpl : (backTo pos (starEach es X.env)).any (·.1) = false := by rfl) :
    GE X (.Call (.Name x p) (e :: es) [] pos) (dMakeX C n sd Ed da) := by
  obtain ⟨ta, q, la⟩ := ha.ex
  refine .of ⟨_, pe_make (E := fun cls d H => wX X.K Ed cls d [] H) M F hr hg hm hb .nil (passX tk) q hdb he hpl, fun s H sd' m Qd Q rs rm h k => ?_⟩
  refine la s H sd' m _ _ rs rm h fun vs H1 ds m1 t1 rm1 r1 h1 => fun y dx hy hdx hne => ?_
  rw [List.append_nil]
  have ty : TX H1 (upd (upd H1 dx (.own y)) y (.ins C dx [])) := (TX.new hdx).trans (.new (by rw [upd_ne hne.symm]; exact hy))
  refine ⟨.ref y :: ds, mset m1 y (.ins C []), _, Ed, .cons (.ref y) (r1.mono ty), rm1.newI hy hdx hne, ⟨h1.1, h1.2 y (rm1.fresh hy)⟩, fun v' H' dv' m' t' a b ⟨c1, c2⟩ => ?_, fun cls d H' fs m' a b c => ⟨fs, m', a, b, c⟩⟩
  subst c1
  cases b
  exact ⟨rfl, k _ _ _ _ (t1.trans (ty.trans t')) a (.ref y) c2⟩
end
end PD

set_option Elab.async false
set_option linter.all false
set_option maxRecDepth 100000
set_option maxHeartbeats 4000000
/-! Dicts with ints and texts for keys. -/
namespace PD
open PySem PySem.Spec PyProof.Rows L2
def toKey : D → Option Key
  | .int i => some (.inl i)
  | .str x => some (.inr x)
  | _ => none
theorem key_rep {K : PySem.W.Frag} {H : Hp} {d : D} {v : V} {k : Key} (r : Rep K H d v) (h : toKey d = some k) : v = kV k := by
  cases r <;> unfold toKey at h <;> cases h <;> rfl
def valD {κ : Type} [DecidableEq κ] (kvs : List (κ × D)) (k : κ) : Option D := (kvs.find? fun kv => decide (kv.1 = k)).map (·.2)
def putKD {κ : Type} [DecidableEq κ] (kvs : List (κ × D)) (k : κ) (d : D) : List (κ × D) :=
  if (kvs.any fun kv => decide (kv.1 = k)) = true then kvs.map (fun kv => if kv.1 = k then (kv.1, d) else kv) else kvs ++ [(k, d)]
section
variable {κ : Type} [DecidableEq κ] {K : PySem.W.Frag} {H : Hp} {k : κ}
theorem val_rep : ∀ {kvs : List (κ × D)} {us : List (κ × V)}, us.map (·.1) = kvs.map (·.1) → RepL K H (kvs.map (·.2)) (us.map (·.2)) → (∀ d, valD kvs k = some d → ∃ v, valV us k = some v ∧ Rep K H d v) ∧ (valD kvs k = none → valV us k = none)
  | [], [], _, _ => ⟨fun _ h => (nomatch h), fun _ => rfl⟩
  | [], _ :: _, e, _ => by cases e
  | _ :: _, [], e, _ => by cases e
  | (g, b) :: kvs, (g', v) :: us, e, r => by
    simp only [List.map_cons] at e r
    injection e with e1 e2
    subst e1
    cases r with
    | cons r1 r2 =>
      have ih := val_rep e2 r2
      by_cases h : g' = k
      · have z1 : valD ((g', b) :: kvs) k = some b := by simp [valD, h]
        have z2 : valV ((g', v) :: us) k = some v := valV_pos h
        rw [z1, z2]
        exact ⟨fun d e => by cases e; exact ⟨v, rfl, r1⟩, fun e => (nomatch e)⟩
      · have z1 : valD ((g', b) :: kvs) k = valD kvs k := by simp [valD, h]
        have z2 : valV ((g', v) :: us) k = valV us k := valV_neg h
        rw [z1, z2]
        exact ih
theorem any_keys : ∀ {kvs : List (κ × D)} {us : List (κ × V)}, us.map (·.1) = kvs.map (·.1) → (us.any fun kv => decide (kv.1 = k)) = (kvs.any fun kv => decide (kv.1 = k))
  | [], [], _ => rfl
  | [], _ :: _, e => by cases e
  | _ :: _, [], e => by cases e
  | (g, b) :: kvs, (g', v) :: us, e => by
    simp only [List.map_cons] at e
    injection e with e1 e2
    subst e1
    rw [List.any_cons, List.any_cons, any_keys e2]
theorem putK_map_names {y : V} {d : D} : ∀ {kvs : List (κ × D)} {us : List (κ × V)}, us.map (·.1) = kvs.map (·.1) → RepL K H (kvs.map (·.2)) (us.map (·.2)) → Rep K H d y →
    ((us.map fun kv => if kv.1 = k then (kv.1, y) else kv).map (·.1) = (kvs.map fun kv => if kv.1 = k then (kv.1, d) else kv).map (·.1)) ∧ RepL K H ((kvs.map fun kv => if kv.1 = k then (kv.1, d) else kv).map (·.2)) ((us.map fun kv => if kv.1 = k then (kv.1, y) else kv).map (·.2))
  | [], [], _, _, _ => ⟨rfl, .nil⟩
  | [], _ :: _, e, _, _ => by cases e
  | _ :: _, [], e, _, _ => by cases e
  | (g, b) :: kvs, (g', v) :: us, e, r, ry => by
    simp only [List.map_cons] at e r
    injection e with e1 e2
    subst e1
    cases r with
    | cons r1 r2 =>
      have ih := putK_map_names e2 r2 ry
      simp only [List.map_cons]
      by_cases h : g' = k
      · simp only [if_pos h]
        exact ⟨by rw [ih.1], .cons ry ih.2⟩
      · simp only [if_neg h]
        exact ⟨by rw [ih.1], .cons r1 ih.2⟩
theorem putK_rep {y : V} {d : D} {kvs : List (κ × D)} {us : List (κ × V)} (e : us.map (·.1) = kvs.map (·.1)) (r : RepL K H (kvs.map (·.2)) (us.map (·.2))) (ry : Rep K H d y) :
    (putK us k y).map (·.1) = (putKD kvs k d).map (·.1) ∧ RepL K H ((putKD kvs k d).map (·.2)) ((putK us k y).map (·.2)) := by
  unfold putK putKD
  rw [any_keys e]
  split
  · exact putK_map_names e r ry
  · rw [List.map_append, List.map_append, List.map_append, List.map_append, e]
    exact ⟨rfl, r.append (.cons ry .nil)⟩
end
theorem TX.dK {H : Hp} {a : Addr} {us : List (Key × V)} {o : HO} (h : H a = some (.dK us)) : TX H (upd H a o) := fun b u i e => by
  rw [upd_ne]
  · exact e
  · rintro rfl
    rw [h] at e; cases e; exact i.elim
theorem RM.setD {K : PySem.W.Frag} {H : Hp} {m : Mu} {p : Addr} {kvs : List (Key × D)} {us ws : List (Key × V)} (r : RM K H m) (h : H p = some (.dK ws)) (e1 : us.map (·.1) = kvs.map (·.1)) (q : RepL K H (kvs.map (·.2)) (us.map (·.2))) : RM K (upd H p (.dK us)) (mset m p (.dct kvs)) := fun a o e => by
  by_cases ha : a = p
  · subst ha
    rw [mset_same] at e; cases e
    exact ⟨us, upd_same, e1, q.mono (.dK h)⟩
  · rw [mset_ne ha] at e
    refine (r a o e).tx (.dK h) fun us z => ?_
    rw [upd_ne ha]; exact z
theorem RM.newD {K : PySem.W.Frag} {H : Hp} {m : Mu} {p : Addr} (r : RM K H m) (h : H p = none) : RM K (upd H p (.dK [])) (mset m p (.dct [])) := fun a o e => by
  by_cases ha : a = p
  · subst ha
    rw [mset_same] at e; cases e
    exact ⟨[], upd_same, rfl, .nil⟩
  · rw [mset_ne ha] at e
    exact r.skip h a o e
def dDNew : DE := fun _ m Q => ∀ p, m p = none → Q (.ref p) (mset m p (.dct []))
def dDGet (dd dk : DE) : DE := fun s m Q => dd s m fun x m1 => dk s m1 fun y m2 => ∃ a kvs k d, x = .ref a ∧ m2 a = some (.dct kvs) ∧ toKey y = some k ∧ valD kvs k = some d ∧ Q d m2
def dDPut (dd dk dv : DE) : DS := fun E s m => dv s m fun z m1 => dd s m1 fun x m2 => dk s m2 fun y m3 => ∃ a kvs k, x = .ref a ∧ m3 a = some (.dct kvs) ∧ toKey y = some k ∧ kvs.length < sizeLine ∧ E.nx s (mset m3 a (.dct (putKD kvs k z)))
def dDIn (f : Bool → Bool) (dk dd : DE) : DE := fun s m Q => dk s m fun y m1 => dd s m1 fun x m2 => ∃ a kvs k, x = .ref a ∧ m2 a = some (.dct kvs) ∧ toKey y = some k ∧ Q (.bl (f (valD kvs k).isSome)) m2
section
variable {X : Cx} {o i value : Expr} {pos pos' : Pos} {dd dk dv : DE}
theorem ge_dnew : GE X (.Dict [] [] pos) dDNew :=
  .of ⟨_, pe_dnewK, fun s H sd m Qd Q rs rm h k => fun p hp => k _ _ _ _ (.new hp) (rm.newD hp) (.ref p) (h p (rm.fresh hp))⟩
theorem ge_dget (hu : X.A.units + 1 < cLine) (ho : GE X o dd) (hi : GE X i dk) (hs : NoSl i) : GE X (.Subscript o i pos) (dDGet dd dk) := by
  obtain ⟨td, pd, ld⟩ := ho.ex
  obtain ⟨ti, pi, li⟩ := hi.ex
  refine .of ⟨_, pe_dget hu pd pi hs, fun s H sd m Qd Q rs rm h k => ?_⟩
  refine ld s H sd m _ _ rs rm h fun x H1 dx m1 t1 rm1 r1 h1 => ?_
  refine li s H1 sd m1 _ _ (rs.mono t1) rm1 h1 fun y H2 dy m2 t2 rm2 r2 h2 => ?_
  obtain ⟨a, kvs, kk, d, rfl, e2, e3, e4, h3⟩ := h2
  cases r1
  obtain ⟨us, e5, e6, r⟩ := rm2 a _ e2
  obtain ⟨v, e7, r7⟩ := (val_rep e6 r).1 d e4
  have hy := key_rep r2 e3
  subst hy
  exact ⟨a, v, rfl, by rw [← e7]; exact DGet.k e5, k _ _ _ _ (t1.trans t2) rm2 r7 h3⟩
theorem gs_dput (hu : X.A.units + 1 < cLine) (ho : GE X o dd) (hi : GE X i dk) (hv : GE X value dv) (hs : swapsWith value (some (.Subscript o i pos')) pos.line X.env = pure false := by rfl) : GS X (.Assign [.Subscript o i pos'] value pos) (dDPut dd dk dv) := by
  obtain ⟨td, pd, ld⟩ := ho.ex
  obtain ⟨ti, pi, li⟩ := hi.ex
  obtain ⟨tv, pv', lv⟩ := hv.ex
  refine ⟨_, ps_dput hu pd pi pv' hs, fun s H sd m Ed E rs rm h k1 _ _ _ => ?_⟩
  refine lv s H sd m _ _ rs rm h fun z H1 dz m1 t1 rm1 r1 h1 => ?_
  refine ld s H1 sd m1 _ _ (rs.mono t1) rm1 h1 fun x H2 dx m2 t2 rm2 r2 h2 => ?_
  refine li s H2 sd m2 _ _ (rs.mono (t1.trans t2)) rm2 h2 fun y H3 dy m3 t3 rm3 r3 h3 => ?_
  obtain ⟨a, kvs, kk, rfl, e2, e3, hl, h4⟩ := h3
  cases r2
  obtain ⟨us, e5, e6, r⟩ := rm3 a _ e2
  have hy := key_rep r3 e3
  subst hy
  have hlen : us.length = kvs.length := by have z := congrArg List.length e6; rwa [List.length_map, List.length_map] at z
  have pr := putK_rep (k := kk) e6 r (r1.mono (t2.trans t3))
  exact ⟨a, _, rfl, DPut.k e5 (by omega), k1 _ _ _ _ (t1.trans (t2.trans (t3.trans (.dK e5)))) ((rs.mono (t1.trans (t2.trans t3))).mono (.dK e5)) (rm3.setD e5 pr.1 pr.2) h4⟩
theorem val_some {K : PySem.W.Frag} {H : Hp} {k : Key} {kvs : List (Key × D)} {us : List (Key × V)} (e : us.map (·.1) = kvs.map (·.1)) (r : RepL K H (kvs.map (·.2)) (us.map (·.2))) : (valV us k).isSome = (valD kvs k).isSome := by
  have z := val_rep (k := k) e r
  cases q : valD kvs k with
  | none => rw [z.2 q]; rfl
  | some d => obtain ⟨v, e1, _⟩ := z.1 d q; rw [e1]; rfl
theorem gt_din (hu : X.A.units + 1 < cLine) (hi : GE X i dk) (ho : GE X o dd) (hm : behindInMarks .In o = false := by rfl) : GT X (.Compare i [.In] [o] pos) (dTest (dDIn (fun b => b) dk dd)) := by
  obtain ⟨td, pd, ld⟩ := ho.ex
  obtain ⟨ti, pi, li⟩ := hi.ex
  refine .of ⟨_, pt_cmp (pc_din hu pi pd) hm, LE.testB fun s H sd m Qd Q rs rm h k => ?_⟩
  refine li s H sd m _ _ rs rm h fun y H1 dy m1 t1 rm1 r1 h1 => ?_
  refine ld s H1 sd m1 _ _ (rs.mono t1) rm1 h1 fun x H2 dx m2 t2 rm2 r2 h2 => ?_
  obtain ⟨a, kvs, kk, rfl, e2, e3, h3⟩ := h2
  cases r2
  obtain ⟨us, e5, e6, r⟩ := rm2 a _ e2
  have hy := key_rep (r1.mono t2) e3
  subst hy
  refine ⟨a, _, rfl, DGet.k e5, ?_⟩
  rw [val_some e6 r]
  exact k _ _ _ _ (t1.trans t2) rm2 (.bl _) h3
theorem gt_dnotin (hu : X.A.units + 1 < cLine) (hi : GE X i dk) (ho : GE X o dd) (hm : behindInMarks .NotIn o = false := by rfl) : GT X (.Compare i [.NotIn] [o] pos) (dTest (dDIn (fun b => !b) dk dd)) := by
  obtain ⟨td, pd, ld⟩ := ho.ex
  obtain ⟨ti, pi, li⟩ := hi.ex
  refine .of ⟨_, pt_cmp (pc_dnotin hu pi pd) hm, LE.testB fun s H sd m Qd Q rs rm h k => ?_⟩
  refine li s H sd m _ _ rs rm h fun y H1 dy m1 t1 rm1 r1 h1 => ?_
  refine ld s H1 sd m1 _ _ (rs.mono t1) rm1 h1 fun x H2 dx m2 t2 rm2 r2 h2 => ?_
  obtain ⟨a, kvs, kk, rfl, e2, e3, h3⟩ := h2
  cases r2
  obtain ⟨us, e5, e6, r⟩ := rm2 a _ e2
  have hy := key_rep (r1.mono t2) e3
  subst hy
  refine ⟨a, _, rfl, DGet.k e5, ?_⟩
  rw [val_some e6 r]
  exact k _ _ _ _ (t1.trans t2) rm2 (.bl _) h3
end
end PD

set_option Elab.async false
set_option linter.all false
set_option maxRecDepth 100000
set_option maxHeartbeats 4000000
/-! zip of two tuples, or of two lists. -/
namespace PD
open PySem PySem.Spec PyProof.Rows L2
def zipD (xs ys : List D) : List D := (xs.zip ys).map fun p => .tup [p.1, p.2]
theorem zipD_len (xs ys : List D) : (zipD xs ys).length = min xs.length ys.length := by unfold zipD; rw [List.length_map, List.length_zip]
theorem zipD_get {xs ys : List D} {i : Nat} {a b : D} (h1 : xs[i]? = some a) (h2 : ys[i]? = some b) : (zipD xs ys)[i]? = some (.tup [a, b]) := by
  unfold zipD
  rw [List.getElem?_map, (List.getElem?_zip_eq_some (z := (a, b))).mpr ⟨h1, h2⟩]
  rfl
def dIZip (a : DA) : DI := fun s m R => a s m fun ds m1 => match ds with
  | [.tup xs, .tup ys] => R (zipD xs ys) (fun _ => True) m1
  | [.ref p, .ref q] => ∃ xs ys, seqOf m1 (.ref p) = some xs ∧ seqOf m1 (.ref q) = some ys ∧ R (zipD xs ys) (fun m' => seqOf m' (.ref p) = some xs ∧ seqOf m' (.ref q) = some ys) m1
  | _ => False
theorem zip_item {K : PySem.W.Frag} {i : Nat} {x y : V} {a b : D} {H : Hp} {T : Addr} {m : Mu} {xs ys : List D} (rm : RM K H m) (hT : H T = none) (e1 : xs[i]? = some a) (e2 : ys[i]? = some b) (r1 : Rep K H a x) (r2 : Rep K H b y) :
    ∃ d', (zipD xs ys)[i]? = some d' ∧ TX H (upd H T (.tup [x, y])) ∧ RM K (upd H T (.tup [x, y])) m ∧ Rep K (upd H T (.tup [x, y])) d' (.ref T) :=
  ⟨_, zipD_get e1 e2, .new hT, rm.skip hT, .tup (SqT.of upd_same) (.cons (r1.mono (.new hT)) (.cons (r2.mono (.new hT)) .nil))⟩
section
variable {X : Cx}
theorem gi_zip {e e2 : Expr} {p pos tpos : Pos} {elts : List Expr} {kk : Nat} {da : DA} (hg : Gl X "zip") (hm : X.mg "zip" = none) (ha : GA X [e, e2] da)
    (hs : starEach [e, e2] X.env = (false, eval e X.env) :: starEach [e2] X.env := by rfl) (hpl : (backTo pos (starEach [e2] X.env)).any (·.1) = false := by rfl) :
    GIE X (.Tuple elts kk tpos) (.Call (.Name "zip" p) [e, e2] [] pos) (dIZip da) := by
  obtain ⟨ta, q, l⟩ := ha.ex
  refine ⟨_, RZ.pi_zipA hg hm q hs hpl, fun s H sd m Rd R rs rm h k => ?_⟩
  refine l s H sd m _ _ rs rm h fun vs H1 ds m1 t1 rm1 r1 h1 => ?_
  match ds, r1, h1 with
  | [.tup xs, .tup ys], .cons (.tup (a := a) (vs := us) sa ra) (.cons (.tup (a := b) (vs := ws) sb rb) .nil), h1 =>
    refine ⟨a, b, us, ws, rfl, .inr ⟨sa, sb, k _ H1 _ (fun _ => True) m1 t1 rm1 ⟨fun i H' m' t' _ _ hi => ?_, fun i H' x H2 m' t' rm' _ hi hy => ?_, fun i H' m' t' _ _ hi => ?_⟩ h1⟩⟩
    · rw [zipD_len] at hi
      have l1 := ra.length
      have l2 := rb.length
      exact ⟨us, ws, us[i]'(by omega), ws[i]'(by omega), t'.sqT sa, t'.sqT sb, List.getElem?_eq_getElem _, List.getElem?_eq_getElem _⟩
    · obtain ⟨T, x1, y1, rfl, hT, rfl, f, g⟩ := hy
      obtain ⟨d, e, q1⟩ := ra.getV (f _ (t'.sqT sa))
      obtain ⟨d2, e2, q2⟩ := rb.getV (g _ (t'.sqT sb))
      exact zip_item rm' hT e e2 (q1.mono t') (q2.mono t')
    · rw [zipD_len] at hi
      have l1 := ra.length
      have l2 := rb.length
      exact ⟨us, ws, t'.sqT sa, t'.sqT sb, by omega⟩
  | [.ref a, .ref b], .cons (.ref _) (.cons (.ref _) .nil), h1 =>
    obtain ⟨xs, ys, e1, e2, q1⟩ := h1
    obtain ⟨us, sl, r⟩ := ref_rep rm1 e1
    obtain ⟨ws, sl2, r2⟩ := ref_rep rm1 e2
    refine ⟨a, b, us, ws, rfl, .inl ⟨sl, sl2, k _ H1 _ (fun m' => seqOf m' (.ref a) = some xs ∧ seqOf m' (.ref b) = some ys) m1 t1 rm1 ⟨fun i H' m' t' rm' st hi => ?_, fun i H' x H2 m' t' rm' st hi hy => ?_, fun i H' m' t' rm' st hi => ?_⟩ q1⟩⟩
    · rw [zipD_len] at hi
      obtain ⟨us', sl', r'⟩ := ref_rep rm' st.1
      obtain ⟨ws', sl2', r2'⟩ := ref_rep rm' st.2
      have l1 := r'.length
      have l2 := r2'.length
      exact ⟨us', ws', us'[i]'(by omega), ws'[i]'(by omega), sl', sl2', List.getElem?_eq_getElem _, List.getElem?_eq_getElem _⟩
    · obtain ⟨T, x1, y1, rfl, hT, rfl, f, g⟩ := hy
      obtain ⟨us', sl', r'⟩ := ref_rep rm' st.1
      obtain ⟨ws', sl2', r2'⟩ := ref_rep rm' st.2
      obtain ⟨d, e, q1⟩ := r'.getV (f _ sl')
      obtain ⟨d2, e2, q2⟩ := r2'.getV (g _ sl2')
      exact zip_item rm' hT e e2 q1 q2
    · rw [zipD_len] at hi
      obtain ⟨us', sl', r'⟩ := ref_rep rm' st.1
      obtain ⟨ws', sl2', r2'⟩ := ref_rep rm' st.2
      have l1 := r'.length
      have l2 := r2'.length
      exact ⟨us', ws', sl', sl2', by omega⟩
end
end PD

set_option Elab.async false
set_option linter.all false
set_option maxRecDepth 100000
set_option maxHeartbeats 4000000
/-! sum, max, min, any, all of a list. -/
namespace PD
open PySem PySem.Spec PyProof.Rows L2
theorem rep_ints {K : PySem.W.Frag} {H : Hp} : ∀ {ns : List Int} {vs : List V}, RepL K H (ns.map D.int) vs → vs = ns.map V.int
  | [], _, .nil => rfl
  | n :: ns, _, .cons (.int _) r => by rw [rep_ints r]; rfl
theorem rep_bools {K : PySem.W.Frag} {H : Hp} : ∀ {bs : List Bool} {vs : List V}, RepL K H (bs.map D.bl) vs → vs = bs.map V.bl
  | [], _, .nil => rfl
  | b :: bs, _, .cons (.bl _) r => by rw [rep_bools r]; rfl
theorem rep_strs {K : PySem.W.Frag} {H : Hp} : ∀ {xs : List Str} {vs : List V}, RepL K H (xs.map D.str) vs → vs = xs.map V.str
  | [], _, .nil => rfl
  | x :: xs, _, .cons (.str _) r => by rw [rep_strs r]; rfl
def dSum : DC := fun ds m Q => ∃ a ns, ds = [.ref a] ∧ m a = some (.lst ((ns : List Int).map .int)) ∧ Q (.int ns.sum) m
def dMaxL : DC := fun ds m Q => ∃ a ns, ds = [.ref a] ∧ m a = some (.lst ((ns : List Int).map .int)) ∧ 0 < ns.length ∧ ∀ x, x ∈ ns → (∀ y ∈ ns, y ≤ x) → Q (.int x) m
def dMinL : DC := fun ds m Q => ∃ a ns, ds = [.ref a] ∧ m a = some (.lst ((ns : List Int).map .int)) ∧ 0 < ns.length ∧ ∀ x, x ∈ ns → (∀ y ∈ ns, x ≤ y) → Q (.int x) m
def dAny : DC := fun ds m Q => ∃ a bs, ds = [.ref a] ∧ m a = some (.lst ((bs : List Bool).map .bl)) ∧ Q (.bl (bs.any id)) m
def dAll : DC := fun ds m Q => ∃ a bs, ds = [.ref a] ∧ m a = some (.lst ((bs : List Bool).map .bl)) ∧ Q (.bl (bs.all id)) m
section
variable {K : PySem.W.Frag}
theorem one_ref {H : Hp} {a : Addr} {vs : List V} (r : RepL K H [.ref a] vs) : vs = [.ref a] := by
  obtain ⟨v, rfl, rv⟩ := repL1 r
  cases rv
  rfl
theorem lc_sum : LC K (rSum K) dSum := fun vs H ds m Qd Q rm r ⟨a, ns, e1, e2, h⟩ k => by
  subst e1
  obtain ⟨us, e3, r3⟩ := rm a _ e2
  rw [rep_ints r3] at e3
  exact ⟨a, ns, one_ref r, .of e3, k _ _ _ _ (.refl H) rm (.int _) h⟩
theorem lc_max : LC K (rMax K) dMaxL := fun vs H ds m Qd Q rm r ⟨a, ns, e1, e2, hp, h⟩ k => by
  subst e1
  obtain ⟨us, e3, r3⟩ := rm a _ e2
  rw [rep_ints r3] at e3
  exact ⟨a, ns, one_ref r, .of e3, hp, fun x hx hy => k _ _ _ _ (.refl H) rm (.int _) (h x hx hy)⟩
theorem lc_min : LC K (rMin K) dMinL := fun vs H ds m Qd Q rm r ⟨a, ns, e1, e2, hp, h⟩ k => by
  subst e1
  obtain ⟨us, e3, r3⟩ := rm a _ e2
  rw [rep_ints r3] at e3
  exact ⟨a, ns, one_ref r, .of e3, hp, fun x hx hy => k _ _ _ _ (.refl H) rm (.int _) (h x hx hy)⟩
theorem lc_any : LC K (rAny K) dAny := fun vs H ds m Qd Q rm r ⟨a, bs, e1, e2, h⟩ k => by
  subst e1
  obtain ⟨us, e3, r3⟩ := rm a _ e2
  rw [rep_bools r3] at e3
  exact ⟨a, bs, one_ref r, .of e3, k _ _ _ _ (.refl H) rm (.bl _) h⟩
theorem lc_all : LC K (rAll K) dAll := fun vs H ds m Qd Q rm r ⟨a, bs, e1, e2, h⟩ k => by
  subst e1
  obtain ⟨us, e3, r3⟩ := rm a _ e2
  rw [rep_bools r3] at e3
  exact ⟨a, bs, one_ref r, .of e3, k _ _ _ _ (.refl H) rm (.bl _) h⟩
end
end PD

set_option Elab.async false
set_option linter.all false
set_option maxRecDepth 100000
set_option maxHeartbeats 4000000
/-! Sets of ints and texts: made empty, added to, asked. -/
namespace PD
open PySem PySem.Spec PyProof.Rows L2
theorem TX.sK {H : Hp} {P : Program} {w : World} {a : Addr} {S : Key → Bool} {n : Nat} {o : HO} (h : H a = some (SetK P w a S n)) : TX H (upd H a o) := fun b u i e => by
  rw [upd_ne]
  · exact e
  · rintro rfl
    rw [h] at e; cases e; exact i.elim
theorem RM.newS {K : PySem.W.Frag} {H : Hp} {m : Mu} {p : Addr} {P : Program} {w : World} {S : Key → Bool} {n : Nat} (r : RM K H m) (h : H p = none) : RM K (upd H p (SetK P w p S n)) (mset m p (.sset P w S n)) := fun a o e => by
  by_cases ha : a = p
  · subst ha
    rw [mset_same] at e; cases e
    exact upd_same
  · rw [mset_ne ha] at e
    exact r.skip h a o e
theorem RM.setS {K : PySem.W.Frag} {H : Hp} {m : Mu} {p : Addr} {P : Program} {w : World} {S S' : Key → Bool} {n n' : Nat} (r : RM K H m) (h : H p = some (SetK P w p S n)) : RM K (upd H p (SetK P w p S' n')) (mset m p (.sset P w S' n')) := fun a o e => by
  by_cases ha : a = p
  · subst ha
    rw [mset_same] at e; cases e
    exact upd_same
  · rw [mset_ne ha] at e
    refine (r a o e).tx (.sK h) fun us z => ?_
    rw [upd_ne ha]; exact z
def dSet0 (P : Program) (w : World) : DE := fun _ m Q => ∀ p, m p = none → Q (.ref p) (mset m p (.sset P w (fun _ => false) 0))
def dSAdd (P : Program) (w : World) (de : DE) (da : DA) : DE := fun s m Q => de s m fun x m1 => (∃ a S n, x = .ref a ∧ m1 a = some (.sset P w S n)) ∧ da s m1 fun ds m2 => ∃ a S n d k, x = .ref a ∧ ds = [d] ∧ toKey d = some k ∧ m2 a = some (.sset P w S n) ∧ n + 1 < scanBound ∧
  Q .non (mset m2 a (.sset P w (fun j => S j || decide (j = k)) (if S k = true then n else n + 1)))
def dSIn (P : Program) (w : World) (neg : Bool) : D2 := fun x y m Q => ∃ k a S n, toKey x = some k ∧ y = .ref a ∧ m a = some (.sset P w S n) ∧ Q (.bl (if neg then !S k else S k)) m
section
variable {X : Cx}
theorem ge_set0 {p pos : Pos} (hg : Gl X "set") (hm : X.mg "set" = none) : GE X (.Call (.Name "set" p) [] [] pos) (dSet0 X.prog X.w) :=
  .of ⟨_, pe_callTy0 cr_set0K hg hm (by decide +kernel), fun s H sd m Qd Q rs rm h k => ⟨rfl, fun p hp => k _ _ _ _ (.new hp) (rm.newS hp) (.ref p) (h p (rm.fresh hp))⟩⟩
theorem ge_sadd {o e : Expr} {es : List Expr} {de : DE} {da : DA} {apos cpos : Pos} (ho : GE X o de) (ha : GA X (e :: es) da)
    (base9 : attributeBase o "add" X.env (eval o X.env) = eval o X.env := by rfl)
    (few9 : ((backTo cpos (starEach (e :: es) X.env)).all (fun x => !x.1) && (backToKw cpos (keywordEach [] X.env)).all (fun x => x.1.isSome)
      && decide ((e :: es).length + ([] : List Keyword).length + (if ([] : List Keyword).isEmpty then 0 else 1) < 30)) = true := by rfl)
    (line9 : (apos.endLine == cpos.line) = true := by rfl) (hs : starEach (e :: es) X.env = (false, eval e X.env) :: starEach es X.env := by rfl) (plain9 : (backTo cpos (starEach es X.env)).any (·.1) = false := by rfl) :
    GE X (.Call (.Attribute o "add" apos) (e :: es) [] cpos) (dSAdd X.prog X.w de da) := by
  obtain ⟨te, pt, l⟩ := ho.ex
  obtain ⟨ta, q, la⟩ := ha.ex
  refine .of ⟨_, pe_saddK pt q base9 few9 line9 hs plain9, fun s H sd m Qd Q rs rm h k => ?_⟩
  refine l s H sd m _ _ rs rm h fun x H1 dx m1 t1 rm1 r1 h1 => ?_
  obtain ⟨⟨a, S, n, rfl, e2⟩, h2⟩ := h1
  cases r1
  refine ⟨⟨a, S, n, rfl, rm1 a _ e2⟩, ?_⟩
  refine la s H1 sd m1 _ _ (rs.mono t1) rm1 h2 fun vs H2 ds m2 t2 rm2 r2 h3 => ?_
  obtain ⟨a', S', n', d, kk, e3, rfl, e4, e5, room, h4⟩ := h3
  cases e3
  obtain ⟨v, rfl, rv⟩ := repL1 r2
  have hv := key_rep rv e4
  subst hv
  have e6 := rm2 a _ e5
  exact ⟨a, kk, S', n', rfl, rfl, e6, room, k _ _ _ _ (t1.trans (t2.trans (.sK e6))) (rm2.setS e6) .non h4⟩
theorem lr_sin {P : Program} {w : World} {K : PySem.W.Frag} {neg : Bool} : LR K (rSInK P w neg) (dSIn P w neg) := fun x y H dx dy m Qd Q rm rx ry h k => by
  obtain ⟨kk, a, S, n, e1, rfl, e2, h2⟩ := h
  cases ry
  exact ⟨kk, a, S, n, key_rep rx e1, rfl, rm a _ e2, k _ _ _ _ (.refl H) rm (.bl _) h2⟩
end
end PD

set_option Elab.async false
set_option linter.all false
set_option maxRecDepth 100000
set_option maxHeartbeats 4000000
/-! Calls by keyword that may raise; errors of three fields. -/
namespace PD
open PySem PySem.Spec PyProof.Rows L2
section
variable {X : Cx} {Ed : DX}
theorem ge_callKX {k n : Nat} {f : Addr} {fd : FuncData} {ps ks : List Str} {sd : SpX} {x : Str} {p pos : Pos} {kws : List Keyword} {dk : DA} (F : FnOk X.prog X.w X.K X.mg X.base (L2.CX X.prog X.w) k f fd ps (spX X.K n sd)) (tk : Takes X (wX X.K Ed)) (hr : Room k X.A) (hg : Gl X x) (hm : X.mg x = some (.ref f)) (hk : PySem.W.keepIn X.K (.ref f) = true) (hb : KwAll X.K fd ps ks)
    (hkw : GK X kws dk) (hall : (backToKw pos (keywordEach kws X.env)).all (·.1.isSome) = true := by rfl) (hks : (backToKw pos (keywordEach kws X.env)).filterMap (·.1) = ks := by rfl)
    (hdb : (x == ("__debug__" : Str)) = false := by decide) (hpl : ((backTo pos (starEach [] X.env)).any (·.1) || (backToKw pos (keywordEach kws X.env)).any (·.1.isNone)) = false := by rfl) :
    GE X (.Call (.Name x p) [] kws pos) (dCallX n sd Ed dk) := by
  obtain ⟨tk', q, l⟩ := hkw
  have P : PE X (.Call (.Name x p) [] kws pos) (fun τ H Q => tk' τ H fun zs H2 => spX X.K n sd zs H2 Q fun cls d H => wX X.K Ed cls d [] H) := by
    refine ⟨fun pz s τ H Q I h => ?_⟩
    refine wpAny_Call_Name_kw (ld_glob I hg hm ?_ hdb)
    refine PySem.W.callWith_KW0 (h₀ := X.base) I.ok.mod.kin hk hall (thn (q.run pos pz s τ H _ I h) fun ws tB ⟨zs, H2, iB, rz, q2⟩ => ⟨iB.kIn, ?_⟩) hpl
    rw [hks]
    exact run_fnk (us := []) (vs := []) F hr hb (passX tk) iB .nil rz q2
  refine .of ⟨_, P, fun s H sd' m Qd Q rs rm h k => ?_⟩
  refine l s H sd' m _ _ rs rm h fun vs H1 ds m1 t1 rm1 r1 h1 => ?_
  exact ⟨ds, m1, Qd, Ed, r1, rm1, h1, fun v' H' dv' m' t' a b c => k v' H' dv' m' (t1.trans t') a b c, fun cls d H' fs m' a b c => ⟨fs, m', a, b, c⟩⟩
/-- C(e, ..) whose __init__ lets nothing out -/
def dMake (C : Addr) (n : Nat) (sd : SpD) (da : DA) : DE := fun s m Q => da s m fun ds m1 => ds.length + 1 = n ∧ ∀ x, m1 x = none → sd (.ref x :: ds) (mset m1 x (.ins C [])) (fun v m2 => v = .non ∧ Q (.ref x) m2)
theorem ge_make {C f : Addr} {k n : Nat} {fd : FuncData} {ps : List Str} {sd : SpD} {x : Str} {e : Expr} {es : List Expr} {da : DA} {p pos : Pos} (M : Mk X.K C f) (F : FnOk X.prog X.w X.K X.mg X.base CX0 k f fd ps (spL X.K n sd)) (hr : Room (k + 1) X.A) (hg : Gl X x) (hm : X.mg x = some (.ref C)) (hb : Binds X.K fd ps [])
    (ha : GA X (e :: es) da) (hdb : (x == ("__debug__" : Str)) = false := by decide) (he : starEach (e :: es) X.env = (false, eval e X.env) :: starEach es X.env := by rfl) (hpl : (backTo pos (starEach es X.env)).any (·.1) = false := by rfl) :
    GE X (.Call (.Name x p) (e :: es) [] pos) (dMake C n sd da) := by
  obtain ⟨ta, q, la⟩ := ha.ex
  refine .of ⟨_, pe_make (E := E0) M F hr hg hm hb .nil pass0 q hdb he hpl, fun s H sd' m Qd Q rs rm h k => ?_⟩
  refine la s H sd' m _ _ rs rm h fun vs H1 ds m1 t1 rm1 r1 h1 => fun y dx hy hdx hne => ?_
  rw [List.append_nil]
  have ty : TX H1 (upd (upd H1 dx (.own y)) y (.ins C dx [])) := (TX.new hdx).trans (.new (by rw [upd_ne hne.symm]; exact hy))
  refine ⟨.ref y :: ds, mset m1 y (.ins C []), _, .cons (.ref y) (r1.mono ty), rm1.newI hy hdx hne, ⟨h1.1, h1.2 y (rm1.fresh hy)⟩, fun v' H' dv' m' t' a b ⟨c1, c2⟩ => ?_⟩
  subst c1
  cases b
  exact ⟨rfl, k _ _ _ _ (t1.trans (ty.trans t')) a (.ref y) c2⟩
end
section
variable {P : Program} {w : World} {K : PySem.W.Frag} {mg : Str → Option Value} {base : Heap}
theorem ini_three {qual n n2 n3 : Str} {st : Stmt} {f : Addr} {fd : FuncData} (F : Fun K "__init__" qual st f fd) (S : FnScope ["self", n, n2, n3] ["self", n, n2, n3] (defScope st))
    (hb : ∀ (cdv : Value) (A : Around) (outer : List Env) (s : Shared) (H : Hp) (E : XK), PSs (cxOf CX0 P w K mg base ["self", n, n2, n3] qual (defScope st) f cdv A outer s H E).nox (defBody st) (tSeq (tOst K n (tVar 0) (tVar 1)) (tSeq (tOst K n2 (tVar 0) (tVar 2)) (tOst K n3 (tVar 0) (tVar 3))))) :
    FnOk P w K mg base CX0 1 f fd ["self", n, n2, n3] (iniSp K [n, n2, n3]) := by
  refine F.ok S (fun vs H Q E ⟨a, C, us, e, hl, _⟩ => by rw [e]; show us.length + 1 = 4; rw [hl]; rfl) fun cdv A outer s H vs Q E hr ⟨a, C, us, e, hl, T, hno, ha, q⟩ => ⟨_, hb cdv A outer s H E, ?_⟩
  subst e
  match us, hl with
  | [u, u2, u3], _ =>
    refine ⟨u, rfl, .ref a, rfl, a, C, rfl, T, hno n (by simp), .inl ⟨ha, fun d h1 h2 => ?_⟩⟩
    refine ⟨u2, rfl, .ref a, rfl, a, C, rfl, T, hno n2 (by simp), .inr ⟨d, _, upd_same, by rw [upd_ne h2, upd_same], by simp, ?_⟩⟩
    rw [upd_over h2]
    refine ⟨u3, rfl, .ref a, rfl, a, C, rfl, T, hno n3 (by simp), .inr ⟨d, _, upd_same, by rw [upd_ne h2, upd_same], by simp, ?_⟩⟩
    rw [upd_over h2]
    exact q d h1 h2
end
end PD

set_option Elab.async false
set_option linter.all false
set_option maxRecDepth 100000
set_option maxHeartbeats 4000000
/-! Dicts whose keys are tuples, the key written out as one. -/
namespace PD
open PySem PySem.Spec PyProof.Rows L2
def toKeys : List D → Option (List Key)
  | [] => some []
  | d :: ds => match toKey d, toKeys ds with
    | some k, some ks => some (k :: ks)
    | _, _ => none
theorem keys_rep {K : PySem.W.Frag} {H : Hp} : ∀ {ds : List D} {vs : List V} {ks : List Key}, RepL K H ds vs → toKeys ds = some ks → vs = ks.map kV
  | [], _, _, .nil, h => by cases h; rfl
  | d :: ds, _, _, .cons r rs, h => by
    unfold toKeys at h
    split at h
    · rename_i k ks h1 h2
      cases h
      rw [key_rep r h1, keys_rep rs h2]
      rfl
    · cases h
theorem TX.dT {H : Hp} {a : Addr} {us : List (List Key × V)} {o : HO} (h : H a = some (.dT us)) : TX H (upd H a o) := fun b u i e => by
  rw [upd_ne]
  · exact e
  · rintro rfl
    rw [h] at e; cases e; exact i.elim
theorem RM.setT {K : PySem.W.Frag} {H : Hp} {m : Mu} {p : Addr} {kvs : List (List Key × D)} {us ws : List (List Key × V)} (r : RM K H m) (h : H p = some (.dT ws)) (e1 : us.map (·.1) = kvs.map (·.1)) (q : RepL K H (kvs.map (·.2)) (us.map (·.2))) : RM K (upd H p (.dT us)) (mset m p (.dcT kvs)) := fun a o e => by
  by_cases ha : a = p
  · subst ha
    rw [mset_same] at e; cases e
    exact ⟨us, upd_same, e1, q.mono (.dT h)⟩
  · rw [mset_ne ha] at e
    refine (r a o e).tx (.dT h) fun us z => ?_
    rw [upd_ne ha]; exact z
theorem RM.newT {K : PySem.W.Frag} {H : Hp} {m : Mu} {p : Addr} (r : RM K H m) (h : H p = none) : RM K (upd H p (.dT [])) (mset m p (.dcT [])) := fun a o e => by
  by_cases ha : a = p
  · subst ha
    rw [mset_same] at e; cases e
    exact ⟨[], upd_same, rfl, .nil⟩
  · rw [mset_ne ha] at e
    exact r.skip h a o e
def dDNewT : DE := fun _ m Q => ∀ p, m p = none → Q (.ref p) (mset m p (.dcT []))
def dDGetT (dd : DE) (da : DA) : DE := fun s m Q => dd s m fun x m1 => da s m1 fun ds m2 => ds.length ≤ sizeLine ∧ ∃ a kvs ks d, x = .ref a ∧ m2 a = some (.dcT kvs) ∧ toKeys ds = some ks ∧ valD kvs ks = some d ∧ Q d m2
def dDPutT (dd : DE) (da : DA) (dv : DE) : DS := fun E s m => dv s m fun z m1 => dd s m1 fun x m2 => da s m2 fun ds m3 => ds.length ≤ sizeLine ∧ ∃ a kvs ks, x = .ref a ∧ m3 a = some (.dcT kvs) ∧ toKeys ds = some ks ∧ kvs.length < sizeLine ∧ E.nx s (mset m3 a (.dcT (putKD kvs ks z)))
section
variable {X : Cx} {o value : Expr} {es : List Expr} {pos pos' tp : Pos} {dd dv : DE} {da : DA} {kk : Nat}
theorem ge_dnewT : GE X (.Dict [] [] pos) dDNewT :=
  .of ⟨_, pe_dnewT, fun s H sd m Qd Q rs rm h k => fun p hp => k _ _ _ _ (.new hp) (rm.newT hp) (.ref p) (h p (rm.fresh hp))⟩
theorem ge_dgetT (hu : X.A.units + 1 < cLine) (ho : GE X o dd) (ha : GA X es da) (hs : NoSl (.Tuple es kk tp)) : GE X (.Subscript o (.Tuple es kk tp) pos) (dDGetT dd da) := by
  obtain ⟨td, pd, ld⟩ := ho.ex
  obtain ⟨ta, pa, la⟩ := ha.ex
  refine .of ⟨_, pe_dget hu pd (pe_tup pa) hs, fun s H sd m Qd Q rs rm h k => ?_⟩
  refine ld s H sd m _ _ rs rm h fun x H1 dx m1 t1 rm1 r1 h1 => ?_
  refine la s H1 sd m1 _ _ (rs.mono t1) rm1 h1 fun vs H2 ds m2 t2 rm2 r2 h2 => ?_
  obtain ⟨hz, a, kvs, ks, d, rfl, e2, e3, e4, h3⟩ := h2
  cases r1
  obtain ⟨us, e5, e6, r⟩ := rm2 a _ e2
  obtain ⟨v, e7, r7⟩ := (val_rep e6 r).1 d e4
  have hv := keys_rep r2 e3
  subst hv
  refine ⟨by rw [← r2.length]; exact hz, fun p hp => ?_⟩
  refine ⟨a, v, rfl, ?_, k _ _ _ _ (t1.trans (t2.trans (.new hp))) (rm2.skip hp) (r7.mono (.new hp)) h3⟩
  rw [← e7]
  exact DGet.t (by rw [upd_ne (ne_of_none e5 hp)]; exact e5) upd_same
theorem gs_dputT (hu : X.A.units + 1 < cLine) (ho : GE X o dd) (ha : GA X es da) (hv : GE X value dv) (hs : swapsWith value (some (.Subscript o (.Tuple es kk tp) pos')) pos.line X.env = pure false := by rfl) : GS X (.Assign [.Subscript o (.Tuple es kk tp) pos'] value pos) (dDPutT dd da dv) := by
  obtain ⟨td, pd, ld⟩ := ho.ex
  obtain ⟨ta, pa, la⟩ := ha.ex
  obtain ⟨tv, pv', lv⟩ := hv.ex
  refine ⟨_, ps_dput hu pd (pe_tup pa) pv' hs, fun s H sd m Ed E rs rm h k1 _ _ _ => ?_⟩
  refine lv s H sd m _ _ rs rm h fun z H1 dz m1 t1 rm1 r1 h1 => ?_
  refine ld s H1 sd m1 _ _ (rs.mono t1) rm1 h1 fun x H2 dx m2 t2 rm2 r2 h2 => ?_
  refine la s H2 sd m2 _ _ (rs.mono (t1.trans t2)) rm2 h2 fun vs H3 ds m3 t3 rm3 r3 h3 => ?_
  obtain ⟨hz, a, kvs, ks, rfl, e2, e3, hl, h4⟩ := h3
  cases r2
  obtain ⟨us, e5, e6, r⟩ := rm3 a _ e2
  have hv := keys_rep r3 e3
  subst hv
  have hlen : us.length = kvs.length := by have z := congrArg List.length e6; rwa [List.length_map, List.length_map] at z
  refine ⟨by rw [← r3.length]; exact hz, fun p hp => ?_⟩
  have e5' : (upd H3 p (.tup (ks.map kV))) a = some (.dT us) := by rw [upd_ne (ne_of_none e5 hp)]; exact e5
  have tn : TX H3 (upd H3 p (.tup (ks.map kV))) := .new hp
  have pr := putK_rep (k := ks) e6 (r.mono tn) ((r1.mono (t2.trans t3)).mono tn)
  exact ⟨a, _, rfl, DPut.t e5' upd_same (by omega), k1 _ _ _ _ (t1.trans (t2.trans (t3.trans (tn.trans (.dT e5'))))) ((rs.mono (t1.trans (t2.trans (t3.trans tn)))).mono (.dT e5')) ((rm3.skip hp).setT e5' pr.1 pr.2) h4⟩
end
end PD

set_option Elab.async false
set_option linter.all false
set_option maxRecDepth 100000
set_option maxHeartbeats 4000000
/-! d.get(k, x). -/
namespace PD
open PySem PySem.Spec PyProof.Rows L2
def dDGet2 (dd dk dx : DE) : DE := fun s m Q => dd s m fun x m1 => ∃ a, x = .ref a ∧ (∃ kvs, m1 a = some (.dct kvs)) ∧ dk s m1 fun y m2 => dx s m2 fun z m3 => ∃ kvs k, m3 a = some (.dct kvs) ∧ toKey y = some k ∧ Q ((valD kvs k).getD z) m3
section
variable {X : Cx} {o e f : Expr} {apos cpos : Pos} {dd dk dx : DE}
theorem ge_dget2 (hu : X.A.units + 1 < cLine) (ho : GE X o dd) (he : GE X e dk) (hf : GE X f dx) (m : M2 X o "get" apos e f cpos) : GE X (.Call (.Attribute o "get" apos) [e, f] [] cpos) (dDGet2 dd dk dx) := by
  obtain ⟨td, pd, ld⟩ := ho.ex
  obtain ⟨te, pe, le⟩ := he.ex
  obtain ⟨tf, pf, lf⟩ := hf.ex
  refine .of ⟨_, pe_dget2 hu pd pe pf m, fun s H sd m Qd Q rs rm h k => ?_⟩
  refine ld s H sd m _ _ rs rm h fun x H1 dx1 m1 t1 rm1 r1 h1 => ?_
  obtain ⟨a, rfl, ⟨kvs0, e0⟩, h2⟩ := h1
  cases r1
  obtain ⟨us0, e1, _⟩ := rm1 a _ e0
  refine ⟨a, rfl, .inl ⟨us0, .inl e1⟩, ?_⟩
  refine le s H1 sd m1 _ _ (rs.mono t1) rm1 h2 fun y H2 dy m2 t2 rm2 r2 h3 => ?_
  refine lf s H2 sd m2 _ _ (rs.mono (t1.trans t2)) rm2 h3 fun z H3 dz m3 t3 rm3 r3 h4 => ?_
  obtain ⟨kvs, kk, e2, e3, h5⟩ := h4
  obtain ⟨us, e5, e6, r⟩ := rm3 a _ e2
  have hy := key_rep (r2.mono t3) e3
  subst hy
  refine ⟨_, DGet.k e5, k _ _ _ _ (t1.trans (t2.trans t3)) rm3 ?_ h5⟩
  have z := val_rep (k := kk) e6 r
  cases q : valD kvs kk with
  | none => rw [z.2 q]; exact r3
  | some d => obtain ⟨v, e7, r7⟩ := z.1 d q; rw [e7]; exact r7
end
end PD

set_option Elab.async false
set_option linter.all false
set_option maxRecDepth 100000
set_option maxHeartbeats 4000000
/-! Lists that are finished become values; orders, min, max, sorted of plain data. -/
namespace PD
open PySem PySem.Spec PyProof.Rows L2
/-! ### finished lists -/
def mdel (m : Mu) (a : Addr) : Mu := fun b => if b = a then none else m b
theorem mdel_ne {m : Mu} {a b : Addr} (h : b ≠ a) : mdel m a b = m b := by unfold mdel; rw [if_neg h]
theorem mdel_sub (m : Mu) (a : Addr) : Sub (mdel m a) m := fun b o e => by
  unfold mdel at e
  split at e
  · cases e
  · exact e
theorem RM.frz {K : PySem.W.Frag} {H : Hp} {m : Mu} {p : Addr} {vs : List V} {od : Obj} (r : RM K H m) (h : H p = some (.lst vs)) : RM K (upd H p (.frz od (.lst vs))) (mdel m p) := fun a o e => by
  by_cases ha : a = p
  · subst ha; unfold mdel at e; rw [if_pos rfl] at e; cases e
  · rw [mdel_ne ha] at e
    refine (r a o e).tx (.lst h) fun us z => ?_
    rw [upd_ne ha]; exact z
def tFrz (t : TE) : TE := fun σ H Q => t σ H fun x H1 => Q x H1 ∨ ∃ p vs, x = .ref p ∧ H1 p = some (.lst vs) ∧ ∀ od, Q x (upd H1 p (.frz od (.lst vs)))
section
variable {X : Cx}
theorem pe_frz {e : Expr} {t : TE} (h : PE X e t) : PE X e (tFrz t) := by
  refine ⟨fun pins s σ H Q I hw => ?_⟩
  refine thn (h.run pins s σ H _ I hw) fun v s1 ⟨x, H1, I1, r, q⟩ => ?_
  rcases q with q | ⟨p, vs, rfl, hp, q⟩
  · exact ⟨x, H1, I1, r, q⟩
  · obtain ⟨od, I2⟩ := I1.lock hp trivial
    exact ⟨_, _, I2, r, q od⟩
def dFrzV (x : D) (m1 : Mu) (Q : DK) : Prop := match x with
  | .ref p => ∃ ds, m1 p = some (.lst ds) ∧ Q (.rol ds) (mdel m1 p)
  | x => Q x m1
def dFrz (d : DE) : DE := fun s m Q => d s m fun x m1 => dFrzV x m1 Q
theorem ge_frz {e : Expr} {d : DE} (h : GE X e d) : GE X e (dFrz d) := by
  obtain ⟨t, p, l⟩ := h.ex
  refine .of ⟨_, pe_frz p, fun s H sd m Qd Q rs rm h k => ?_⟩
  refine l s H sd m _ _ rs rm h fun v H1 dv m1 t1 rm1 r1 h1 => ?_
  cases r1 with
  | ref p =>
    obtain ⟨ds, e1, q⟩ := h1
    obtain ⟨vs, e2, r2⟩ := rm1 p _ e1
    exact .inr ⟨p, vs, rfl, e2, fun od => k _ _ _ _ (t1.trans (.lst e2)) (rm1.frz e2) (.rol (.inl ⟨od, upd_same⟩) (r2.mono (.lst e2))) q⟩
  | non => exact .inl (k _ _ _ _ t1 rm1 .non h1)
  | bl b => exact .inl (k _ _ _ _ t1 rm1 (.bl b) h1)
  | int i => exact .inl (k _ _ _ _ t1 rm1 (.int i) h1)
  | str z => exact .inl (k _ _ _ _ t1 rm1 (.str z) h1)
  | tup s r => exact .inl (k _ _ _ _ t1 rm1 (.tup s r) h1)
  | rol s r => exact .inl (k _ _ _ _ t1 rm1 (.rol s r) h1)
/-! ### lists, finished or not -/
def lsq (m : Mu) : D → Option (List D)
  | .rol ds => some ds
  | .ref a => match m a with | some (.lst ds) => some ds | _ => none
  | _ => none
theorem lsq_rep {K : PySem.W.Frag} {H : Hp} {m : Mu} {d : D} {v : V} {ds : List D} (rm : RM K H m) (r : Rep K H d v) (h : lsq m d = some ds) : ∃ a vs, v = .ref a ∧ SqL K H a vs ∧ RepL K H ds vs := by
  cases r with
  | rol s q => unfold lsq at h; cases h; exact ⟨_, _, rfl, s.sq, q⟩
  | ref a =>
    unfold lsq at h
    cases e : m a with
    | none => simp only [e] at h; cases h
    | some o =>
      have q := rm a o e
      cases o with
      | lst es => simp only [e] at h; cases h; obtain ⟨vs, e2, r⟩ := q; exact ⟨a, vs, rfl, SqL.of e2, r⟩
      | _ => simp only [e] at h; cases h
  | _ => unfold lsq at h; cases h
theorem lsq_rol {m : Mu} {ds : List D} : lsq m (.rol ds) = some ds := rfl
theorem lsq_ref {m : Mu} {a : Addr} {ds : List D} (h : m a = some (.lst ds)) : lsq m (.ref a) = some ds := by unfold lsq; simp only [h]
/-- list + list -/
def rCatL (K : PySem.W.Frag) : R2 := fun x y H Q => ∃ l b xs zs, x = .ref l ∧ y = .ref b ∧ SqL K H l xs ∧ SqL K H b zs ∧ xs.length + zs.length ≤ sizeLine ∧ ∀ p, H p = none → Q (.ref p) (upd H p (.lst (xs ++ zs)))
theorem op_catL : OpR X (binaryOp .Add) (rCatL X.K) := by
  intro pins s σ H x y v u Q I rx ry h
  obtain ⟨l, b, xs, zs, rfl, rfl, hH, hB, hz, q⟩ := h
  cases rx
  cases ry
  obtain ⟨its, r, p1, hl⟩ := I.list hH
  obtain ⟨its2, r2, p2, hl2⟩ := I.list hB
  obtain ⟨⟨cls, dd, data, sl⟩, n, ho, hc, hdd, hd⟩ := p1
  obtain ⟨⟨cls2, dd2, data2, sl2⟩, n2, ho2, hc2, hdd2, hd2⟩ := p2
  simp only at hc hd hc2 hd2
  subst hc hd hc2 hd2
  have ea : its.toArray ++ its2.toArray = (its ++ its2).toArray := by simp
  have hz2 : its.toArray.size + its2.toArray.size ≤ sizeLine := by
    have z1 := r.length
    have z2 := r2.length
    simp only [List.size_toArray]; omega
  refine PySem.concat_meets ⟨_, ho, rfl⟩ ⟨_, ho2, rfl⟩ PySem.noFill_list_add PySem.seq_list_add PySem.F.slot_list_add PySem.F.entry_list_add (PySem.F.args_list_add_2 _ _) (list_addW l b its.toArray its2.toArray n n2 dd dd2 sl sl2 hz2) ⟨ho, ho2, ?_⟩
  rw [ea]
  exact ⟨.ref _, _, I.lnew (t' := s.toks) (r.append r2) (by rw [List.length_append]; omega), rfl, q _ I.fresh⟩
def dAddL : D2 := fun x y m Q => match x, y with
  | .int i, .int j => Q (.int (i + j)) m
  | .str i, .str j => i.length + j.length ≤ sizeLine ∧ Q (.str (i ++ j)) m
  | .tup a, .tup b => a.length + b.length ≤ sizeLine ∧ Q (.tup (a ++ b)) m
  | x, y => ∃ xs ys, lsq m x = some xs ∧ lsq m y = some ys ∧ xs.length + ys.length ≤ sizeLine ∧ ∀ p, m p = none → Q (.ref p) (mset m p (.lst (xs ++ ys)))
def rAddL (K : PySem.W.Frag) : R2 := fun x y H Q => rAddU K x y H Q ∨ rCatL K x y H Q
theorem op_addL : OpR X (binaryOp .Add) (rAddL X.K) := op_addU.or op_catL
theorem lr_addL {K : PySem.W.Frag} : LR K (rAddL K) dAddL := fun x y H dx dy m Qd Q rm rx ry h k => by
  have go : (∃ xs ys, lsq m dx = some xs ∧ lsq m dy = some ys ∧ xs.length + ys.length ≤ sizeLine ∧ ∀ p, m p = none → Qd (.ref p) (mset m p (.lst (xs ++ ys)))) → rAddL K x y H Q := by
    rintro ⟨xs, ys, h1, h2, hz, h⟩
    obtain ⟨a, vs, rfl, s1, r1⟩ := lsq_rep rm rx h1
    obtain ⟨b, ws, rfl, s2, r2⟩ := lsq_rep rm ry h2
    exact .inr ⟨a, b, vs, ws, rfl, rfl, s1, s2, by rw [← r1.length, ← r2.length]; exact hz, fun p hp => k _ _ _ _ (.new hp) (rm.newL hp (r1.append r2)) (.ref p) (h p (rm.fresh hp))⟩
  by_cases hi : (∃ i j, dx = .int i ∧ dy = .int j) ∨ (∃ i j, dx = .str i ∧ dy = .str j) ∨ ∃ i j, dx = .tup i ∧ dy = .tup j
  · refine .inl (lr_add x y H dx dy m Qd Q rm rx ry ?_ k)
    rcases hi with ⟨i, j, rfl, rfl⟩ | ⟨i, j, rfl, rfl⟩ | ⟨i, j, rfl, rfl⟩ <;> exact h
  · refine go ?_
    unfold dAddL at h
    split at h
    · exact absurd (.inl ⟨_, _, rfl, rfl⟩) hi
    · exact absurd (.inr (.inl ⟨_, _, rfl, rfl⟩)) hi
    · exact absurd (.inr (.inr ⟨_, _, rfl, rfl⟩)) hi
    · exact h
/-! list * int, of a list just made -/
def dMulL : D2 := fun x y m Q => match x, y with
  | .int i, .int j => CMul i j ∧ Q (.int (i * j)) m
  | .str z, .int n => 0 ≤ n ∧ n ≤ 1000 ∧ z.length ≤ 1000 ∧ Q (.str (repS z n.toNat)) m
  | .ref a, .int n => ∃ xs, m a = some (.lst xs) ∧ -(2 ^ 63) ≤ n ∧ n < 2 ^ 63 ∧ xs.length * n.toNat ≤ sizeLine ∧ ∀ p, m p = none → Q (.ref p) (mset m p (.lst (List.replicate n.toNat xs).flatten))
  | _, _ => False
def rMulL : R2 := fun x y H Q => rMulU x y H Q ∨ rRep x y H Q
theorem op_mulL : OpR X (binaryOp .Mult) rMulL := op_mulU.or op_rep
theorem RepL.repl {K : PySem.W.Frag} {H : Hp} {ds : List D} {vs : List V} (r : RepL K H ds vs) : ∀ n : Nat, RepL K H (List.replicate n ds).flatten (List.replicate n vs).flatten
  | 0 => .nil
  | n + 1 => by rw [List.replicate_succ, List.replicate_succ, List.flatten_cons, List.flatten_cons]; exact r.append (RepL.repl r n)
theorem lr_mulL {K : PySem.W.Frag} : LR K rMulL dMulL := fun x y H dx dy m Qd Q rm rx ry h k => by
  cases rx with
  | int i =>
    cases ry with
    | int j => exact .inl (.inl ⟨i, j, rfl, rfl, h.1, k _ H _ m (.refl H) rm (.int _) h.2⟩)
    | _ => exact h.elim
  | str i =>
    cases ry with
    | int j => exact .inl (.inr ⟨i, j, rfl, rfl, h.1, h.2.1, h.2.2.1, k _ H _ m (.refl H) rm (.str _) h.2.2.2⟩)
    | _ => exact h.elim
  | ref a =>
    cases ry with
    | int j =>
      obtain ⟨xs, e, h1, h2, h3, h4⟩ := h
      obtain ⟨vs, e2, r⟩ := rm a _ e
      exact .inr ⟨a, j, vs, rfl, rfl, e2, h1, h2, by rw [← r.length]; exact h3, fun p hp => k _ _ _ _ (.new hp) (rm.newL hp (r.repl _)) (.ref p) (h4 p (rm.fresh hp))⟩
    | _ => exact h.elim
  | _ => exact h.elim
/-! slices of finished lists too -/
def dSlL (de : DE) (dl dh : DO) : DE := fun s m Q => de s m fun x m1 => dl s m1 fun lo m2 => dh s m2 fun hi m3 => match x with
  | .tup ds => Q (.tup (cutD ds lo hi)) m3
  | x => ∃ ds, lsq m3 x = some ds ∧ ∀ p, m3 p = none → Q (.ref p) (mset m3 p (.lst (cutD ds lo hi)))
theorem ge_sliceL {e : Expr} {lo hi : Option Expr} {pos p2 : Pos} {de : DE} {dl dh : DO} (he : GE X e de) (hl : GO X lo dl) (hh : GO X hi dh) : GE X (.Subscript e (.Slice lo hi none p2) pos) (dSlL de dl dh) := by
  obtain ⟨te, p, l⟩ := he.ex
  obtain ⟨tl, q, l2⟩ := hl.ex
  obtain ⟨th, q2, l3⟩ := hh.ex
  refine .of ⟨_, pe_slice (sl_tupA.or sl_list) p q q2, fun s H sd m Qd Q rs rm h k => ?_⟩
  refine l s H sd m _ _ rs rm h fun v H1 dv m1 t1 rm1 r1 h1 => ?_
  refine l2 s H1 sd m1 _ _ (rs.mono t1) rm1 h1 fun lo H2 m2 t2 rm2 h2 => ?_
  refine l3 s H2 sd m2 _ _ (rs.mono (t1.trans t2)) rm2 h2 fun hi H3 m3 t3 rm3 h3 => ?_
  have r3 := r1.mono (t2.trans t3)
  have t13 := t1.trans (t2.trans t3)
  by_cases ht : ∃ ds, dv = .tup ds
  · obtain ⟨ds, rfl⟩ := ht
    cases r3 with
    | @tup ds a vs sa ra =>
      refine .inl ⟨a, vs, rfl, sa, fun e => ?_, fun e p hp => ?_⟩
      · have e2 : cutD ds lo hi = ds := by
          unfold cutD
          rw [ra.length, e.1, e.2, List.drop_zero, Nat.sub_zero, ← ra.length, List.take_length]
        have h4 : Qd (.tup (cutD ds lo hi)) m3 := h3
        rw [e2] at h4
        exact k _ H3 _ m3 t13 rm3 (.tup sa ra) h4
      · exact k _ _ _ m3 (t13.trans (.new hp)) (rm3.skip hp) (.tup (SqT.of upd_same) ((ra.cut lo hi).mono (.new hp))) h3
  · have h4 : ∃ ds, lsq m3 dv = some ds ∧ ∀ p, m3 p = none → Qd (.ref p) (mset m3 p (.lst (cutD ds lo hi))) := by
      split at h3
      · exact absurd ⟨_, rfl⟩ ht
      · exact h3
    obtain ⟨ds, e, q⟩ := h4
    obtain ⟨a, vs, rfl, sl, r⟩ := lsq_rep rm3 r3 e
    exact .inr ⟨a, vs, rfl, sl, fun p hp => k _ _ _ _ (t13.trans (.new hp)) (rm3.newL hp (r.cut lo hi)) (.ref p) (q p (rm3.fresh hp))⟩
/-! ### orders of plain data -/
def ltP (x y : D) : Bool := match toP x, toP y with
  | some p, some q => PySem.W.dataLt p q
  | _, _ => false
/-- both can be asked which is less -/
def ordP (x y : D) : Prop := ∃ p q, toP x = some p ∧ toP y = some q ∧ PySem.W.alike p q = true ∧ p ≠ .none ∧ min p.depth q.depth ≤ 60
def rLtS (K : PySem.W.Frag) (f : PyData → PyData → Bool) : R2 := fun x y H Q => ∃ p q, Dp K H x p ∧ Dp K H y q ∧ PySem.W.alike p q = true ∧ p ≠ .none ∧ min p.depth q.depth ≤ 60 ∧ Q (.bl (f p q)) H
theorem op_ltS (hu : X.A.units + 64 < cLine) : OpR X (compareOp .Lt) (rLtS X.K fun p q => PySem.W.dataLt p q) := fun pz s τ H x y v u Q I rx ry ⟨p, q, hp, hq, al, hn, hd, h⟩ => by
  obtain ⟨as, r1⟩ := Dp.reads I _ _ v hp rx
  obtain ⟨bs, r2⟩ := Dp.reads I _ _ u hq ry
  exact PySem.W.lt_data r1 r2 al hn (by omega) ⟨.bl _, H, I, rfl, h⟩
theorem op_gtS (hu : X.A.units + 64 < cLine) : OpR X (compareOp .Gt) (rLtS X.K fun p q => PySem.W.dataLt q p) := fun pz s τ H x y v u Q I rx ry ⟨p, q, hp, hq, al, hn, hd, h⟩ => by
  obtain ⟨as, r1⟩ := Dp.reads I _ _ v hp rx
  obtain ⟨bs, r2⟩ := Dp.reads I _ _ u hq ry
  exact PySem.W.gt_data r1 r2 al hn (by omega) ⟨.bl _, H, I, rfl, h⟩
theorem op_leS (hu : X.A.units + 64 < cLine) : OpR X (compareOp .LtE) (rLtS X.K fun p q => !PySem.W.dataLt q p) := fun pz s τ H x y v u Q I rx ry ⟨p, q, hp, hq, al, hn, hd, h⟩ => by
  obtain ⟨as, r1⟩ := Dp.reads I _ _ v hp rx
  obtain ⟨bs, r2⟩ := Dp.reads I _ _ u hq ry
  exact PySem.W.le_data r1 r2 al hn (by omega) ⟨.bl _, H, I, rfl, h⟩
def dLtS (f : D → D → Bool) : D2 := fun x y m Q => ordP x y ∧ Q (.bl (f x y)) m
theorem lr_ltS {K : PySem.W.Frag} {f : PyData → PyData → Bool} {g : D → D → Bool} (hg : ∀ x y p q, toP x = some p → toP y = some q → g x y = f p q) : LR K (rLtS K f) (dLtS g) := fun x y H dx dy m Qd Q rm rx ry ⟨⟨p, q, e1, e2, al, hn, hd⟩, h⟩ k =>
  ⟨p, q, rx.dp e1, ry.dp e2, al, hn, hd, by rw [← hg _ _ _ _ e1 e2]; exact k _ H _ m (.refl H) rm (.bl _) h⟩
theorem ltP_eq {x y : D} {p q : PyData} (e1 : toP x = some p) (e2 : toP y = some q) : ltP x y = PySem.W.dataLt p q := by unfold ltP; rw [e1, e2]
theorem lr_ltP {K : PySem.W.Frag} : LR K (rLtS K fun p q => PySem.W.dataLt p q) (dLtS ltP) := lr_ltS fun _ _ _ _ e1 e2 => ltP_eq e1 e2
theorem lr_gtP {K : PySem.W.Frag} : LR K (rLtS K fun p q => PySem.W.dataLt q p) (dLtS fun x y => ltP y x) := lr_ltS fun _ _ _ _ e1 e2 => ltP_eq e2 e1
theorem lr_leP {K : PySem.W.Frag} : LR K (rLtS K fun p q => !PySem.W.dataLt q p) (dLtS fun x y => !ltP y x) := lr_ltS fun _ _ _ _ e1 e2 => by rw [ltP_eq e2 e1]
theorem ordP_i (i j : Int) : ordP (.int i) (.int j) := ⟨.int i, .int j, rfl, rfl, rfl, (fun z => by cases z), by show min 0 0 ≤ 60; decide⟩
theorem ordP_s (i j : Str) : ordP (.str i) (.str j) := ⟨.str i, .str j, rfl, rfl, rfl, (fun z => by cases z), by show min 0 0 ≤ 60; decide⟩
theorem ltP_i (i j : Int) : ltP (.int i) (.int j) = decide (i < j) := PySem.W.dataLt_int i j
theorem ltP_s (i j : Str) : ltP (.str i) (.str j) = decide (i.cps.toList < j.cps.toList) := PySem.W.dataLt_str i j
theorem dLtS_i {f : D → D → Bool} {i j : Int} {m : Mu} {Q : DK} : dLtS f (.int i) (.int j) m Q = Q (.bl (f (.int i) (.int j))) m := propext ⟨fun h => h.2, fun h => ⟨ordP_i i j, h⟩⟩
theorem dLtS_s {f : D → D → Bool} {i j : Str} {m : Mu} {Q : DK} : dLtS f (.str i) (.str j) m Q = Q (.bl (f (.str i) (.str j))) m := propext ⟨fun h => h.2, fun h => ⟨ordP_s i j, h⟩⟩
/-! x in xs, of plain data -/
def eqP (x y : D) : Bool := match toP x, toP y with
  | some p, some q => PyData.eqv p q
  | _, _ => false
def inP (x : D) (ds : List D) : Bool := ds.any fun y => eqP y x
def rInP (K : PySem.W.Frag) (neg : Bool) : R2 := fun x y H Q => ∃ (p : PyData) (ps : List PyData), Dp K H x p ∧ (Dp K H y (.list ps) ∨ Dp K H y (.tuple ps)) ∧ PyData.plainAll ps = true ∧ p.plain = true ∧ min (PyData.depthAll ps) p.depth ≤ 60 ∧ Q (.bl (if neg then !ps.any fun z => PyData.eqv z p else ps.any fun z => PyData.eqv z p)) H
theorem op_inP (hu : X.A.units + 64 < cLine) : OpR X (compareOp .In) (rInP X.K false) := fun pz s τ H x y v u Q I rx ry ⟨p, ps, hp, hq, h1, h2, hd, h⟩ => by
  obtain ⟨as, r1⟩ := Dp.reads I _ _ v hp rx
  rcases hq with hq | hq
  · obtain ⟨bs, r2⟩ := Dp.reads I _ _ u hq ry
    exact PySem.SeqAt.in_list_data r2 r1 h1 h2 (by omega) ⟨.bl _, H, I, rfl, h⟩
  · obtain ⟨bs, r2⟩ := Dp.reads I _ _ u hq ry
    exact PySem.SeqAt.in_tuple_data r2 r1 h1 h2 (by omega) ⟨.bl _, H, I, rfl, h⟩
theorem op_notInP (hu : X.A.units + 64 < cLine) : OpR X (compareOp .NotIn) (rInP X.K true) := fun pz s τ H x y v u Q I rx ry ⟨p, ps, hp, hq, h1, h2, hd, h⟩ => by
  obtain ⟨as, r1⟩ := Dp.reads I _ _ v hp rx
  rcases hq with hq | hq
  · obtain ⟨bs, r2⟩ := Dp.reads I _ _ u hq ry
    exact PySem.SeqAt.notIn_list_data r2 r1 h1 h2 (by omega) ⟨.bl _, H, I, rfl, h⟩
  · obtain ⟨bs, r2⟩ := Dp.reads I _ _ u hq ry
    exact PySem.SeqAt.notIn_tuple_data r2 r1 h1 h2 (by omega) ⟨.bl _, H, I, rfl, h⟩
end
end PD

set_option Elab.async false
set_option linter.all false
set_option maxRecDepth 100000
set_option maxHeartbeats 4000000
/-! sorted, min, max, sum of lists and tuples of plain data -/
namespace PySem.W
open PySem PySem.Calls PyProof.Rows
section
variable {prog : Program} {w : World} {A : Around} {E : Value → Shared → Prop} {s : Shared} {β : Type} {R : Value → β → Prop} {enc : β → PyData} {vs : List Value} {bs : List β}
theorem pd_sorted_seq {it : Addr} {T : String} {o : Obj} {n : Nat} {Q : Value → Shared → Prop} (hT : T = "list" ∨ T = "tuple") (ho : s.heap.get? it = some o) (hc : o.cls = .type T) (hd : o.data = .seq vs.toArray n)
    (e : EachIs R vs bs) (er : EachIs (fun v b => ∃ as, Reads s.heap v (enc b) as) vs bs) (hal : AllAlike (bs.map enc)) (hk : Sortable (bs.map enc)) (hL : bs.length ≤ sizeLine) (hu : ∀ b, b ∈ bs → A.units + 2 + (enc b).depth < cLine)
    (h : ∀ (out : List Value) (p : Addr) (c : Nat) (h1 h' : Heap), out.length = bs.length → EachIs R out (bs.mergeSort (dataLe false enc)) → (∀ b u, s.heap.get? b = some u → h1.get? b = some u) → (∀ b u, h1.get? b = some u → h'.get? b = some u) → h1.objs.size ≤ p → h'.get? p = some (seqObj "list" out.toArray c) → Q (.ref p) { s with heap := h' }) :
    wpAny (model prog w) A (call (.builtin "sorted") [.ref it]) Q E s := by
  have hLv : vs.length ≤ sizeLine := by rw [e.length]; exact hL
  refine call_function_entry_kw kind_sorted plain_sorted entry_sorted (args_sorted1 _) ?_
  unfold Builtin.«sorted»
  refine wpAny_bind (m := checkCount "sorted" 1 1 _) (wpAny_pure ?_)
  refine wpAny_bind (wpAny_collect_seq it hT ho hc hd (fun h1 k1 => ?_) (by rw [List.size_toArray]; exact hLv))
  rw [show vs.toArray.toList = vs from rfl]
  refine wpAny_bind (wpAny_newList ?_ hLv)
  have hoL : (h1.push (seqObj "list" vs.toArray 0)).get? h1.objs.size = some (seqObj "list" vs.toArray 0) := Heap.get?_push_size _ rfl
  have k2 : ∀ b u, s.heap.get? b = some u → (sortingHeap (h1.push (seqObj "list" vs.toArray 0)) h1.objs.size vs).get? b = some u := fun b u q => by
    have q1 := k1 b u q
    have hlt := Heap.lt_size q1
    exact sortingHeap_old (Nat.ne_of_lt hlt) (Heap.get?_push_of_some _ q1)
  have er' : EachIs (fun v b => ∃ as, Reads (sortingHeap (h1.push (seqObj "list" vs.toArray 0)) h1.objs.size vs) v (enc b) as) vs bs := er.mono fun _ _ ⟨as, r⟩ => ⟨as, PyProof.Rows.Reads.keeps k2 r⟩
  have S : SortsAt prog w A.in1.in1 { s with heap := sortingHeap (h1.push (seqObj "list" vs.toArray 0)) h1.objs.size vs } (dataKind (sortingHeap (h1.push (seqObj "list" vs.toArray 0)) h1.objs.size vs) (bs.map enc)) vs :=
    SortsAt.data (s := { s with heap := sortingHeap (h1.push (seqObj "list" vs.toArray 0)) h1.objs.size vs }) (each_map (R := fun v d => ∃ as, Reads (sortingHeap (h1.push (seqObj "list" vs.toArray 0)) h1.objs.size vs) v d as) enc er') hal hk (bound_map hu)
  refine wpAny_bind (wpAny_holding (wpAny_call_entry_kw slot_list_sort ⟨_, hoL, rfl⟩ entry_list_sort ?body (args_list_sort _)))
  case body =>
    refine list_sort_vals (s := { s with heap := h1.push (seqObj "list" vs.toArray 0) }) (n := 0) hoL S hLv ⟨_, rfl, wpAny_pure ⟨_, rfl, ?_⟩⟩
    obtain ⟨c, hc⟩ := sortedHeap_at (vs := vs) (out := (sortVals (dataKind (sortingHeap (h1.push (seqObj "list" vs.toArray 0)) h1.objs.size vs) (bs.map enc)) false vs vs).toArray) hoL
    refine h _ h1.objs.size c h1 _ (by rw [sortVals_length false rfl]; exact e.length) (sortVals_data false e er' hal) k1 (fun b u q => ?_) (Nat.le_refl _) hc
    have hlt := Heap.lt_size q
    rw [sortedHeap_old (Nat.ne_of_lt hlt) (by rw [size_push']; exact Nat.lt_succ_of_lt hlt)]
    exact Heap.get?_push_of_some _ q
theorem pd_minD_mem : ∀ (xs : List PyData) (x : PyData), minD x xs ∈ x :: xs
  | [], x => List.mem_cons_self ..
  | y :: ys, x => by
    have q : minD x (y :: ys) = minD (if dataLt y x then y else x) ys := rfl
    rw [q]
    rcases List.mem_cons.mp (pd_minD_mem ys (if dataLt y x then y else x)) with z | z
    · rw [z]; split <;> simp
    · exact List.mem_cons_of_mem _ (List.mem_cons_of_mem _ z)
theorem pd_maxD_mem : ∀ (xs : List PyData) (x : PyData), maxD x xs ∈ x :: xs
  | [], x => List.mem_cons_self ..
  | y :: ys, x => by
    have q : maxD x (y :: ys) = maxD (if dataLt x y then y else x) ys := rfl
    rw [q]
    rcases List.mem_cons.mp (pd_maxD_mem ys (if dataLt x y then y else x)) with z | z
    · rw [z]; split <;> simp
    · exact List.mem_cons_of_mem _ (List.mem_cons_of_mem _ z)
end
end PySem.W
namespace PD
open PySem PySem.Spec PyProof.Rows L2
open PySem.W (EachIs AllAlike Sortable dataLe AlikeAll minD maxD)
/-! a value of the machine stands for plain data -/
def RD (K : PySem.W.Frag) (H : Hp) (u : Value) (d : D) : Prop := ∃ x : V, RelV x u ∧ Rep K H d x
def encP (d : D) : PyData := (toP d).getD .none
def leP (a b : D) : Bool := !ltP b a
/-- all have data -/
def datL (ds : List D) : Prop := ∀ d ∈ ds, (toP d).isSome
section
variable {X : Cx}
theorem each_of {K : PySem.W.Frag} {H : Hp} : ∀ {ds : List D} {vs : List V} {us : List Value}, RepL K H ds vs → Vals vs us → EachIs (RD K H) us ds
  | _, _, _, .nil, .nil => .nil
  | _, _, _, .cons r t, .cons a b => .cons ⟨_, a, r⟩ (each_of t b)
theorem of_each {K : PySem.W.Frag} {H : Hp} : ∀ {ds : List D} {us : List Value}, EachIs (RD K H) us ds → ∃ vs, RepL K H ds vs ∧ Vals vs us
  | _, _, .nil => ⟨[], .nil, .nil⟩
  | _, _, .cons ⟨x, a, r⟩ t => let ⟨vs, b, c⟩ := of_each t; ⟨x :: vs, .cons r b, .cons a c⟩
theorem encP_some {d : D} (h : (toP d).isSome) : toP d = some (encP d) := by
  unfold encP
  cases e : toP d with
  | none => rw [e] at h; cases h
  | some p => rfl
theorem each_reads {pz : List (Addr × Obj)} {τ : L2.St} {H : Hp} {s : Shared} (I : Inv X pz τ H s) : ∀ {ds : List D} {us : List Value}, datL ds → EachIs (RD X.K H) us ds → EachIs (fun v b => ∃ as, Reads s.heap v (encP b) as) us ds
  | _, _, _, .nil => .nil
  | _, _, h, .cons ⟨x, a, r⟩ t => .cons (Dp.reads I _ _ _ (r.dp (encP_some (h _ (List.mem_cons_self ..)))) a) (each_reads I (fun d hd => h d (List.mem_cons_of_mem _ hd)) t)
/-- what sorted, min and max ask of the items -/
structure OrdL (ds : List D) : Prop where
  dat : datL ds
  al : ∀ x ∈ ds, ∀ y ∈ ds, PySem.W.alike (encP x) (encP y) = true
  dep : ∀ x ∈ ds, (encP x).depth ≤ 50
theorem OrdL.all {ds : List D} (h : OrdL ds) : AllAlike (ds.map encP) := fun d hd d' hd' => by
  obtain ⟨x, hx, rfl⟩ := List.mem_map.mp hd
  obtain ⟨y, hy, rfl⟩ := List.mem_map.mp hd'
  exact h.al x hx y hy
def rSortS (K : PySem.W.Frag) : List V → Hp → VK → Prop := fun vs H Q => ∃ (a : Addr) (xs : List V) (ds : List D), vs = [V.ref a] ∧ (SqL K H a xs ∨ SqT K H a xs) ∧ RepL K H ds xs ∧ OrdL ds ∧ Sortable (ds.map encP) ∧
  ∀ ys p, RepL K H (ds.mergeSort (dataLe false encP)) ys → H p = none → Q (.ref p) (upd H p (.lst ys))
theorem cr_sortS (hu : X.A.units + 64 < cLine) : CallR X (.builtin "sorted") (rSortS X.K) := by
  intro pins s σ H vs us Q I r h
  obtain ⟨a, xs, ds, rfl, hs, rep, ord, srt, q⟩ := h
  rw [Vals.ref1 r]
  obtain ⟨its, rv, hz, T, hT, o, n, ho, hc, hd⟩ : ∃ its : List Value, Vals xs its ∧ xs.length ≤ sizeLine ∧ ∃ T, (T = "list" ∨ T = "tuple") ∧ ∃ (o : Obj) (n : Nat), s.heap.get? a = some o ∧ o.cls = .type T ∧ o.data = .seq its.toArray n := by
    rcases hs with hs | hs
    · obtain ⟨its, rv, ⟨o, n, ho, hc, _, hd⟩, hz⟩ := I.list hs
      exact ⟨its, rv, hz, "list", .inl rfl, o, n, ho, hc, hd⟩
    · obtain ⟨its, rv, ⟨o, ho, hc, n, hd⟩, hz⟩ := I.tuple hs
      exact ⟨its, rv, hz, "tuple", .inr rfl, o, n, ho, hc, hd⟩
  have e := each_of rep rv
  refine PySem.W.pd_sorted_seq (enc := encP) hT ho hc hd e (each_reads I ord.dat e) ord.all srt (by rw [rep.length]; exact hz) (fun b hb => by have := ord.dep b hb; omega) fun out p c h1 h' hl he k1 k2 hp hg => ?_
  obtain ⟨ys, ry, vy⟩ := of_each he
  have I1 : Inv X pins σ H { s with heap := h1, toks := s.toks } := I.kept k1
  have hn : H p = none := I1.hok.fresh hp
  have hlen : ys.length ≤ sizeLine := by
    rw [← ry.length, List.length_mergeSort, rep.length]; exact hz
  exact ⟨.ref p, upd H p (.lst ys), I1.laid (t' := s.toks) k2 hp ⟨hlen, out, c, vy, hg⟩, rfl, q ys p ry hn⟩
def dSortL : DC := fun ds m Q => match ds with
  | [d] => ∃ es, seqOf m d = some es ∧ OrdL es ∧ Sortable (es.map encP) ∧ ∀ p, m p = none → Q (.ref p) (mset m p (.lst (es.mergeSort (dataLe false encP))))
  | _ => False
theorem lc_sortL {K : PySem.W.Frag} : LC K (rSortS K) dSortL := fun vs H ds m Qd Q rm r h k => by
  match ds, r, h with
  | [d], r, h =>
    obtain ⟨es, e, ord, srt, q⟩ := h
    obtain ⟨v, rfl, ra9⟩ := repL1 r
    obtain ⟨a, ws, rfl, s, r2⟩ := seq_rep rm ra9 e
    exact ⟨a, ws, es, rfl, s, r2, ord, srt, fun ys p ry hp => k _ _ _ _ (.new hp) (rm.newL hp ry) (.ref p) (q p (rm.fresh hp))⟩
/-! min, max -/
def rMinS (K : PySem.W.Frag) (f : PyData → List PyData → PyData) : List V → Hp → VK → Prop := fun vs H Q => ∃ (a : Addr) (xs : List V) (d : D) (ds : List D), vs = [V.ref a] ∧ (SqL K H a xs ∨ SqT K H a xs) ∧ RepL K H (d :: ds) xs ∧ OrdL (d :: ds) ∧ (∀ x ∈ d :: ds, encP x ≠ .none) ∧
  ∀ x ∈ d :: ds, encP x = f (encP d) (ds.map encP) → ∀ v, Rep K H x v → Q v H
theorem depthAll_le {n : Nat} : ∀ {ps : List PyData}, (∀ p ∈ ps, p.depth ≤ n) → PyData.depthAll ps ≤ n
  | [], _ => by unfold PyData.depthAll; exact Nat.zero_le _
  | p :: ps, h => by
    unfold PyData.depthAll
    have h1 := h p (List.mem_cons_self ..)
    have h2 := depthAll_le (ps := ps) fun q hq => h q (List.mem_cons_of_mem _ hq)
    omega
theorem OrdL.alike {ds : List D} (h : OrdL ds) (hn : ∀ x ∈ ds, encP x ≠ .none) : AlikeAll (ds.map encP) := ⟨h.all, fun p hp => by
  obtain ⟨x, hx, rfl⟩ := List.mem_map.mp hp
  exact hn x hx⟩
theorem readsAll_of {h : Heap} : ∀ {us : List Value} {ds : List D}, EachIs (fun v b => ∃ as, Reads h v (encP b) as) us ds → ∃ as, ReadsAll h us (ds.map encP) as
  | _, _, e => PySem.W.each_readsAll encP e
theorem each_get {α β : Type} {R : α → β → Prop} : ∀ {as : List α} {bs : List β} {i : Nat} {a : α}, EachIs R as bs → as[i]? = some a → ∃ b, bs[i]? = some b ∧ R a b
  | _, _, _, _, .nil, e => by simp at e
  | _, _, 0, _, .cons h t, e => by simp at e; subst e; exact ⟨_, rfl, h⟩
  | _, _, i + 1, a, .cons h t, e => by
    obtain ⟨b, h1, h2⟩ := each_get (i := i) (a := a) t (by simpa using e)
    exact ⟨b, by simpa using h1, h2⟩
theorem min_fin {pins : List (Addr × Obj)} {σ : L2.St} {H : Hp} {s : Shared} {its : List Value} {d : D} {ds : List D} {f : PyData → List PyData → PyData} (I : Inv X pins σ H s) (ord : OrdL (d :: ds)) (e : EachIs (RD X.K H) its (d :: ds)) (hm : ∀ x xs, f x xs ∈ x :: xs)
    {Q : VK} (q : ∀ x ∈ d :: ds, encP x = f (encP d) (ds.map encP) → ∀ v, Rep X.K H x v → Q v H) {i : Nat} {v : Value} {h' : Heap} {tk : Nat} {bs : List Addr} (hi : its[i]? = some v) (hr : Reads h' v (f (encP d) (ds.map encP)) bs) (hk : ∀ b o, s.heap.get? b = some o → h'.get? b = some o) :
    EP X pins σ Q v { s with heap := h', toks := tk } := by
  have I1 : Inv X pins σ H { s with heap := h', toks := tk } := I.kept hk
  obtain ⟨x, hx, y, rv, ry⟩ := each_get e hi
  have hxm : x ∈ d :: ds := List.mem_of_getElem? hx
  obtain ⟨as, r2⟩ := Dp.reads I1 _ _ _ (ry.dp (encP_some (ord.dat x hxm))) rv
  obtain ⟨z, hz, hze⟩ : ∃ z ∈ d :: ds, encP z = f (encP d) (ds.map encP) := by
    have := hm (encP d) (ds.map encP)
    rw [show encP d :: ds.map encP = (d :: ds).map encP from rfl] at this
    obtain ⟨z, hz, e⟩ := List.mem_map.mp this
    exact ⟨z, hz, e⟩
  have ee : encP x = f (encP d) (ds.map encP) := PySem.W.alike_unique _ _ _ _ _ (by rw [← hze]; exact ord.al x hxm z hz) r2 hr
  exact ⟨y, H, I1, rv, q x hxm ee y ry⟩
theorem cr_minS (hc : X.calm = true) (hu : X.A.units + 64 < cLine) : CallR X (.builtin "min") (rMinS X.K minD) := by
  intro pins s σ H vs us Q I r h
  obtain ⟨a, xs, d, ds, rfl, hs, rep, ord, hn, q⟩ := h
  rw [Vals.ref1 r]
  have hd : X.A.units + 1 + PyData.depthAll (encP d :: ds.map encP) < cLine := by
    have := depthAll_le (n := 50) (ps := (d :: ds).map encP) fun p hp => by
      obtain ⟨x, hx, rfl⟩ := List.mem_map.mp hp
      exact ord.dep x hx
    rw [List.map_cons] at this
    omega
  rcases hs with hs | hs
  · obtain ⟨its, rv, pl, hz⟩ := I.list hs
    have e := each_of rep rv
    obtain ⟨as, hr⟩ := readsAll_of (each_reads I ord.dat e)
    exact PySem.W.min_list_data (I.ok.hd hc) pl.isList hr (ord.alike hn) hd fun i v h' tk bs hi hrd hk => min_fin I ord e (fun x xs => PySem.W.pd_minD_mem xs x) q (by simpa using hi) hrd hk
  · obtain ⟨its, rv, pl, hz⟩ := I.tuple hs
    have e := each_of rep rv
    obtain ⟨as, hr⟩ := readsAll_of (each_reads I ord.dat e)
    exact PySem.W.min_tuple_data (I.ok.hd hc) pl hr (ord.alike hn) hd fun i v h' tk bs hi hrd hk => min_fin I ord e (fun x xs => PySem.W.pd_minD_mem xs x) q (by simpa using hi) hrd hk
theorem cr_maxS (hc : X.calm = true) (hu : X.A.units + 64 < cLine) : CallR X (.builtin "max") (rMinS X.K maxD) := by
  intro pins s σ H vs us Q I r h
  obtain ⟨a, xs, d, ds, rfl, hs, rep, ord, hn, q⟩ := h
  rw [Vals.ref1 r]
  have hd : X.A.units + 1 + PyData.depthAll (encP d :: ds.map encP) < cLine := by
    have := depthAll_le (n := 50) (ps := (d :: ds).map encP) fun p hp => by
      obtain ⟨x, hx, rfl⟩ := List.mem_map.mp hp
      exact ord.dep x hx
    rw [List.map_cons] at this
    omega
  rcases hs with hs | hs
  · obtain ⟨its, rv, pl, hz⟩ := I.list hs
    have e := each_of rep rv
    obtain ⟨as, hr⟩ := readsAll_of (each_reads I ord.dat e)
    exact PySem.W.max_list_data (I.ok.hd hc) pl.isList hr (ord.alike hn) hd fun i v h' tk bs hi hrd hk => min_fin I ord e (fun x xs => PySem.W.pd_maxD_mem xs x) q (by simpa using hi) hrd hk
  · obtain ⟨its, rv, pl, hz⟩ := I.tuple hs
    have e := each_of rep rv
    obtain ⟨as, hr⟩ := readsAll_of (each_reads I ord.dat e)
    exact PySem.W.max_tuple_data (I.ok.hd hc) pl hr (ord.alike hn) hd fun i v h' tk bs hi hrd hk => min_fin I ord e (fun x xs => PySem.W.pd_maxD_mem xs x) q (by simpa using hi) hrd hk
/-- min, max: of one sequence, or of two ints -/
def dMinU (f : PyData → List PyData → PyData) (g : Int → Int → Int) : DC := fun ds m Q => match ds with
  | [x] => ∃ d es, seqOf m x = some (d :: es) ∧ OrdL (d :: es) ∧ (∀ x ∈ d :: es, encP x ≠ .none) ∧ ∀ x ∈ d :: es, encP x = f (encP d) (es.map encP) → Q x m
  | [.int i, .int j] => Q (.int (g i j)) m
  | _ => False
def rMinU (K : PySem.W.Frag) (f : PyData → List PyData → PyData) (g : Int → Int → Int) : List V → Hp → VK → Prop := fun xs H Q => (∃ i j, xs = [.int i, .int j] ∧ Q (.int (g i j)) H) ∨ rMinS K f xs H Q
theorem lc_minU {K : PySem.W.Frag} {f : PyData → List PyData → PyData} {g : Int → Int → Int} : LC K (rMinU K f g) (dMinU f g) := fun vs H ds m Qd Q rm r h k => by
  match ds, r, h with
  | [x], r, h =>
    obtain ⟨d, es, e, ord, hn, q⟩ := h
    obtain ⟨v, rfl, ra9⟩ := repL1 r
    obtain ⟨a, ws, rfl, s, r2⟩ := seq_rep rm ra9 e
    exact .inr ⟨a, ws, d, es, rfl, s, r2, ord, hn, fun x hx he v rv => k _ _ _ _ (.refl H) rm rv (q x hx he)⟩
  | [.int i, .int j], r, h =>
    obtain ⟨v, u, rfl, rv, ru⟩ := repL2 r
    cases rv
    cases ru
    exact .inl ⟨i, j, rfl, k _ H _ m (.refl H) rm (.int _) h⟩
theorem cr_minU (hc : X.calm = true) (hu : X.A.units + 64 < cLine) : CallR X (.builtin "min") (rMinU X.K minD fun i j => if j < i then j else i) := (call_min2 hc).or (cr_minS hc hu)
theorem cr_maxU (hc : X.calm = true) (hu : X.A.units + 64 < cLine) : CallR X (.builtin "max") (rMinU X.K maxD fun i j => if j > i then j else i) := (call_max2 hc).or (cr_maxS hc hu)
/-! sum -/
def rSumS (K : PySem.W.Frag) : List V → Hp → VK → Prop := fun vs H Q => ∃ (a : Addr) (ns : List Int), vs = [V.ref a] ∧ (SqL K H a (ns.map V.int) ∨ SqT K H a (ns.map V.int)) ∧ Q (.int ns.sum) H
theorem cr_sumS (hc : X.calm = true) : CallR X (.builtin "sum") (rSumS X.K) := by
  intro pins s σ H vs us Q I r h
  obtain ⟨a, ns, rfl, hs, q⟩ := h
  rcases hs with hs | hs
  · exact cr_sum hc pins s σ H _ us Q I r ⟨a, ns, rfl, hs, q⟩
  · rw [Vals.ref1 r]
    obtain ⟨its, rv, pl, _⟩ := I.tuple hs
    have hi := rv.ints
    obtain ⟨xs, hx⟩ := hi.allInts.items
    have hn : PySem.numsOf its.toArray.toList = ns := by rw [show its.toArray.toList = its from rfl, hi.numsOf]
    rw [hx] at hn pl
    rw [nums_intItems] at hn
    refine PySem.W.ktm_sumG (I.ok.hd hc) pl fun h' tk t' hk => ?_
    rw [preSum_eq, List.take_of_length_le (by simp), hn]
    exact ⟨.int _, H, I.kept hk, ⟨_, rfl⟩, q⟩
def dSumL : DC := fun ds m Q => match ds with
  | [x] => ∃ ns : List Int, seqOf m x = some (ns.map .int) ∧ Q (.int ns.sum) m
  | _ => False
theorem lc_sumL {K : PySem.W.Frag} : LC K (rSumS K) dSumL := fun vs H ds m Qd Q rm r h k => by
  match ds, r, h with
  | [x], r, h =>
    obtain ⟨ns, e, q⟩ := h
    obtain ⟨v, rfl, ra9⟩ := repL1 r
    obtain ⟨a, ws, rfl, s, r2⟩ := seq_rep rm ra9 e
    have := rep_ints r2
    subst this
    exact ⟨a, ns, rfl, s, k _ _ _ _ (.refl H) rm (.int _) q⟩
/-! in -/
theorem lr_inP {K : PySem.W.Frag} {neg : Bool} : LR K (rInP K neg) (fun x y m Q => ∃ ds p ps, seqOf m y = some ds ∧ toP x = some p ∧ toPs ds = some ps ∧ PyData.plainAll ps = true ∧ p.plain = true ∧ min (PyData.depthAll ps) p.depth ≤ 60 ∧ Q (.bl (if neg then !ps.any fun z => PyData.eqv z p else ps.any fun z => PyData.eqv z p)) m) := fun x y H dx dy m Qd Q rm rx ry ⟨ds, p, ps, e, e1, e2, h1, h2, h3, h4⟩ k => by
  obtain ⟨a, vs, rfl, s, r⟩ := seq_rep rm ry e
  refine ⟨p, ps, rx.dp e1, ?_, h1, h2, h3, k _ H _ m (.refl H) rm (.bl _) h4⟩
  rcases s with s | s
  · exact .inl (.lst s (r.dp e2))
  · exact .inr (.tup s (r.dp e2))
end
end PD

set_option Elab.async false
set_option linter.all false
set_option maxRecDepth 100000
set_option maxHeartbeats 4000000
/-! Sets of texts: made of a list or a tuple, measured, asked, sorted. -/
namespace TXS
open PySem PySem.Spec PyProof.Rows L2 PySem.Froz
/-- the table's places rise, and it tells its order -/
def TxS (w : World) (dat : SD) : Prop := Ris dat.2.2.place.toList ∧ (w.params.followText "set-order" = true ∨ dat.2.2.led = true)
theorem tailTx_s {w : World} {ep : Nat} {es : Array (Int × Value)} {tb : SetTable} {wd : Bool} (r : Ris tb.place.toList) (l : w.params.followText "set-order" = true ∨ tb.led = true) : TxS w (tailTx ep es tb wd) := by
  unfold tailTx
  split
  · exact ⟨relayAll_ris _ _ _, l.imp id fun z => by show (relayAll tb es _).2.1.led = true; rw [relayAll_led]; exact z⟩
  · exact ⟨r, l⟩
theorem addTx_s {w : World} {hv : Int} {v : Value} {dat : SD} (st : TxS w dat) : TxS w (addTx hv v dat) := by
  obtain ⟨es, ep, tb⟩ := dat
  have r1 := layNew_ris tb es hv v st.1
  have l1 : w.params.followText "set-order" = true ∨ (layNew tb es hv v).2.1.led = true := st.2.imp id fun z => by rw [layNew_led]; exact z
  unfold addTx
  refine tailTx_s ?_ ?_
  · dsimp only; split
    · exact r1
    · exact r1
  · dsimp only; split
    · exact l1
    · exact l1
/-- at a stands the set of the unlike texts l -/
def TxAt (P : Program) (w : World) (h : Heap) (a : Addr) (l : List Str) : Prop := ∃ dat : SD, h.get? a = some (sObj "set" dat) ∧ TxOk P w dat l ∧ TxS w dat ∧ l.Nodup
theorem TxAt.at {P : Program} {w : World} {h h' : Heap} {a : Addr} {l : List Str} (R : TxAt P w h a l) (k : ∀ o, h.get? a = some o → h'.get? a = some o) : TxAt P w h' a l := by
  obtain ⟨dat, e, r⟩ := R
  exact ⟨dat, k _ e, r⟩
def putT (k : Str) (l : List Str) : List Str := if k ∈ l then l else k :: l
theorem putT_nodup {k : Str} {l : List Str} (h : l.Nodup) : (putT k l).Nodup := by
  unfold putT
  split
  · exact h
  · rename_i q; exact List.nodup_cons.mpr ⟨q, h⟩
theorem putT_mem {k x : Str} {l : List Str} : x ∈ putT k l ↔ x = k ∨ x ∈ l := by
  unfold putT
  split
  · rename_i q
    exact ⟨.inr, fun z => z.elim (fun e => e ▸ q) id⟩
  · exact List.mem_cons
theorem putT_len (k : Str) (l : List Str) : (putT k l).length ≤ l.length + 1 := by
  unfold putT
  split
  · omega
  · exact Nat.le_refl _
section
variable {P : Program} {w : World} {A : Around} {E : Value → Shared → Prop} {s : Shared}
theorem tx_add {a : Addr} {l : List Str} {k : Str} {u : Tok} {Q : Bool → Shared → Prop} (R : TxAt P w s.heap a l) (room : l.length + 1 < scanBound)
    (hQ : ∀ b h', Heap.SameBut a s.heap h' → TxAt P w h' a (putT k l) → Q b { s with heap := h' }) : wpAny (model P w) A (setAddHashed a (.str k u) (hashStr w k)) Q E s := by
  obtain ⟨dat, hob, F, st, nd⟩ := R
  by_cases hk : k ∈ l
  · obtain ⟨es, ep, tb⟩ := dat
    have hpay : (sObj "set" (es, ep, tb)).data = .set es ep tb := rfl
    have lz : es.size = l.length := F.sz
    have small : es.size < scanBound := by omega
    have same : putT k l = l := by unfold putT; rw [if_pos hk]
    have kk : (strKind P w).is k (.str k u) = true := is_str k u
    unfold setAddHashed setAddHashedIn
    refine wpAny_holding (wpAny_bind (wpAny_setState_of hob hpay F.fit ?_))
    dsimp only
    rw [byScan_of rfl small F.el]
    simp only [↓reduceIte]
    unfold setAddByScan
    refine wpAny_bind ?_
    refine wpAny_bind (wpAny_rule ?_)
    refine wpAny_bind (wpAny_setScan_of (knd := strKind P w) (k := k) kk hob hpay F.fit F.el ?_)
    cases place : List.findIdx? (fun e => (strKind P w).is k e.2) es.toList with
    | none =>
      obtain ⟨e, he, z⟩ := (F.mem k).mp hk
      have c := List.findIdx?_eq_none_iff.mp place e he
      rw [z] at c
      cases c
    | some j =>
      dsimp only
      refine wpAny_pure (wpAny_pure (hQ _ s.heap (Heap.SameBut.refl a s.heap) ?_))
      rw [same]
      exact ⟨_, hob, F, st, nd⟩
  · have more : putT k l = k :: l := by unfold putT; rw [if_neg hk]
    refine add_x hob F hk room (hQ _ _ (Heap.SameBut.update s.heap a _) ?_)
    rw [more]
    exact ⟨_, get_upd _ hob rfl, add_ok u F, addTx_s st, List.nodup_cons.mpr ⟨hk, nd⟩⟩
/-- what the texts put one after another leave -/
def allT : List Str → List Str → List Str
  | [], l => l
  | x :: xs, l => allT xs (putT x l)
theorem allT_nodup : ∀ {xs l : List Str}, l.Nodup → (allT xs l).Nodup
  | [], _, h => h
  | y :: ys, l, h => by unfold allT; exact allT_nodup (putT_nodup h)
theorem allT_mem {x : Str} : ∀ {xs l : List Str}, x ∈ allT xs l ↔ x ∈ xs ∨ x ∈ l
  | [], l => by simp [allT]
  | y :: xs, l => by
    unfold allT
    rw [allT_mem, putT_mem, List.mem_cons]
    constructor
    · rintro (h | h | h)
      · exact .inl (.inr h)
      · exact .inl (.inl h)
      · exact .inr h
    · rintro ((h | h) | h)
      · exact .inr (.inl h)
      · exact .inl h
      · exact .inr (.inr h)
theorem allT_len : ∀ (xs l : List Str), (allT xs l).length ≤ xs.length + l.length
  | [], l => by unfold allT; simp
  | x :: xs, l => by
    unfold allT
    have h1 := allT_len xs (putT x l)
    have h2 := putT_len x l
    rw [List.length_cons]
    omega
theorem allT_snoc (y : Str) : ∀ (xs l : List Str), allT (xs ++ [y]) l = putT y (allT xs l)
  | [], l => rfl
  | x :: xs, l => allT_snoc y xs (putT x l)
theorem tx_loop {I : Addr} {fp wr : List Addr} {G : Array GenState → Array GenState → Prop} {n : Nat} {Pv : Nat → Value → Prop} {St : Nat → Shared → Prop} {R : Result → Shared → Prop}
    (W : WalksS P w A.in1 I fp wr G n Pv St) (S : Addr) (out : S ∉ fp) (xs : List Str) (hn : n = xs.length) (room : xs.length + 1 < scanBound) (item : ∀ i v, Pv i v → ∃ k t, xs[i]? = some k ∧ v = .str k t)
    (hR : ∀ t', TxAt P w t'.heap S (allT xs []) → ∀ s0, Moved (S :: wr) G s0 t' → s0 = s → R (.ok (.ret .none)) t') :
    ∀ (left i : Nat) (t : Shared), n - i = left → i ≤ n → St i t → TxAt P w t.heap S (allT (xs.take i) []) → Moved (S :: wr) G s t →
      codeAny (model P w) A (.builtin "set.update.loop" ⟨[.ref S, .ref I], []⟩) R t := by
  have notW : S ∉ wr := fun z => out (W.sub _ z)
  have wider : ∀ b ∈ wr, b ∈ S :: wr := fun b hb => List.mem_cons_of_mem _ hb
  intro left
  induction left with
  | zero =>
    intro i t hl hi hst hT hm0
    obtain rfl : i = n := by omega
    refine codeAny_builtin F.entry_set_update_loop ?_
    rw [Around.under_plainId F.plain_set_update_loop _]
    refine wpAny_bind (W.done t _ _ hst fun t' hm => ?_)
    rw [List.take_of_length_le (Nat.le_of_eq hn.symm)] at hT
    exact wpAny_pure (hR t' (hT.at fun o e => hm.heap S o notW e) s (Moved.trans W.gtrans hm0 (hm.mono wider)) rfl)
  | succ left ih =>
    intro i t hl hi hst hT hm0
    have more : i < n := by omega
    refine codeAny_builtin F.entry_set_update_loop ?_
    rw [Around.under_plainId F.plain_set_update_loop _]
    refine wpAny_bind (W.item i t _ _ more hst fun v t' hv hst' hm => ?_)
    obtain ⟨k, tok, hx, rfl⟩ := item i v hv
    have hT' : TxAt P w t'.heap S (allT (xs.take i) []) := hT.at fun o e => hm.heap S o notW e
    have len1 : (allT (xs.take i) []).length + 1 < scanBound := by
      have z1 := allT_len (xs.take i) []
      have z2 := List.length_take_le i xs
      have z3 := List.length_take_le' i xs
      simp only [List.length_nil] at z1
      omega
    refine wpAny_bind (wpAny_holding ?_)
    unfold setAdd
    refine wpAny_holding ?_
    refine wpAny_bind ((strKind P w).pyHash (k := k) (strKind_is _ _ _ _) ?_)
    refine tx_add (s := { t' with toks := t'.toks + 1 }) hT' len1 fun b h' sb hT2 => ?_
    rw [← allT_snoc, show xs.take i ++ [k] = xs.take (i + 1) by rw [List.take_add_one, hx]; rfl] at hT2
    have frame : ∀ c o, c ≠ S → t'.heap.get? c = some o → h'.get? c = some o := fun c o hc e => by rw [sb.2 c hc]; exact e
    refine wpAny_pure ⟨plainId_quiet F.plain_set_update_loop _, ih (i + 1) _ (by omega) more (W.frame _ t' _ _ hst' (Nat.le_succ _) fun c hc o e => frame c o (fun z => out (z ▸ hc)) e) hT2 ?_⟩
    exact Moved.trans W.gtrans hm0 ((hm.mono wider).then_heap (Nat.le_succ _) fun c o hc e => frame c o (fun z => hc (by rw [z]; exact List.mem_cons_self)) e)
set_option maxHeartbeats 8000000 in
theorem set_of_list {l : Addr} {cells : Array Value} (xs : List Str) {Q : Value → Shared → Prop} (calm : A.handled = none) (seq : s.heap.IsList l cells) (txt : StrsAre cells.toList xs) (room : xs.length + 1 < scanBound)
    (fin : ∀ (h' : Heap) (tk : Nat), TxAt P w h' s.heap.objs.size (allT xs []) → (∀ b o, s.heap.get? b = some o → h'.get? b = some o) → Q (.ref s.heap.objs.size) { s with heap := h', toks := tk }) :
    wpAny (model P w) A (call (.type "set") [.ref l]) Q E s := by
  have num : cells.size = xs.length := by
    rw [← Array.length_toList]; exact txt.length
  have mro := F.called_set.mro
  obtain ⟨c9, tl9, mro9⟩ := mro
  have made9 := F.called_set.made
  have sub9 := F.called_set.sub
  refine wpAny_call (codeAny_of_tree ?_)
  refine wpAny_pure ⟨Code.quiet_builtin _ (by decide +kernel), codeAny_builtin F.entry_type_call ?_⟩
  rw [Around.under_plain (weight_type_call_type "set" [.ref l] []) rfl]
  have not9 := F.called_set.notType
  have can9 := F.called_set.canCreate
  have ct9 := F.typeCall_set_1 (.ref l)
  repeat (any_goals (first | assumption | wp_step))
  obtain ⟨empty9, he9⟩ : ∃ o : Obj, o = { cls := .type "set", dict := none, data := .set #[] 0 (.fresh 0 0 (!w.params.followText "set-order")) } := ⟨_, rfl⟩
  refine codeAny_mono (code_set_led1 (.ref l) (E := E) (Q₁ := fun obj s9 => obj = .ref s.heap.objs.size ∧ s9 = { s with heap := s.heap.push empty9 }) ⟨rfl, by rw [he9]⟩) fun r9 s9 out9 => ?_
  cases r9 with
  | error e => exact out9
  | ok fl =>
    cases fl with
    | ret obj =>
      obtain ⟨rfl, rfl⟩ := out9
      have at9 : (s.heap.push empty9).get? s.heap.objs.size = some ({ cls := .type "set", dict := none, data := .set #[] 0 (.fresh 0 0 (!w.params.followText "set-order")) } : Obj) := by rw [← he9]; exact Heap.get?_push_size _ (by rw [he9]; rfl)
      have ty9 : Shared.TypeIs { s with heap := s.heap.push empty9 } (.ref s.heap.objs.size) "set" := ⟨_, at9, rfl⟩
      have li9 := F.called_set.init.lookup
      have bi9 := F.called_set.init.bind (.ref s.heap.objs.size)
      repeat (any_goals (first | assumption | wp_step))
      refine codeAny_mono (codeAny_call_builtin (R := wants (fun r s8 => r = .none ∧ ∃ h' tk, s8 = { s with heap := h', toks := tk } ∧ TxAt P w h' s.heap.objs.size (allT xs []) ∧
          (∀ b o, s.heap.get? b = some o → h'.get? b = some o)) E) F.called_set.init.plain F.entry_set_init (check_set_init_1 ty9 ?_)) fun r8 s8 out8 => ?_
      · obtain ⟨⟨ocls, odict, odata, oslots⟩, hol, hcl, nl, hdl⟩ := seq
        simp only at hcl hdl
        subst hcl hdl
        have in9 : (s.heap.push empty9).get? l = some { cls := .type "list", dict := odict, data := .seq cells nl, slots := oslots } := Heap.get?_push_of_some _ hol
        have no1 := F.sub_list_set
        have no2 := F.sub_list_frozenset
        have no3 : (Value.type "list" == Value.type "dict") = false := by decide
        have seq9 : (s.heap.push empty9).IsList l cells := ⟨_, in9, rfl, nl, rfl⟩
        unfold Builtin.«set.__init__» noKeywords Builtin.Frozenset.updateFrom
        generalize it9 : pyIter = PI
        wp_walk
        subst it9
        refine wpAny_pyIter_list seq9 ?_
        refine wpAny_bind (wpAny_runValue ?_)
        have low : l < s.heap.objs.size := Heap.lt_size hol
        have calm3 : A.in1.in1.in1.handled = none := by simp [calm]
        have z9 : (s.heap.push empty9).objs.size = s.heap.objs.size + 1 := Heap.size_push ..
        have apart : l ≠ (s.heap.push empty9).objs.size := by rw [z9]; exact Nat.ne_of_lt (Nat.lt_succ_of_lt low)
        have off : s.heap.objs.size ∉ [(s.heap.push empty9).objs.size, l] := fun z => by
          rcases List.mem_cons.mp z with z | z
          · rw [z9] at z; exact absurd z (Nat.ne_of_lt (Nat.lt_succ_self _))
          · rw [← List.mem_singleton.mp z] at low; exact Nat.lt_irrefl _ low
        have item : ∀ (i : Nat) (v : Value), cells[i]? = some v → ∃ k t, xs[i]? = some k ∧ v = .str k t := fun i v hv => by
          have hi : i < xs.length := by rw [← num]; exact (Array.getElem?_eq_some_iff.mp hv).1
          obtain ⟨t, e⟩ := SS.strs_at txt i v (by rw [Array.getElem?_toList]; exact hv)
          refine ⟨xs[i], t, List.getElem?_eq_getElem hi, ?_⟩
          rw [e, List.getD_eq_getElem?_getD, List.getElem?_eq_getElem hi] <;> rfl
        refine tx_loop ((Walks.list calm3 _ l apart cells).toS) s.heap.objs.size off xs num room item ?hR (cells.size - 0) 0 _ (by omega) (Nat.zero_le _)
          ⟨⟨_, Heap.get?_push_size _ rfl, rfl, rfl⟩, (seq9.push _)⟩ ?hS0 (Moved.refl (fun _ => rfl))
        case hS0 =>
          have get9 : ((s.heap.push empty9).push { cls := .type "list_iterator", data := .fields #[.ref l, .int 0 0] }).get? s.heap.objs.size = some ({ cls := .type "set", dict := none, data := .set #[] 0 (.fresh 0 0 (!w.params.followText "set-order")) } : Obj) := Heap.get?_push_of_some _ at9
          refine ⟨(#[], 0, .fresh 0 0 (!w.params.followText "set-order")), get9, TxOk.nil (by rfl), ⟨List.Pairwise.nil, ?_⟩, List.nodup_nil⟩
          show _ ∨ (!w.params.followText "set-order") = true
          cases w.params.followText "set-order"
          · exact .inr rfl
          · exact .inl rfl
        case hR =>
          intro t' hT s0 hm hs0
          subst hs0
          obtain ⟨h', g2, d', tk', os'⟩ := t'
          have eg : g2 = s.gens := hm.gens
          have ed : d' = s.drawn := hm.drawn
          have eo : os' = s.os := hm.os
          subst eg ed eo
          refine wpAny_pure ?_
          refine wpAny_pure ⟨rfl, h', tk', rfl, hT, fun b o e => ?_⟩
          have hb0 : b < s.heap.objs.size := Heap.lt_size e
          exact hm.heap b o (fun z => by
            rcases List.mem_cons.mp z with z | z
            · exact absurd z (Nat.ne_of_lt hb0)
            · rcases List.mem_singleton.mp z with z
              rw [z9] at z; exact absurd z (Nat.ne_of_lt (Nat.lt_succ_of_lt hb0))) (Heap.get?_push_of_some _ (Heap.get?_push_of_some _ e))
      · cases r8 with
        | error e => exact out8
        | ok fl8 =>
          cases fl8 with
          | ret r =>
            obtain ⟨rfl, h', tk, rfl, hT, hk⟩ := out8
            repeat (any_goals (first | assumption | wp_step))
            exact fin _ _ hT hk
          | _ => exact out8.elim
    | _ => exact out9.elim
set_option maxHeartbeats 8000000 in
theorem set_of_tuple {l : Addr} {cells : Array Value} (xs : List Str) {Q : Value → Shared → Prop} (calm : A.handled = none) (seq : s.heap.IsTuple l cells) (txt : StrsAre cells.toList xs) (room : xs.length + 1 < scanBound)
    (fin : ∀ (h' : Heap) (tk : Nat), TxAt P w h' s.heap.objs.size (allT xs []) → (∀ b o, s.heap.get? b = some o → h'.get? b = some o) → Q (.ref s.heap.objs.size) { s with heap := h', toks := tk }) :
    wpAny (model P w) A (call (.type "set") [.ref l]) Q E s := by
  have num : cells.size = xs.length := by
    rw [← Array.length_toList]; exact txt.length
  have mro := F.called_set.mro
  obtain ⟨c9, tl9, mro9⟩ := mro
  have made9 := F.called_set.made
  have sub9 := F.called_set.sub
  refine wpAny_call (codeAny_of_tree ?_)
  refine wpAny_pure ⟨Code.quiet_builtin _ (by decide +kernel), codeAny_builtin F.entry_type_call ?_⟩
  rw [Around.under_plain (weight_type_call_type "set" [.ref l] []) rfl]
  have not9 := F.called_set.notType
  have can9 := F.called_set.canCreate
  have ct9 := F.typeCall_set_1 (.ref l)
  repeat (any_goals (first | assumption | wp_step))
  obtain ⟨empty9, he9⟩ : ∃ o : Obj, o = { cls := .type "set", dict := none, data := .set #[] 0 (.fresh 0 0 (!w.params.followText "set-order")) } := ⟨_, rfl⟩
  refine codeAny_mono (code_set_led1 (.ref l) (E := E) (Q₁ := fun obj s9 => obj = .ref s.heap.objs.size ∧ s9 = { s with heap := s.heap.push empty9 }) ⟨rfl, by rw [he9]⟩) fun r9 s9 out9 => ?_
  cases r9 with
  | error e => exact out9
  | ok fl =>
    cases fl with
    | ret obj =>
      obtain ⟨rfl, rfl⟩ := out9
      have at9 : (s.heap.push empty9).get? s.heap.objs.size = some ({ cls := .type "set", dict := none, data := .set #[] 0 (.fresh 0 0 (!w.params.followText "set-order")) } : Obj) := by rw [← he9]; exact Heap.get?_push_size _ (by rw [he9]; rfl)
      have ty9 : Shared.TypeIs { s with heap := s.heap.push empty9 } (.ref s.heap.objs.size) "set" := ⟨_, at9, rfl⟩
      have li9 := F.called_set.init.lookup
      have bi9 := F.called_set.init.bind (.ref s.heap.objs.size)
      repeat (any_goals (first | assumption | wp_step))
      refine codeAny_mono (codeAny_call_builtin (R := wants (fun r s8 => r = .none ∧ ∃ h' tk, s8 = { s with heap := h', toks := tk } ∧ TxAt P w h' s.heap.objs.size (allT xs []) ∧
          (∀ b o, s.heap.get? b = some o → h'.get? b = some o)) E) F.called_set.init.plain F.entry_set_init (check_set_init_1 ty9 ?_)) fun r8 s8 out8 => ?_
      · obtain ⟨⟨ocls, odict, odata, oslots⟩, hol, hcl, nl, hdl⟩ := seq
        simp only at hcl hdl
        subst hcl hdl
        have in9 : (s.heap.push empty9).get? l = some { cls := .type "tuple", dict := odict, data := .seq cells nl, slots := oslots } := Heap.get?_push_of_some _ hol
        have no1 := F.sub_tuple_set
        have no2 := F.sub_tuple_frozenset
        have no3 : (Value.type "tuple" == Value.type "dict") = false := by decide
        have seq9 : (s.heap.push empty9).IsTuple l cells := ⟨_, in9, rfl, nl, rfl⟩
        unfold Builtin.«set.__init__» noKeywords Builtin.Frozenset.updateFrom
        generalize it9 : pyIter = PI
        wp_walk
        subst it9
        refine wpAny_pyIter_tuple seq9 ?_
        refine wpAny_bind (wpAny_runValue ?_)
        have low : l < s.heap.objs.size := Heap.lt_size hol
        have calm3 : A.in1.in1.in1.handled = none := by simp [calm]
        have z9 : (s.heap.push empty9).objs.size = s.heap.objs.size + 1 := Heap.size_push ..
        have apart : l ≠ (s.heap.push empty9).objs.size := by rw [z9]; exact Nat.ne_of_lt (Nat.lt_succ_of_lt low)
        have off : s.heap.objs.size ∉ [(s.heap.push empty9).objs.size, l] := fun z => by
          rcases List.mem_cons.mp z with z | z
          · rw [z9] at z; exact absurd z (Nat.ne_of_lt (Nat.lt_succ_self _))
          · rw [← List.mem_singleton.mp z] at low; exact Nat.lt_irrefl _ low
        have item : ∀ (i : Nat) (v : Value), cells[i]? = some v → ∃ k t, xs[i]? = some k ∧ v = .str k t := fun i v hv => by
          have hi : i < xs.length := by rw [← num]; exact (Array.getElem?_eq_some_iff.mp hv).1
          obtain ⟨t, e⟩ := SS.strs_at txt i v (by rw [Array.getElem?_toList]; exact hv)
          refine ⟨xs[i], t, List.getElem?_eq_getElem hi, ?_⟩
          rw [e, List.getD_eq_getElem?_getD, List.getElem?_eq_getElem hi] <;> rfl
        refine tx_loop ((Walks.tuple calm3 _ l apart cells).toS) s.heap.objs.size off xs num room item ?hR (cells.size - 0) 0 _ (by omega) (Nat.zero_le _)
          ⟨⟨_, Heap.get?_push_size _ rfl, rfl, rfl⟩, (seq9.push _)⟩ ?hS0 (Moved.refl (fun _ => rfl))
        case hS0 =>
          have get9 : ((s.heap.push empty9).push { cls := .type "tuple_iterator", data := .fields #[.ref l, .int 0 0] }).get? s.heap.objs.size = some ({ cls := .type "set", dict := none, data := .set #[] 0 (.fresh 0 0 (!w.params.followText "set-order")) } : Obj) := Heap.get?_push_of_some _ at9
          refine ⟨(#[], 0, .fresh 0 0 (!w.params.followText "set-order")), get9, TxOk.nil (by rfl), ⟨List.Pairwise.nil, ?_⟩, List.nodup_nil⟩
          show _ ∨ (!w.params.followText "set-order") = true
          cases w.params.followText "set-order"
          · exact .inr rfl
          · exact .inl rfl
        case hR =>
          intro t' hT s0 hm hs0
          subst hs0
          obtain ⟨h', g2, d', tk', os'⟩ := t'
          have eg : g2 = s.gens := hm.gens
          have ed : d' = s.drawn := hm.drawn
          have eo : os' = s.os := hm.os
          subst eg ed eo
          refine wpAny_pure ?_
          refine wpAny_pure ⟨rfl, h', tk', rfl, hT, fun b o e => ?_⟩
          have hb0 : b < s.heap.objs.size := Heap.lt_size e
          exact hm.heap b o (fun z => by
            rcases List.mem_cons.mp z with z | z
            · exact absurd z (Nat.ne_of_lt hb0)
            · rcases List.mem_singleton.mp z with z
              rw [z9] at z; exact absurd z (Nat.ne_of_lt (Nat.lt_succ_of_lt hb0))) (Heap.get?_push_of_some _ (Heap.get?_push_of_some _ e))
      · cases r8 with
        | error e => exact out8
        | ok fl8 =>
          cases fl8 with
          | ret r =>
            obtain ⟨rfl, h', tk, rfl, hT, hk⟩ := out8
            repeat (any_goals (first | assumption | wp_step))
            exact fin _ _ hT hk
          | _ => exact out8.elim
    | _ => exact out9.elim
end
end TXS

set_option Elab.async false
set_option linter.all false
set_option maxRecDepth 100000
set_option maxHeartbeats 4000000
/-! the same over the layer -/
namespace TXS
open PySem PySem.Spec PyProof.Rows L2 PySem.Froz
theorem perm_of_sub : ∀ {l ks : List Str}, l.Nodup → (∀ x ∈ l, x ∈ ks) → ks.length ≤ l.length → ks.Perm l
  | [], ks, _, _, h => by
    have : ks = [] := List.eq_nil_of_length_eq_zero (Nat.le_zero.mp h)
    rw [this]
  | x :: l, ks, nd, sub, h => by
    have hx : x ∈ ks := sub x (List.mem_cons_self ..)
    have nx := (List.nodup_cons.mp nd).1
    have p := List.perm_cons_erase hx
    have hl : (ks.erase x).length ≤ l.length := by
      rw [List.length_erase_of_mem hx, List.length_cons] at *
      omega
    exact p.trans ((perm_of_sub (List.nodup_cons.mp nd).2 (fun y hy => (List.mem_erase_of_ne (fun e => nx (by rw [← e]; exact hy))).mpr (sub y (List.mem_cons_of_mem _ hy))) hl).cons x)
theorem strs_of_vals : ∀ {es : List (Int × Value)}, (∀ e ∈ es, ∃ k t, e.2 = Value.str k t) → ∃ ks : List Str, StrsAre (es.map (·.2)) ks
  | [], _ => ⟨[], .nil⟩
  | e :: es, h => by
    obtain ⟨k, t, q⟩ := h e (List.mem_cons_self ..)
    obtain ⟨ks, r⟩ := strs_of_vals fun e he => h e (List.mem_cons_of_mem _ he)
    refine ⟨k :: ks, ?_⟩
    rw [List.map_cons, q]
    exact .cons k t r
theorem strs_mem {k : Str} : ∀ {us : List Value} {ks : List Str}, StrsAre us ks → (k ∈ ks ↔ ∃ t, Value.str k t ∈ us)
  | _, _, .nil => by simp
  | _, _, .cons n t r => by
    rw [List.mem_cons, strs_mem r]
    constructor
    · rintro (rfl | ⟨t', h⟩)
      · exact ⟨t, List.mem_cons_self ..⟩
      · exact ⟨t', List.mem_cons_of_mem _ h⟩
    · rintro ⟨t', h⟩
      rcases List.mem_cons.mp h with h | h
      · cases h; exact .inl rfl
      · exact .inr ⟨t', h⟩
theorem strs_perm : ∀ {us vs : List Value} {ks : List Str}, us.Perm vs → StrsAre vs ks → ∃ js, StrsAre us js ∧ js.Perm ks := fun {us vs ks} p => by
  induction p generalizing ks with
  | nil => intro h; cases h; exact ⟨[], .nil, .refl _⟩
  | cons x p ih =>
    intro h
    cases h with
    | cons n t r => obtain ⟨js, a, b⟩ := ih r; exact ⟨n :: js, .cons n t a, b.cons n⟩
  | swap x y l =>
    intro h
    cases h with
    | cons n t r =>
      cases r with
      | cons n2 t2 r => exact ⟨n2 :: n :: _, .cons n2 t2 (.cons n t r), .swap _ _ _⟩
  | trans p q ih1 ih2 =>
    intro h
    obtain ⟨js, a, b⟩ := ih2 h
    obtain ⟨is, c, d⟩ := ih1 a
    exact ⟨is, c, d.trans b⟩
/-- the members, in some order -/
theorem TxOk.vals {P : Program} {w : World} {dat : SD} {l : List Str} (F : TxOk P w dat l) (nd : l.Nodup) : ∃ ks, StrsAre (dat.1.toList.map (·.2)) ks ∧ ks.Perm l := by
  obtain ⟨ks, r⟩ := strs_of_vals (es := dat.1.toList) fun e he => by
    obtain ⟨⟨k, hk, _⟩, _⟩ := F.el e he
    obtain ⟨t, q⟩ := Value.isStrOf_shape hk
    exact ⟨k, t, q⟩
  refine ⟨ks, r, perm_of_sub nd (fun x hx => ?_) ?_⟩
  · obtain ⟨e, he, q⟩ := (F.mem x).mp hx
    obtain ⟨t, q2⟩ := Value.isStrOf_shape q
    exact (strs_mem r).mpr ⟨t, List.mem_map.mpr ⟨e, he, q2⟩⟩
  · rw [← r.length, List.length_map, Array.length_toList, F.sz]
    exact Nat.le_refl _
end TXS
namespace PySem.W
open PySem PySem.Calls PyProof.Rows L2 TXS
section
variable {P : Program} {w : World} {A : Around} {E : Value → Shared → Prop} {s : Shared}
theorem each_strs0 : ∀ {us : List Value} {ks : List Str}, StrsAre us ks → EachIs (fun v (x : Str) => ∃ t, v = Value.str x t) us ks
  | _, _, .nil => .nil
  | _, _, .cons n t r => .cons ⟨t, rfl⟩ (each_strs0 r)
theorem pd_sorted_txt {a : Addr} {l : List Str} {Q : Value → Shared → Prop} (calm : A.handled = none) (R : TxAt P w s.heap a l) (room : l.length < scanBound) (hu : A.units + 2 < cLine)
    (h : ∀ (ks : List Str) (out : List Value) (p : Addr) (c : Nat) (s1 : Shared) (h' : Heap), ks.Perm l → EachIs (fun v (x : Str) => ∃ t, v = Value.str x t) out (ks.mergeSort (dataLe false fun x => PyData.str x)) → (∀ b u, s.heap.get? b = some u → s1.heap.get? b = some u) → s1.gens = s.gens → s1.os = s.os → (∀ b u, s1.heap.get? b = some u → h'.get? b = some u) → s1.heap.objs.size ≤ p → h'.get? p = some (seqObj "list" out.toArray c) → out.length ≤ sizeLine → Q (.ref p) { s1 with heap := h' }) :
    wpAny (model P w) A (call (.builtin "sorted") [.ref a]) Q E s := by
  obtain ⟨dat, hob, F, st, nd⟩ := R
  obtain ⟨es, ep, tb⟩ := dat
  refine call_function_entry_kw kind_sorted plain_sorted entry_sorted (args_sorted1 _) ?_
  unfold Builtin.«sorted»
  refine wpAny_bind (m := checkCount "sorted" 1 1 _) (wpAny_pure ?_)
  have lz : es.size = l.length := F.sz
  refine wpAny_bind (collect_set (A := A.in1) calm ⟨_, hob, rfl, rfl⟩ F.fit (by rw [show ((es, ep, tb) : Froz.SD).1 = es from rfl, lz]; exact room) st.1 st.2 fun s1 vs k1 z1 g1 o1 pm => ?_)
  obtain ⟨ks0, r0, p0⟩ := TxOk.vals F nd
  obtain ⟨ks, rk, pk⟩ := strs_perm pm r0
  have e := each_strs0 rk
  have num : vs.length = l.length := by rw [e.length, (pk.trans p0).length_eq]
  have hLv : vs.length ≤ sizeLine := by
    rw [num, sizeLine_eq]
    have : scanBound ≤ 16777216 := by decide
    omega
  refine wpAny_bind (wpAny_newList ?_ hLv)
  have hoL : (s1.heap.push (seqObj "list" vs.toArray 0)).get? s1.heap.objs.size = some (seqObj "list" vs.toArray 0) := Heap.get?_push_size _ rfl
  have er : EachIs (fun v (x : Str) => ∃ as, Reads (sortingHeap (s1.heap.push (seqObj "list" vs.toArray 0)) s1.heap.objs.size vs) v (PyData.str x) as) vs ks := e.mono fun v x ⟨t, q⟩ => by subst q; exact ⟨_, Reads.str x t⟩
  have hal : AllAlike (ks.map fun x => PyData.str x) := AllAlike.of fun _ _ => rfl
  have hk : Sortable (ks.map fun x => PyData.str x) := Sortable.others fun _ => ⟨(fun z => by cases z), fun _ z => by cases z⟩
  have S : SortsAt P w A.in1.in1 { s1 with heap := sortingHeap (s1.heap.push (seqObj "list" vs.toArray 0)) s1.heap.objs.size vs } (dataKind (sortingHeap (s1.heap.push (seqObj "list" vs.toArray 0)) s1.heap.objs.size vs) (ks.map fun x => PyData.str x)) vs :=
    SortsAt.data (s := { s1 with heap := sortingHeap (s1.heap.push (seqObj "list" vs.toArray 0)) s1.heap.objs.size vs }) (each_map (R := fun v d => ∃ as, Reads (sortingHeap (s1.heap.push (seqObj "list" vs.toArray 0)) s1.heap.objs.size vs) v d as) (fun x => PyData.str x) er) hal hk (bound_map fun x _ => by show A.units + 2 + 0 < cLine; exact hu)
  refine wpAny_bind (wpAny_holding (wpAny_call_entry_kw slot_list_sort ⟨_, hoL, rfl⟩ entry_list_sort ?body (args_list_sort _)))
  case body =>
    refine list_sort_vals (s := { s1 with heap := s1.heap.push (seqObj "list" vs.toArray 0) }) (n := 0) hoL S hLv ⟨_, rfl, wpAny_pure ⟨_, rfl, ?_⟩⟩
    obtain ⟨c, hc⟩ := sortedHeap_at (vs := vs) (out := (sortVals (dataKind (sortingHeap (s1.heap.push (seqObj "list" vs.toArray 0)) s1.heap.objs.size vs) (ks.map fun x => PyData.str x)) false vs vs).toArray) hoL
    refine h ks _ s1.heap.objs.size c s1 _ (pk.trans p0) (sortVals_data (enc := fun x => PyData.str x) false e er hal) k1 g1 o1 (fun b u q => ?_) (Nat.le_refl _) hc (by rw [sortVals_length false rfl]; exact hLv)
    have hlt := Heap.lt_size q
    rw [sortedHeap_old (Nat.ne_of_lt hlt) (by rw [size_push']; exact Nat.lt_succ_of_lt hlt)]
    exact Heap.get?_push_of_some _ q
end
end PySem.W
namespace PD
open PySem PySem.Spec PyProof.Rows L2 TXS
open PySem.W (EachIs AllAlike Sortable dataLe AlikeAll minD maxD)
/-- a set of the texts l at a -/
def SetTx (P : Program) (w : World) (a : Addr) (l : List Str) : HO := .ext fun h => TxAt P w h a l
section
variable {X : Cx}
theorem setTx_new {w : World} {P : Program} {H : Hp} {h : Heap} {a : Addr} {l : List Str} (R : TxAt P w h a l) : ObjOk P w H h a (SetTx P w a l) := by
  have ⟨_, e, _⟩ := R
  exact ⟨R, ⟨_, e⟩, fun h1 h2 p k => TxAt.at p k⟩
def rSetTx (K : PySem.W.Frag) (P : Program) (w : World) : List V → Hp → VK → Prop := fun vs H Q => ∃ (a : Addr) (xs : List Str), vs = [.ref a] ∧ (SqL K H a (xs.map V.str) ∨ SqT K H a (xs.map V.str)) ∧ xs.length ≤ 1000 ∧
  ∀ (p : Addr) (l : List Str), l.Nodup → (∀ x, x ∈ l ↔ x ∈ xs) → l.length ≤ xs.length → H p = none → Q (.ref p) (upd H p (SetTx P w p l))
theorem cr_setTx (hc : X.calm = true) : CallR X (.type "set") (rSetTx X.K X.prog X.w) := by
  intro pins s σ H vs us Q I r h
  obtain ⟨a, xs, rfl, hs, hz, q⟩ := h
  rw [Vals.ref1 r]
  have room : xs.length + 1 < scanBound := by
    have : 2000 < scanBound := by decide
    omega
  have fin : ∀ (h' : Heap) (tk : Nat), TxAt X.prog X.w h' s.heap.objs.size (allT xs []) → (∀ b o, s.heap.get? b = some o → h'.get? b = some o) → EP X pins σ Q (.ref s.heap.objs.size) { s with heap := h', toks := tk } := fun h' tk T k =>
    ⟨.ref _, _, I.laid (t' := tk) k (Nat.le_refl _) (setTx_new T), rfl, q _ _ (allT_nodup List.nodup_nil) (fun x => by rw [allT_mem]; simp) (by have := allT_len xs []; simpa using this) (I.hok.fresh (Nat.le_refl _))⟩
  rcases hs with hs | hs
  · obtain ⟨its, rv, pl, _⟩ := I.list hs
    exact set_of_list xs (I.ok.hd hc) pl.isList (by simpa using strsAre_of rv) room fin
  · obtain ⟨its, rv, pl, _⟩ := I.tuple hs
    exact set_of_tuple xs (I.ok.hd hc) pl (by simpa using strsAre_of rv) room fin
/-- sorted(set) -/
def rSortTx (P : Program) (w : World) : List V → Hp → VK → Prop := fun vs H Q => ∃ (a : Addr) (l : List Str), vs = [.ref a] ∧ H a = some (SetTx P w a l) ∧ l.length ≤ 1000 ∧
  ∀ (p : Addr) (ks : List Str), ks.Perm l → H p = none → Q (.ref p) (upd H p (.lst ((ks.mergeSort (dataLe false fun x => PyData.str x)).map V.str)))
theorem each_strs : ∀ {us : List Value} {ks : List Str}, EachIs (fun v (x : Str) => ∃ t, v = Value.str x t) us ks → Vals (ks.map V.str) us
  | _, _, .nil => .nil
  | _, _, .cons h t => .cons h (each_strs t)
theorem cr_sortTx (hc : X.calm = true) (hu : X.A.units + 64 < cLine) : CallR X (.builtin "sorted") (rSortTx X.prog X.w) := by
  intro pins s σ H vs us Q I r h
  obtain ⟨a, l, rfl, ha, hz, q⟩ := h
  rw [Vals.ref1 r]
  have T : TxAt X.prog X.w s.heap a l := (I.hok a _ ha).1
  refine PySem.W.pd_sorted_txt (I.ok.hd hc) T (by have : 2000 < scanBound := by decide
                                                  omega) (by omega) fun ks out p c s1 h' pk he k1 g1 o1 k2 hp hg hl => ?_
  have J : Inv X pins σ H { s with heap := s1.heap, gens := s1.gens, drawn := s1.drawn, toks := s1.toks } :=
    I.call (ch := []) (Un.kept k1) (I.hok.kept k1) (by rw [g1]; exact I.bare) (fun _ z => nomatch z)
  have es : s1 = { s with heap := s1.heap, gens := s1.gens, drawn := s1.drawn, toks := s1.toks } := by
    cases s1
    cases s
    cases o1
    rfl
  have J1 : Inv X pins σ H s1 := by rw [es]; exact J
  have hn : H p = none := J1.hok.fresh hp
  have hlen : ((ks.mergeSort (dataLe false fun x => PyData.str x)).map V.str).length ≤ sizeLine := by
    rw [List.length_map, ← he.length]; exact hl
  exact ⟨.ref p, upd H p (.lst ((ks.mergeSort (dataLe false fun x => PyData.str x)).map V.str)), J1.laid (t' := s1.toks) k2 hp ⟨hlen, out, c, each_strs he, hg⟩, rfl, q p ks pk hn⟩
/-! the rules -/
theorem RM.newO {K : PySem.W.Frag} {H : Hp} {m : Mu} {p : Addr} {u : HO} (r : RM K H m) (h : H p = none) : RM K (upd H p u) (mset m p (.oth u)) := fun a o e => by
  by_cases ha : a = p
  · subst ha
    rw [mset_same] at e; cases e
    exact upd_same
  · rw [mset_ne ha] at e
    exact r.skip h a o e
def dSetTx (P : Program) (w : World) : DC := fun ds m Q => match ds with
  | [d] => ∃ xs : List Str, seqOf m d = some (xs.map .str) ∧ xs.length ≤ 1000 ∧ ∀ (p : Addr) (l : List Str), l.Nodup → (∀ x, x ∈ l ↔ x ∈ xs) → l.length ≤ xs.length → m p = none → Q (.ref p) (mset m p (.oth (SetTx P w p l)))
  | _ => False
theorem lc_setTx {K : PySem.W.Frag} {P : Program} {w : World} : LC K (rSetTx K P w) (dSetTx P w) := fun vs H ds m Qd Q rm r h k => by
  match ds, r, h with
  | [d], r, h =>
    obtain ⟨xs, e, hz, q⟩ := h
    obtain ⟨v, rfl, ra9⟩ := repL1 r
    obtain ⟨a, ws, rfl, s, r2⟩ := seq_rep rm ra9 e
    have := rep_strs r2
    subst this
    exact ⟨a, xs, rfl, s, hz, fun p l nd hm hl hp => k _ _ _ _ (.new hp) (rm.newO hp) (.ref p) (q p l nd hm hl (rm.fresh hp))⟩
def dSortTx (P : Program) (w : World) : DC := fun ds m Q => ∃ a l, ds = [.ref a] ∧ m a = some (.oth (SetTx P w a l)) ∧ l.length ≤ 1000 ∧ ∀ (p : Addr) (ks : List Str), ks.Perm l → m p = none → Q (.ref p) (mset m p (.lst ((ks.mergeSort (dataLe false fun x => PyData.str x)).map .str)))
theorem repl_strs {K : PySem.W.Frag} {H : Hp} : ∀ xs : List Str, RepL K H (xs.map D.str) (xs.map V.str)
  | [] => .nil
  | x :: xs => .cons (.str x) (repl_strs xs)
theorem repl_ints {K : PySem.W.Frag} {H : Hp} : ∀ xs : List Int, RepL K H (xs.map D.int) (xs.map V.int)
  | [] => .nil
  | x :: xs => .cons (.int x) (repl_ints xs)
theorem lc_sortTx {K : PySem.W.Frag} {P : Program} {w : World} : LC K (rSortTx P w) (dSortTx P w) := fun vs H ds m Qd Q rm r ⟨a, l, e, ha, hz, q⟩ k => by
  subst e
  exact ⟨a, l, one_ref r, rm a _ ha, hz, fun p ks pk hp => k _ _ _ _ (.new hp) (rm.newL hp (repl_strs _)) (.ref p) (q p ks pk (rm.fresh hp))⟩
/-- sorted(d), a dict of ints -/
def rSortDI : List V → Hp → VK → Prop := fun xs H Q => ∃ (a : Addr) (kvs : List (Key × V)) (ks : List Int), xs = [.ref a] ∧ Rd H a (.dK kvs) ∧ kvs.map (·.1) = ks.map Sum.inl ∧ ks.length < 64 ∧ ∀ (ys : List Int) (p : Addr), ys.Perm ks → ys.Pairwise (· ≤ ·) → H p = none → Q (.ref p) (upd H p (.lst (ys.map V.int)))
def dSortDI : DC := fun ds m Q => ∃ a kvs, ∃ ks : List Int, ds = [.ref a] ∧ m a = some (.dct kvs) ∧ kvs.map (·.1) = ks.map Sum.inl ∧ ks.length < 64 ∧ ∀ (ys : List Int) (p : Addr), ys.Perm ks → ys.Pairwise (· ≤ ·) → m p = none → Q (.ref p) (mset m p (.lst (ys.map .int)))
theorem lc_sortDI {K : PySem.W.Frag} : LC K rSortDI dSortDI := fun vs H ds m Qd Q rm r ⟨a, kvs, ks, e, ha, hk, hz, q⟩ k => by
  subst e
  obtain ⟨us, e1, e2, _⟩ := rm a _ ha
  exact ⟨a, us, ks, one_ref r, .inl e1, e2.trans hk, hz, fun ys p pk pw hp => k _ _ _ _ (.new hp) (rm.newL hp (repl_ints _)) (.ref p) (q ys p pk pw (rm.fresh hp))⟩
def rSortU (K : PySem.W.Frag) (P : Program) (w : World) : List V → Hp → VK → Prop := fun xs H Q => rSortS K xs H Q ∨ rSortTx P w xs H Q ∨ rSortDI xs H Q
def dSortU (P : Program) (w : World) : DC := fun ds m Q => dSortL ds m Q ∨ dSortTx P w ds m Q ∨ dSortDI ds m Q
theorem cr_sortU (hc : X.calm = true) (hu : X.A.units + 64 < cLine) : CallR X (.builtin "sorted") (rSortU X.K X.prog X.w) := (cr_sortS hu).or ((cr_sortTx hc hu).or (call_sortedDI hc))
theorem lc_sortU {K : PySem.W.Frag} {P : Program} {w : World} : LC K (rSortU K P w) (dSortU P w) := fun vs H ds m Qd Q rm r h k => by
  rcases h with h | h | h
  · exact .inl (lc_sortL vs H ds m Qd Q rm r h k)
  · exact .inr (.inl (lc_sortTx vs H ds m Qd Q rm r h k))
  · exact .inr (.inr (lc_sortDI vs H ds m Qd Q rm r h k))
end
end PD

set_option Elab.async false
set_option linter.all false
set_option maxRecDepth 100000
set_option maxHeartbeats 4000000
namespace PD
open PySem PySem.Spec PyProof.Rows L2
open PySem.W (EachIs AllAlike Sortable dataLe AlikeAll minD maxD)
theorem lt1 {a c : Nat} (h : a + 64 < c) : a + 1 < c := by omega
section
variable {m m1 m2 : Mu} {a b : Str} {i j : Int} {p q : Bool} {xs ys : List D} {x y z u v : D} {A B : Addr} {Q : DK} {s : Sd}
theorem dFrzV_i : dFrzV (.int i) m Q = Q (.int i) m := rfl
theorem dFrzV_s : dFrzV (.str a) m Q = Q (.str a) m := rfl
theorem dFrzV_b : dFrzV (.bl p) m Q = Q (.bl p) m := rfl
theorem dFrzV_n : dFrzV .non m Q = Q .non m := rfl
theorem dFrzV_t : dFrzV (.tup xs) m Q = Q (.tup xs) m := rfl
theorem dFrzV_l : dFrzV (.rol xs) m Q = Q (.rol xs) m := rfl
theorem dFrzV_r : dFrzV (.ref A) m Q = ∃ ds, m A = some (.lst ds) ∧ Q (.rol ds) (mdel m A) := rfl
theorem dAddL_i : dAddL (.int i) (.int j) m Q = Q (.int (i + j)) m := rfl
theorem dAddL_s : dAddL (.str a) (.str b) m Q = (a.length + b.length ≤ sizeLine ∧ Q (.str (a ++ b)) m) := rfl
theorem dAddL_t : dAddL (.tup xs) (.tup ys) m Q = (xs.length + ys.length ≤ sizeLine ∧ Q (.tup (xs ++ ys)) m) := rfl
theorem dAddL_rr : dAddL (.ref A) (.ref B) m Q = ∃ xs ys, lsq m (.ref A) = some xs ∧ lsq m (.ref B) = some ys ∧ xs.length + ys.length ≤ sizeLine ∧ ∀ p, m p = none → Q (.ref p) (mset m p (.lst (xs ++ ys))) := rfl
theorem dAddL_rl : dAddL (.ref A) (.rol ys) m Q = ∃ xs zs, lsq m (.ref A) = some xs ∧ lsq m (.rol ys) = some zs ∧ xs.length + zs.length ≤ sizeLine ∧ ∀ p, m p = none → Q (.ref p) (mset m p (.lst (xs ++ zs))) := rfl
theorem dAddL_lr : dAddL (.rol xs) (.ref B) m Q = ∃ zs ys, lsq m (.rol xs) = some zs ∧ lsq m (.ref B) = some ys ∧ zs.length + ys.length ≤ sizeLine ∧ ∀ p, m p = none → Q (.ref p) (mset m p (.lst (zs ++ ys))) := rfl
theorem dAddL_ll : dAddL (.rol xs) (.rol ys) m Q = ∃ zs us, lsq m (.rol xs) = some zs ∧ lsq m (.rol ys) = some us ∧ zs.length + us.length ≤ sizeLine ∧ ∀ p, m p = none → Q (.ref p) (mset m p (.lst (zs ++ us))) := rfl
theorem dMulL_i : dMulL (.int i) (.int j) m Q = (CMul i j ∧ Q (.int (i * j)) m) := rfl
theorem dMulL_s : dMulL (.str a) (.int j) m Q = (0 ≤ j ∧ j ≤ 1000 ∧ a.length ≤ 1000 ∧ Q (.str (repS a j.toNat)) m) := rfl
theorem dMulL_r : dMulL (.ref A) (.int j) m Q = ∃ xs, m A = some (.lst xs) ∧ -(2 ^ 63) ≤ j ∧ j < 2 ^ 63 ∧ xs.length * j.toNat ≤ sizeLine ∧ ∀ p, m p = none → Q (.ref p) (mset m p (.lst (List.replicate j.toNat xs).flatten)) := rfl
def dSlLV (lo hi : Option Int) (x : D) (m3 : Mu) (Q : DK) : Prop := match x with
  | .tup ds => Q (.tup (cutD ds lo hi)) m3
  | x => ∃ ds, lsq m3 x = some ds ∧ ∀ p, m3 p = none → Q (.ref p) (mset m3 p (.lst (cutD ds lo hi)))
theorem dSlL_v {de : DE} {dl dh : DO} : dSlL de dl dh s m Q = de s m fun x m1 => dl s m1 fun lo m2 => dh s m2 fun hi m3 => dSlLV lo hi x m3 Q := rfl
theorem dSlLV_t {lo hi : Option Int} : dSlLV lo hi (.tup xs) m Q = Q (.tup (cutD xs lo hi)) m := rfl
theorem dSlLV_l {lo hi : Option Int} : dSlLV lo hi (.rol xs) m Q = ∃ ds, lsq m (.rol xs) = some ds ∧ ∀ p, m p = none → Q (.ref p) (mset m p (.lst (cutD ds lo hi))) := rfl
theorem dSlLV_r {lo hi : Option Int} : dSlLV lo hi (.ref A) m Q = ∃ ds, lsq m (.ref A) = some ds ∧ ∀ p, m p = none → Q (.ref p) (mset m p (.lst (cutD ds lo hi))) := rfl
theorem dMinU_2 {f : PyData → List PyData → PyData} {g : Int → Int → Int} : dMinU f g [.int i, .int j] m Q = Q (.int (g i j)) m := rfl
theorem dMinU_1 {f : PyData → List PyData → PyData} {g : Int → Int → Int} : dMinU f g [x] m Q = ∃ d es, seqOf m x = some (d :: es) ∧ OrdL (d :: es) ∧ (∀ x ∈ d :: es, encP x ≠ .none) ∧ ∀ x ∈ d :: es, encP x = f (encP d) (es.map encP) → Q x m := rfl
theorem dSumL_1 : dSumL [x] m Q = ∃ ns : List Int, seqOf m x = some (ns.map .int) ∧ Q (.int ns.sum) m := rfl
theorem dSetTx_1 {P : Program} {w : World} : dSetTx P w [x] m Q = ∃ xs : List Str, seqOf m x = some (xs.map .str) ∧ xs.length ≤ 1000 ∧ ∀ (p : Addr) (l : List Str), l.Nodup → (∀ x, x ∈ l ↔ x ∈ xs) → l.length ≤ xs.length → m p = none → Q (.ref p) (mset m p (.oth (SetTx P w p l))) := rfl
theorem dIx_l : dIx (.rol xs) (.int i) m Q = ∃ d, atI xs i = some d ∧ Q d m := propext ⟨fun ⟨_, e, h⟩ => by cases e; exact h, fun h => ⟨_, rfl, h⟩⟩
theorem dLen_l : dLen [.rol xs] m Q = Q (.int xs.length) m := propext ⟨fun ⟨_, e, h⟩ => by cases e; exact h, fun h => ⟨_, rfl, h⟩⟩
theorem dInG_l {f : Bool → Bool} : dInG f x (.rol xs) m Q = (flatD x = true ∧ xs.all flatD = true ∧ Q (.bl (f (inF x xs))) m) := propext ⟨fun ⟨_, e, h⟩ => by cases e; exact h, fun h => ⟨_, rfl, h⟩⟩
theorem truD_rol : truD m (.rol xs) = some (!xs.isEmpty) := rfl
theorem tyD_rol : tyD m (.rol xs) = some "list" := rfl
theorem dInt1_b : dInt1 [.bl p] m Q = Q (.int (if p = true then 1 else 0)) m := rfl
/-! stores -/
theorem mdel_same : mdel m A A = none := by unfold mdel; rw [if_pos rfl]
theorem mdel_mset {o : MO} : mdel (mset m A o) A = mdel m A := by funext b; unfold mdel mset; split <;> rfl
theorem mdel_none (h : m A = none) : mdel m A = m := by
  funext b; unfold mdel
  split
  · rename_i e; rw [e, h]
  · rfl
theorem Sub.del (h : Sub m m1) (h2 : m A = none) : Sub m (mdel m1 A) := fun c o e => by
  rw [mdel_ne (mne h2 e)]; exact h c o e
/-- all but one kept -/
def Off1 (a : Addr) (m m' : Mu) : Prop := ∀ x o, x ≠ a → m x = some o → m' x = some o
theorem Off1.refl (a : Addr) (m : Mu) : Off1 a m m := fun _ _ _ h => h
theorem Off1.trans {a : Addr} (h : Off1 a m m1) (h' : Off1 a m1 m2) : Off1 a m m2 := fun x o n e => h' x o n (h x o n e)
theorem Off1.of_sub {a : Addr} (h : Sub m m1) : Off1 a m m1 := fun x o _ e => h x o e
theorem Off1.set {a : Addr} {o : MO} (h : Off1 a m m1) : Off1 a m (mset m1 a o) := fun x u n e => by rw [mset_ne n]; exact h x u n e
theorem Off1.new {a p : Addr} {o : MO} (h : Off1 a m m1) (hp : m1 p = none) : Off1 a m (mset m1 p o) := fun x u n e => mset_new hp (h x u n e)
theorem Off1.del {a p : Addr} (h : Off1 a m m1) (hp : m p = none) : Off1 a m (mdel m1 p) := fun x u n e => by
  rw [mdel_ne (mne hp e)]; exact h x u n e
theorem Off1.free {a p : Addr} (h : Off1 a m m1) (n : p ≠ a) (e : m1 p = none) : m p = none := by
  cases q : m p with
  | none => rfl
  | some o => rw [h p o n q] at e; cases e
end
/-! calls by keyword in another order: at each parameter the place of its keyword -/
def gP (si : List Nat) (us ws : List Value) : List Value := if us.isEmpty = true ∧ ws.length = si.length then si.map fun i => ws.getD i Value.none else List.replicate (si.length + 1) Value.none
def gPV (si : List Nat) (vs zs : List V) : List V := if vs.isEmpty = true ∧ zs.length = si.length then si.map fun i => zs.getD i V.non else List.replicate (si.length + 1) V.non
def KwP (K : PySem.W.Frag) (fd : FuncData) (ps ks : List Str) (si : List Nat) : Prop := KBinds K fd ps ks (gP si) (gPV si)
theorem vals_getD : ∀ {zs : List V} {ws : List Value} (i : Nat), Vals zs ws → RelV (zs.getD i V.non) (ws.getD i Value.none)
  | _, _, _, .nil => rfl
  | _, _, 0, .cons a _ => a
  | _, _, i + 1, .cons _ b => vals_getD i b
theorem vals_map {zs : List V} {ws : List Value} (r : Vals zs ws) : ∀ si : List Nat, Vals (si.map fun i => zs.getD i V.non) (si.map fun i => ws.getD i Value.none)
  | [] => .nil
  | i :: si => .cons (vals_getD i r) (vals_map r si)
theorem vals_rep : ∀ n : Nat, Vals (List.replicate n V.non) (List.replicate n Value.none)
  | 0 => .nil
  | n + 1 => .cons rfl (vals_rep n)
theorem kw_perm {K : PySem.W.Frag} {x qual : Str} {st : Stmt} {f : Addr} {fd : FuncData} {ps ks : List Str} {si : List Nat} (F : Fun K x qual st f fd) (hz : si.length = ps.length)
    (h : ∀ (kV doc pm : Value) (an : Option Addr) (cdv ct : Value) (ws : List Value), ws.length = si.length → bindArgs (PySem.W.fnOf x qual (defArgs st) (defBody st) (defScope st) .none kV doc pm an cdv ct) ⟨[], ks.zip ws⟩ = pure (ps.zip (si.map fun i => ws.getD i Value.none))) : KwP K fd ps ks si := by
  obtain ⟨oc, od, kV, doc, pm, an, cdv, ct, osl, rfl, lk, hcd⟩ := F.ex
  refine ⟨fun s us ws hK hl => ?_, fun {vs us zs ws} r rz => ?_⟩
  · by_cases c : us.isEmpty = true ∧ ws.length = si.length
    · have e : gP si us ws = si.map fun i => ws.getD i Value.none := by unfold gP; rw [if_pos c]
      rw [e]
      have : us = [] := List.isEmpty_iff.mp c.1
      subst this
      exact .of_eq (h kV doc pm an cdv ct ws c.2)
    · have e : gP si us ws = List.replicate (si.length + 1) Value.none := by unfold gP; rw [if_neg c]
      rw [e, List.length_replicate, hz] at hl
      exact absurd hl (Nat.succ_ne_self _)
  · have l1 := r.length
    have l2 := rz.length
    unfold gP gPV
    have ee : (vs.isEmpty = true ∧ zs.length = si.length) ↔ (us.isEmpty = true ∧ ws.length = si.length) := by
      rw [List.isEmpty_iff_length_eq_zero, List.isEmpty_iff_length_eq_zero, l1, l2]
    by_cases c : us.isEmpty = true ∧ ws.length = si.length
    · rw [if_pos c, if_pos (ee.mpr c)]; exact vals_map rz si
    · rw [if_neg c, if_neg (fun z => c (ee.mp z))]; exact vals_rep _
def dCallP (n : Nat) (sd : SpD) (si : List Nat) (a : DA) : DE := fun s m Q => a s m fun ds m1 => ds.length = si.length ∧ si.length = n ∧ sd (si.map fun i => ds.getD i .non) m1 Q
theorem repl_getD {K : PySem.W.Frag} {H : Hp} : ∀ {ds : List D} {zs : List V} (i : Nat), RepL K H ds zs → Rep K H (ds.getD i .non) (zs.getD i V.non)
  | _, _, _, .nil => .non
  | _, _, 0, .cons a _ => a
  | _, _, i + 1, .cons _ b => repl_getD i b
theorem repl_map {K : PySem.W.Frag} {H : Hp} {ds : List D} {zs : List V} (r : RepL K H ds zs) : ∀ si : List Nat, RepL K H (si.map fun i => ds.getD i .non) (si.map fun i => zs.getD i V.non)
  | [] => .nil
  | i :: si => .cons (repl_getD i r) (repl_map r si)
section
variable {X : Cx}
theorem ge_callP {k n : Nat} {f : Addr} {fd : FuncData} {ps ks : List Str} {si : List Nat} {sd : SpD} {x : Str} {p pos : Pos} {kws : List Keyword} {dk : DA} (F : FnOk X.prog X.w X.K X.mg X.base CX0 k f fd ps (spL X.K n sd)) (hr : Room k X.A) (hg : Gl X x) (hm : X.mg x = some (.ref f)) (hk : PySem.W.keepIn X.K (.ref f) = true) (hb : KwP X.K fd ps ks si)
    (hkw : GK X kws dk) (hall : (backToKw pos (keywordEach kws X.env)).all (·.1.isSome) = true := by rfl) (hks : (backToKw pos (keywordEach kws X.env)).filterMap (·.1) = ks := by rfl)
    (hdb : (x == ("__debug__" : Str)) = false := by decide) (hpl : ((backTo pos (starEach [] X.env)).any (·.1) || (backToKw pos (keywordEach kws X.env)).any (·.1.isNone)) = false := by rfl) :
    GE X (.Call (.Name x p) [] kws pos) (dCallP n sd si dk) := by
  obtain ⟨tk, q, l⟩ := hkw
  have P : PE X (.Call (.Name x p) [] kws pos) (fun τ H Q => tk τ H fun zs H2 => spL X.K n sd (gPV si [] zs) H2 Q E0) := by
    refine ⟨fun pz s τ H Q I h => ?_⟩
    refine wpAny_Call_Name_kw (ld_glob I hg hm ?_ hdb)
    refine PySem.W.callWith_KW0 (h₀ := X.base) I.ok.mod.kin hk hall (thn (q.run pos pz s τ H _ I h) fun ws tB ⟨zs, H2, iB, rz, q2⟩ => ⟨iB.kIn, ?_⟩) hpl
    rw [hks]
    exact run_fnk (us := []) (vs := []) F hr hb pass0 iB .nil rz q2
  refine .of ⟨_, P, fun s H sd' m Qd Q rs rm h k => ?_⟩
  refine l s H sd' m _ _ rs rm h fun vs H1 ds m1 t1 rm1 r1 h1 => ?_
  have e : gPV si [] vs = si.map fun i => vs.getD i V.non := by unfold gPV; rw [if_pos ⟨rfl, by rw [← r1.length]; exact h1.1⟩]
  rw [e]
  exact ⟨_, m1, Qd, repl_map r1 si, rm1, ⟨by rw [List.length_map]; exact h1.2.1, h1.2.2⟩, fun v' H' dv' m' t' a b c => k v' H' dv' m' (t1.trans t') a b c⟩
end
end PD

set_option Elab.async false
set_option linter.all false
set_option maxRecDepth 100000
set_option maxHeartbeats 4000000
namespace PD
open PySem PySem.Spec PyProof.Rows L2
/-- a loop each of whose turns adds f of the item to the list at p -/
theorem loop_acc {st : Mu → Prop} {g : DG} {tb : DS} {E : DEnds} {m0 : Mu} {p : Addr} (Sl : Sd → Prop) (f : D → List D) {es0 init : List D} (hst : ∀ m', Sub m0 m' → st m')
    (hs : ∀ d ∈ es0, ∀ acc s' m' (R : Sd → Mu → Prop), Sl s' → Sub m0 m' → m' p = some (.lst acc) → acc.length + (f d).length ≤ (init ++ es0.flatMap f).length → (∀ s'' m'', Sl s'' → Sub m0 m'' → m'' p = some (.lst (acc ++ f d)) → R s'' m'') → g d s' m' fun s2 m2 => tb { E with nx := R, ct := R, bk := E.nx } s2 m2)
    (he : ∀ s' m', Sl s' → Sub m0 m' → m' p = some (.lst (init ++ es0.flatMap f)) → E.nx s' m') {s : Sd} {m : Mu} (h1 : Sl s) (h2 : Sub m0 m) (h3 : m p = some (.lst init)) : dLoop st g tb E es0 s m := by
  refine loop_inv (fun rem s' m' => ∃ pre, es0 = pre ++ rem ∧ Sl s' ∧ Sub m0 m' ∧ m' p = some (.lst (init ++ pre.flatMap f))) ?_ ?_ ⟨[], rfl, h1, h2, by rw [List.flatMap_nil, List.append_nil]; exact h3⟩
  · rintro d rem s' m' R hR ⟨pre, e, a, b, c⟩
    refine ⟨hst _ b, hs d (by rw [e]; simp) _ s' m' _ a b c ?_ fun s'' m'' a' b' c' => hR _ _ ⟨pre ++ [d], by rw [e]; simp, a', b', ?_⟩⟩
    · rw [e, List.flatMap_append, List.flatMap_cons, List.length_append, List.length_append, List.length_append, List.length_append]
      omega
    · rw [c', List.flatMap_append, List.flatMap_cons, List.flatMap_nil, List.append_nil, List.append_assoc]
  · rintro s' m' ⟨pre, e, a, b, c⟩
    rw [List.append_nil] at e
    subst e
    exact ⟨hst _ b, he _ _ a b c⟩
theorem flatMap_one {α β : Type} (f : α → β) : ∀ l : List α, l.flatMap (fun x => [f x]) = l.map f
  | [] => rfl
  | x :: l => by rw [List.flatMap_cons, List.map_cons, flatMap_one f l]; rfl
theorem flatMap_map' {α β γ : Type} (f : α → β) (g : β → List γ) : ∀ l : List α, (l.map f).flatMap g = l.flatMap fun x => g (f x)
  | [] => rfl
  | x :: l => by rw [List.map_cons, List.flatMap_cons, List.flatMap_cons, flatMap_map' f g l]
/-- a comprehension over what does not change the store, items by an invariant J of the answers' list and the store without p -/
theorem comp_st {st : Mu → Prop} {g : DG} {e : DE} {p : Addr} {s : Sd} {Q : DK} {m : Mu} (J : List D → Mu → Prop) (hst : ∀ m', st m') {es0 : List D} (hz : es0.length ≤ 100000)
    (hs : ∀ d ∈ es0, ∀ acc m' (R : D → Mu → Prop), J acc m' → m' p = some (.lst acc) → (∀ y m'', J (acc ++ [y]) (mset m'' p (.lst (acc ++ [y]))) → m'' p = some (.lst acc) → R y m'') → g d s m' fun s2 m2 => e s2 m2 R)
    (he : ∀ acc m', acc.length = es0.length → J acc m' → m' p = some (.lst acc) → Q (.ref p) m') (h : J [] (mset m p (.lst []))) : dComp st g dYes e p s Q es0 [] (mset m p (.lst [])) := by
  refine comp_inv (fun rem acc m' => ∃ pre, es0 = pre ++ rem ∧ acc.length = pre.length ∧ J acc m' ∧ m' p = some (.lst acc)) (fun d rem acc m1 R hR ⟨pre, e1, e2, e3, e4⟩ => ?_) (fun acc m1 ⟨pre, e1, e2, e3, e4⟩ => ?_) ⟨[], rfl, rfl, h, mset_same⟩
  · refine ⟨hst _, ?_⟩
    have q := hs d (by rw [e1]; simp) acc m1 (fun y m4 => m4 p = some (.lst acc) ∧ acc.length < sizeLine ∧ R (acc ++ [y]) (mset m4 p (.lst (acc ++ [y])))) e3 e4 fun y m'' h1 h2 => ⟨h2, ?_, hR _ _ ⟨pre ++ [d], by rw [e1]; simp, by simp [e2], h1, mset_same⟩⟩
    · simpa [dYes] using q
    · have : pre.length < es0.length := by rw [e1]; simp
      exact Nat.lt_of_lt_of_le (by omega : acc.length < 100000) (by decide)
  · rw [List.append_nil] at e1
    subst e1
    exact ⟨hst _, e4, he acc m1 e2 e3 e4⟩
end PD
namespace PD
open PySem PySem.Spec PyProof.Rows L2
theorem Off1.set' {a p : Addr} {m m1 : Mu} {o : MO} (h : Off1 a m m1) (hp : m p = none) : Off1 a m (mset m1 p o) := fun x u n e => by
  rw [mset_ne (mne hp e)]; exact h x u n e
end PD
namespace PD
open PySem PySem.Spec PyProof.Rows L2
theorem cut_mem {α : Type} {xs : List α} {lo hi : Option Int} {d : α} (h : d ∈ cutD xs lo hi) : d ∈ xs := List.mem_of_mem_drop (List.mem_of_mem_take h)
/-- xs[:n] -/
theorem cut_take {α : Type} (xs : List α) (n : Nat) : cutD xs none (some (n : Int)) = xs.take n := by
  unfold cutD
  rw [HT.sIx_none, HT.sIx_nat, List.drop_zero, Nat.sub_zero]
  by_cases h : n ≤ xs.length
  · rw [Nat.min_eq_left h]
  · rw [Nat.min_eq_right (by omega), List.take_length, List.take_of_length_le (by omega)]
/-- xs[-n:] -/
theorem cut_last {α : Type} (xs : List α) (n : Nat) (h0 : 0 < n) (h : n ≤ xs.length) : cutD xs (some (-(n : Int))) none = xs.drop (xs.length - n) := by
  unfold cutD
  have e : HT.sIx xs.length 0 (some (-(n : Int))) = xs.length - n := by
    show (if (-(n : Int)) < 0 then ((-(n : Int)) + (xs.length : Int)).toNat else min (-(n : Int)).toNat xs.length) = xs.length - n
    rw [if_pos (by omega)]; omega
  rw [e, HT.sIx_none]
  rw [List.take_of_length_le (by rw [List.length_drop]; exact Nat.le_refl _)]
theorem rep_one {α : Type} (x : α) (n : Nat) : (List.replicate n [x]).flatten = List.replicate n x := by
  induction n with
  | zero => rfl
  | succ n ih => rw [List.replicate_succ, List.flatten_cons, ih]; rfl
end PD
namespace PD
open PySem PySem.Spec PyProof.Rows L2
/-- the same over typed items -/
theorem loop_accT {β : Type} {st : Mu → Prop} {g : DG} {tb : DS} {E : DEnds} {m0 : Mu} {p : Addr} (Sl : Sd → Prop) (e : β → D) (f : β → List D) {us : List β} {init : List D} (hst : ∀ m', Sub m0 m' → st m')
    (hs : ∀ u ∈ us, ∀ acc s' m' (R : Sd → Mu → Prop), Sl s' → Sub m0 m' → m' p = some (.lst acc) → acc.length + (f u).length ≤ (init ++ us.flatMap f).length → (∀ s'' m'', Sl s'' → Sub m0 m'' → m'' p = some (.lst (acc ++ f u)) → R s'' m'') → g (e u) s' m' fun s2 m2 => tb { E with nx := R, ct := R, bk := E.nx } s2 m2)
    (he : ∀ s' m', Sl s' → Sub m0 m' → m' p = some (.lst (init ++ us.flatMap f)) → E.nx s' m') {s : Sd} {m : Mu} (h1 : Sl s) (h2 : Sub m0 m) (h3 : m p = some (.lst init)) : dLoop st g tb E (us.map e) s m := by
  refine loop_inv (fun rem s' m' => ∃ pre post, us = pre ++ post ∧ rem = post.map e ∧ Sl s' ∧ Sub m0 m' ∧ m' p = some (.lst (init ++ pre.flatMap f))) ?_ ?_ ⟨[], us, rfl, rfl, h1, h2, by rw [List.flatMap_nil, List.append_nil]; exact h3⟩
  · rintro d rem s' m' R hR ⟨pre, post, q, q2, a, b, c⟩
    cases post with
    | nil => cases q2
    | cons u post =>
      rw [List.map_cons] at q2
      injection q2 with q2 q3
      subst q2
      refine ⟨hst _ b, hs u (by rw [q]; simp) _ s' m' _ a b c ?_ fun s'' m'' a' b' c' => hR _ _ ⟨pre ++ [u], post, by rw [q]; simp, q3, a', b', ?_⟩⟩
      · rw [q, List.flatMap_append, List.flatMap_cons, List.length_append, List.length_append, List.length_append, List.length_append]
        omega
      · rw [c', List.flatMap_append, List.flatMap_cons, List.flatMap_nil, List.append_nil, List.append_assoc]
  · rintro s' m' ⟨pre, post, q, q2, a, b, c⟩
    cases post with
    | cons u post => cases q2
    | nil =>
      rw [List.append_nil] at q
      subst q
      exact ⟨hst _ b, he _ _ a b c⟩
/-- a comprehension over typed items that changes nothing -/
theorem comp_pureT {β γ : Type} {st : Mu → Prop} {g : DG} {t : DT} {e : DE} {p : Addr} {s : Sd} {Q : DK} {m : Mu} (i : β → D) (o : β → D) (c : β → Bool) (hst : ∀ a, st (mset m p (.lst a))) {us : List β} (hz : us.length ≤ 100000)
    (h : ∀ u ∈ us, ∀ a (R1 : D → Mu → Prop) (R2 : Mu → Prop), (c u = true → R1 (o u) (mset m p (.lst a))) → (c u = false → R2 (mset m p (.lst a))) → g (i u) s (mset m p (.lst a)) fun s2 m2 => t s2 m2 fun b m3 => if b = true then e s2 m3 R1 else R2 m3)
    (hq : Q (.ref p) (mset m p (.lst ((us.filter c).map o)))) : dComp st g t e p s Q (us.map i) [] (mset m p (.lst [])) := by
  refine comp_inv (fun rem acc m' => ∃ pre post, us = pre ++ post ∧ rem = post.map i ∧ acc = (pre.filter c).map o ∧ m' = mset m p (.lst acc)) (fun d rem acc m1 R hR ⟨pre, post, e1, e0, e2, e3⟩ => ?_) (fun acc m1 ⟨pre, post, e1, e0, e2, e3⟩ => ?_) ⟨[], us, rfl, rfl, rfl, rfl⟩
  · cases post with
    | nil => cases e0
    | cons u post =>
      rw [List.map_cons] at e0
      injection e0 with e0 e4
      subst e0 e3
      refine ⟨hst _, h u (by rw [e1]; simp) acc _ _ (fun hc => ⟨mset_same, ?_, ?_⟩) fun hc => ?_⟩
      · rw [e2, List.length_map]
        have h1 := List.length_filter_le c pre
        have h2 : pre.length < us.length := by rw [e1]; simp
        exact Nat.lt_of_lt_of_le (by omega : _ < 100000) (by decide)
      · refine hR _ _ ⟨pre ++ [u], post, by rw [e1]; simp, e4, ?_, mset_mset⟩
        rw [e2, List.filter_append, List.map_append]
        simp [hc]
      · refine hR _ _ ⟨pre ++ [u], post, by rw [e1]; simp, e4, ?_, rfl⟩
        rw [e2, List.filter_append, List.map_append]
        simp [hc]
  · cases post with
    | cons u post => cases e0
    | nil =>
      subst e3
      rw [List.append_nil] at e1
      subst e1 e2
      exact ⟨hst _, mset_same, hq⟩
end PD

set_option Elab.async false
set_option linter.all false
set_option maxRecDepth 100000
set_option maxHeartbeats 4000000
/-! d.setdefault(k, x). -/
namespace PD
open PySem PySem.Spec PyProof.Rows L2
def dDSetd (dd dk dx : DE) : DE := fun s m Q => dd s m fun x m1 => ∃ a, x = .ref a ∧ (∃ kvs, m1 a = some (.dct kvs)) ∧ dk s m1 fun y m2 => dx s m2 fun z m3 => ∃ kvs k, m3 a = some (.dct kvs) ∧ toKey y = some k ∧ kvs.length < sizeLine ∧
  (∀ d, valD kvs k = some d → Q d m3) ∧ (valD kvs k = none → Q z (mset m3 a (.dct (putKD kvs k z))))
section
variable {X : Cx} {o e f : Expr} {apos cpos : Pos} {dd dk dx : DE}
theorem ge_dsetd (ho : GE X o dd) (he : GE X e dk) (hf : GE X f dx) (m : M2 X o "setdefault" apos e f cpos) : GE X (.Call (.Attribute o "setdefault" apos) [e, f] [] cpos) (dDSetd dd dk dx) := by
  obtain ⟨td, pd, ld⟩ := ho.ex
  obtain ⟨te, pe, le⟩ := he.ex
  obtain ⟨tf, pf, lf⟩ := hf.ex
  refine .of ⟨_, pe_dsetd pd pe pf m, fun s H sd m Qd Q rs rm h k => ?_⟩
  refine ld s H sd m _ _ rs rm h fun x H1 dx1 m1 t1 rm1 r1 h1 => ?_
  obtain ⟨a, rfl, ⟨kvs0, e0⟩, h2⟩ := h1
  cases r1
  obtain ⟨us0, e1, _⟩ := rm1 a _ e0
  refine ⟨a, rfl, .inl ⟨us0, .inl e1⟩, ?_⟩
  refine le s H1 sd m1 _ _ (rs.mono t1) rm1 h2 fun y H2 dy m2 t2 rm2 r2 h3 => ?_
  refine lf s H2 sd m2 _ _ (rs.mono (t1.trans t2)) rm2 h3 fun z H3 dz m3 t3 rm3 r3 h4 => ?_
  obtain ⟨kvs, kk, e2, e3, hl, h5, h6⟩ := h4
  obtain ⟨us, e5, e6, r⟩ := rm3 a _ e2
  have hy := key_rep (r2.mono t3) e3
  subst hy
  have hlen : us.length = kvs.length := by have z := congrArg List.length e6; rwa [List.length_map, List.length_map] at z
  have z := val_rep (k := kk) e6 r
  have pr := putK_rep (k := kk) e6 r r3
  refine ⟨us, kk, e5, rfl, by omega, fun v hv => ?_, fun hn => ?_⟩
  · cases q : valD kvs kk with
    | none => rw [z.2 q] at hv; cases hv
    | some d =>
      obtain ⟨v2, e7, r7⟩ := z.1 d q
      rw [hv] at e7
      cases e7
      exact k _ _ _ _ (t1.trans (t2.trans t3)) rm3 r7 (h5 d q)
  · cases q : valD kvs kk with
    | none => exact k _ _ _ _ (t1.trans (t2.trans (t3.trans (.dK e5)))) (rm3.setD e5 pr.1 pr.2) (r3.mono (.dK e5)) (h6 q)
    | some d =>
      obtain ⟨v2, e7, _⟩ := z.1 d q
      rw [hn] at e7; cases e7
/-! sorted of a dict with texts for keys -/
theorem repl_strs2 {K : PySem.W.Frag} {H : Hp} : ∀ l : List Str, RepL K H (l.map D.str) (l.map V.str)
  | [] => .nil
  | x :: l => .cons (.str x) (repl_strs2 l)
def rSortDS : List V → Hp → VK → Prop := fun xs H Q => ∃ (a : Addr) (kvs : List (Key × V)) (ks : List Str), xs = [.ref a] ∧ Rd H a (.dK kvs) ∧ kvs.map (·.1) = ks.map Sum.inr ∧ ks.length < 64 ∧ ∀ (ys : List Str) (p : Addr), ys.Perm ks → sortedS ys = true → H p = none → Q (.ref p) (upd H p (.lst (ys.map V.str)))
def dSortDS : DC := fun ds m Q => ∃ a kvs, ∃ ks : List Str, ds = [.ref a] ∧ m a = some (.dct kvs) ∧ kvs.map (·.1) = ks.map Sum.inr ∧ ks.length < 64 ∧ ∀ (ys : List Str) (p : Addr), ys.Perm ks → sortedS ys = true → m p = none → Q (.ref p) (mset m p (.lst (ys.map .str)))
theorem lc_sortDS {K : PySem.W.Frag} : LC K rSortDS dSortDS := fun vs H ds m Qd Q rm r ⟨a, kvs, ks, e, ha, hk, hz, q⟩ k => by
  subst e
  obtain ⟨us, e1, e2, _⟩ := rm a _ ha
  exact ⟨a, us, ks, one_ref r, .inl e1, e2.trans hk, hz, fun ys p pk pw hp => k _ _ _ _ (.new hp) (rm.newL hp (repl_strs2 _)) (.ref p) (q ys p pk pw (rm.fresh hp))⟩
def rSortV (K : PySem.W.Frag) (P : Program) (w : World) : List V → Hp → VK → Prop := fun xs H Q => rSortU K P w xs H Q ∨ rSortDS xs H Q
def dSortV (P : Program) (w : World) : DC := fun ds m Q => dSortU P w ds m Q ∨ dSortDS ds m Q
theorem cr_sortV (hc : X.calm = true) (hu : X.A.units + 64 < cLine) : CallR X (.builtin "sorted") (rSortV X.K X.prog X.w) := (cr_sortU hc hu).or (call_sortedD hc)
theorem lc_sortV {K : PySem.W.Frag} {P : Program} {w : World} : LC K (rSortV K P w) (dSortV P w) := fun vs H ds m Qd Q rm r h k => by
  rcases h with h | h
  · exact .inl (lc_sortU vs H ds m Qd Q rm r h k)
  · exact .inr (lc_sortDS vs H ds m Qd Q rm r h k)
end
end PD

set_option Elab.async false
set_option linter.all false
set_option maxRecDepth 100000
set_option maxHeartbeats 4000000
namespace PD
open PySem PySem.Spec PyProof.Rows L2
/-! extend by any list that stays, or a tuple -/
section
variable {X : Cx}
theorem pd_extend_lst (l : Addr) (gs9 : Array Value) (n : Nat) (b : Addr) (gt9 : Array Value) (n2 : Nat) (dd : Option Addr) (sc9 : Array (Option Value)) (hs0 : ¬(!gs9.isEmpty && Builtin.List.listTooLong (gs9.size + gt9.size)) = true) (hs1 : gs9.size ≤ sizeLine) (hs2 : gs9.size + gt9.size ≤ sizeLine + 1) :
    Meets (Builtin.«list.extend» ⟨[.ref l, .ref b], []⟩) (fun _ R s => s.heap.get? l = some { cls := .type "list", dict := none, data := .seq gs9 n, slots := #[] } ∧ s.heap.get? b = some { cls := .type "list", dict := dd, data := .seq gt9 n2, slots := sc9 } ∧ R (.ok (.ret Value.none)) { s with heap := s.heap.update l (Obj.mapSeq fun x => x ++ gt9) }) :=
  .of_wp fun pg9 w A R s h => by
    obtain ⟨hp, g, d, tk, os⟩ := s; obtain ⟨hl, hb, h⟩ := h; have f1 := AutoSeq1.idx_int; have f2 := sub_tuple_tuple; have f3 := sub_list_list; have f4 := sub_tuple_list; have f5 := sub_list_tuple;
    have hz' : (gs9 ++ gt9).size ≤ sizeLine + 1 := by rw [Array.size_append]; exact hs2
    wp_walk using (wpAny_updateSeq hl rfl (hz := hs1) (_hz' := hz')), AutoSeq1.wpAny_loadPart' hl, AutoSeq1.wpAny_loadPart' hb; exact ⟨_, rfl, h⟩
def rExtendL (K : PySem.W.Frag) : V → List V → Hp → VK → Prop := fun x vs H Q => ∃ l b xs zs, x = .ref l ∧ vs = [.ref b] ∧ H l = some (.lst xs) ∧ (SqL K H b zs ∨ SqT K H b zs) ∧ xs.length + zs.length ≤ sizeLine ∧ Q .non (upd H l (.lst (xs ++ zs)))
theorem mt_extendL : MtM X "list.extend" (rExtendL X.K) := by
  intro pz s τ H x xs v us Q I rx ra9 h
  obtain ⟨l, b, xs, zs, rfl, rfl, hH, hB, hs9, q⟩ := h
  rcases hB with hB | hB
  · cases rx
    obtain ⟨u, rfl, ru⟩ := ra9.one
    cases ru
    obtain ⟨z, xs9, n, r, hl, e⟩ := I.lstM hH
    obtain ⟨ys9, r2, p2, hl2⟩ := I.list hB
    obtain ⟨⟨c2, dt2, dd2, sl2⟩, n2, e2, hc2, hdd2, hd2⟩ := p2
    simp only at hc2 hd2
    subst hc2 hd2
    have le9 := r2.length
    have sz9 : xs9.toArray.size + ys9.toArray.size ≤ sizeLine := by rw [List.size_toArray, List.size_toArray]; omega
    have hlong : ¬ (!xs9.toArray.isEmpty && Builtin.List.listTooLong (xs9.toArray.size + ys9.toArray.size)) = true := by
      rw [notLongL sz9, Bool.and_false]
      exact Bool.false_ne_true
    refine call_meets F.slot_list_extend ⟨_, e, rfl⟩ F.entry_list_extend (F.args_list_extend_2 _ _)
      (pd_extend_lst l xs9.toArray n b ys9.toArray n2 _ sl2 hlong (by rw [List.size_toArray]; omega) (by omega)) ⟨e, e2, ?_⟩
    refine ⟨.non, _, I.lset (its' := xs9 ++ ys9) hH e (by simp) (r.append r2) ?_, rfl, q⟩
    rw [List.length_append]
    omega
  · exact mt_extendU pz s τ H _ _ v us Q I rx ra9 ⟨l, b, xs, zs, rfl, rfl, hH, .inr hB, hs9, q⟩
def dExtendL : DM := fun x ds m Q => match ds with
  | [d] => ∃ a es zs, lstOf m x = some (a, es) ∧ seqOf m d = some zs ∧ es.length + zs.length ≤ sizeLine ∧ Q .non (mset m a (.lst (es ++ zs)))
  | _ => False
theorem lm_extendL {K : PySem.W.Frag} : LM K (rExtendL K) dExtendL := fun x vs H dx ds m Qd Q rm rx r h k => by
  match ds, r, h with
  | [d], r, h =>
    obtain ⟨a, es, zs, e, e1, hs9, q⟩ := h
    obtain ⟨rfl, rfl, _, ws, e2, r2⟩ := lst_rep rm rx e
    obtain ⟨v, rfl, ra9⟩ := repL1 r
    obtain ⟨b, us, rfl, sb, rb⟩ := seq_rep rm ra9 e1
    exact ⟨a, b, ws, us, rfl, rfl, e2, sb, by rw [← r2.length, ← rb.length]; exact hs9, k _ _ _ _ (.lst e2) (rm.setL e2 (r2.append rb)) .non q⟩
theorem dExtendL_1 : dExtendL x [y] m Q = ∃ a es zs, lstOf m x = some (a, es) ∧ seqOf m y = some zs ∧ es.length + zs.length ≤ sizeLine ∧ Q .non (mset m a (.lst (es ++ zs))) := rfl
end
end PD

set_option Elab.async false
set_option linter.all false
set_option maxRecDepth 100000
set_option maxHeartbeats 4000000
namespace PD
open PySem PySem.Spec PyProof.Rows L2
/-! texts: sign by sign, in, join, slices, upper; abs; a < b < c -/
def sgn (x : Str) : List D := x.cps.toList.map fun c => .str ⟨#[c]⟩
theorem sgn_len (x : Str) : (sgn x).length = x.length := by unfold sgn; rw [List.length_map, Array.length_toList]; rfl
def dIStr (a : DE) : DI := fun s m R => a s m fun x m1 => match x with
  | .str x => R (sgn x) (fun _ => True) m1
  | _ => False
theorem jo_str {K : PySem.W.Frag} {H1 : Hp} {x : Str} : JOk K (Its x) (sgn x) (fun _ => True) H1 := by
  have hl : (sgn x).length = x.cps.size := by unfold sgn; rw [List.length_map, Array.length_toList]
  refine ⟨fun i H m _ _ _ h => ?_, fun i H y H' m _ rm _ h hy => ?_, fun i H m _ _ _ h => ?_⟩
  · rw [hl] at h; exact h
  · obtain ⟨rfl, c, e, rfl⟩ := hy
    exact ⟨.str ⟨#[c]⟩, by unfold sgn; rw [List.getElem?_map, Array.getElem?_toList, e]; rfl, .refl _, rm, .str _⟩
  · rw [hl] at h; exact h
theorem repL_str {K : PySem.W.Frag} {H : Hp} : ∀ {ys : List Str} {vs : List V}, RepL K H (ys.map D.str) vs → vs = ys.map V.str
  | [], _, r => by cases r; rfl
  | y :: ys, _, r => by
    cases r with
    | cons a b =>
      cases a
      rw [repL_str b]; rfl
section
variable {X : Cx}
theorem gi_str {tg l : Expr} {a : DE} (h : GE X l a) : GIE X tg l (dIStr a) :=
  ⟨iStr (liftE X.K a), pi_str h.pe, fun s H sd m Rd R rs rm hh k => by
    refine liftE_le _ a s H sd m _ _ rs rm hh fun v H1 dv m1 t1 rm1 r1 h1 => ?_
    cases r1 with
    | str x => exact ⟨x, rfl, k _ H1 _ _ m1 t1 rm1 jo_str h1⟩
    | _ => exact h1.elim⟩
def dInSg (f : Bool → Bool) : D2 := fun x y m Q => ∃ c z, x = .str ⟨#[c]⟩ ∧ y = .str z ∧ Q (.bl (f (decide (c ∈ z.cps.toList)))) m
theorem lr_inSg {K : PySem.W.Frag} : LR K (fun x y H Q => ∃ c z, x = V.str ⟨#[c]⟩ ∧ y = V.str z ∧ Q (V.bl (decide (c ∈ z.cps.toList))) H) (dInSg id) := fun x y H dx dy m Qd Q rm rx ry h k => by
  obtain ⟨c, z, rfl, rfl, q⟩ := h
  cases rx
  cases ry
  exact ⟨c, z, rfl, rfl, k _ H _ m (.refl H) rm (.bl _) q⟩
theorem lr_notInSg {K : PySem.W.Frag} : LR K (fun x y H Q => ∃ c z, x = V.str ⟨#[c]⟩ ∧ y = V.str z ∧ Q (V.bl !decide (c ∈ z.cps.toList)) H) (dInSg not) := fun x y H dx dy m Qd Q rm rx ry h k => by
  obtain ⟨c, z, rfl, rfl, q⟩ := h
  cases rx
  cases ry
  exact ⟨c, z, rfl, rfl, k _ H _ m (.refl H) rm (.bl _) q⟩
def dJoin (da db : DE) : DE := fun s m Q => da s m fun x m1 => ∃ a, x = .str a ∧ db s m1 fun y m2 => ∃ ys : List Str, seqOf m2 y = some (ys.map .str) ∧ (ys.map (·.length)).sum + ys.length * a.length ≤ 16777216 ∧ Q (.str (Txt.join a ys)) m2
theorem ge_join {o e : Expr} {apos pos : Pos} {da db : DE} (ho : GE X o da) (he : GE X e db) (h1 : starEach [e] X.env = [(false, eval e X.env)] := by rfl) (h2 : attributeBase o "join" X.env (eval o X.env) = eval o X.env := by rfl) (h3 : (apos.endLine == pos.line) = true := by rfl) :
    GE X (.Call (.Attribute o "join" apos) [e] [] pos) (dJoin da db) := by
  obtain ⟨to, p, l⟩ := ho.ex
  obtain ⟨te, q, l2⟩ := he.ex
  refine .of ⟨_, pe_join p q h1 h2 h3, fun s H sd m Qd Q rs rm h k => ?_⟩
  refine l s H sd m _ _ rs rm h fun v H1 dv m1 t1 rm1 r1 h1 => ?_
  obtain ⟨a, rfl, h1⟩ := h1
  cases r1
  refine ⟨⟨a, rfl⟩, l2 s H1 sd m1 _ _ (rs.mono t1) rm1 h1 fun y H2 dy m2 t2 rm2 r2 ⟨ys, e3, hl, z⟩ => ?_⟩
  obtain ⟨b, vs, rfl, sb, rb⟩ := seq_rep rm2 r2 e3
  rw [repL_str rb] at sb
  exact ⟨a, b, ys, rfl, rfl, sb, hl, k _ H2 _ m2 (t1.trans t2) rm2 (.str _) z⟩
def dSlS (de : DE) (dl dh : DO) : DE := fun s m Q => de s m fun x m1 => dl s m1 fun lo m2 => dh s m2 fun hi m3 => match x with
  | .str z => z.length ≤ sizeLine ∧ Q (.str (cutS z lo hi)) m3
  | _ => False
theorem ge_sliceS {e : Expr} {lo hi : Option Expr} {pos p2 : Pos} {de : DE} {dl dh : DO} (he : GE X e de) (hl : GO X lo dl) (hh : GO X hi dh) : GE X (.Subscript e (.Slice lo hi none p2) pos) (dSlS de dl dh) := by
  obtain ⟨te, p, l⟩ := he.ex
  obtain ⟨tl, q, l2⟩ := hl.ex
  obtain ⟨th, q2, l3⟩ := hh.ex
  refine .of ⟨_, pe_slice sl_str p q q2, fun s H sd m Qd Q rs rm h k => ?_⟩
  refine l s H sd m _ _ rs rm h fun v H1 dv m1 t1 rm1 r1 h1 => ?_
  refine l2 s H1 sd m1 _ _ (rs.mono t1) rm1 h1 fun lo H2 m2 t2 rm2 h2 => ?_
  refine l3 s H2 sd m2 _ _ (rs.mono (t1.trans t2)) rm2 h2 fun hi H3 m3 t3 rm3 h3 => ?_
  cases r1 with
  | str z => exact ⟨z, rfl, h3.1, k _ H3 _ m3 (t1.trans (t2.trans t3)) rm3 (.str _) h3.2⟩
  | _ => exact h3.elim
def dUpper (da : DE) : DE := fun s m Q => da s m fun x m1 => ∃ a, x = .str a ∧ a.length ≤ 5592405 ∧ Q (.str (Txt.upper a)) m1
theorem ge_upper {o : Expr} {apos pos : Pos} {da : DE} (ho : GE X o da) (h2 : attributeBase o "upper" X.env (eval o X.env) = eval o X.env := by rfl) (h3 : (apos.endLine == pos.line) = true := by rfl) :
    GE X (.Call (.Attribute o "upper" apos) [] [] pos) (dUpper da) := by
  obtain ⟨to, p, l⟩ := ho.ex
  refine .of ⟨_, pe_upper p h2 h3, fun s H sd m Qd Q rs rm h k => ?_⟩
  refine l s H sd m _ _ rs rm h fun v H1 dv m1 t1 rm1 r1 h1 => ?_
  obtain ⟨a, rfl, h1, z⟩ := h1
  cases r1
  exact ⟨⟨a, rfl⟩, a, rfl, rfl, h1, k _ H1 _ m1 t1 rm1 (.str _) z⟩
def dAbs : DC := fun ds m Q => match ds with
  | [.int i] => Q (.int (if i < 0 then -i else i)) m
  | _ => False
theorem lc_abs {K : PySem.W.Frag} : LC K (fun xs H Q => ∃ i, xs = [V.int i] ∧ Q (V.int (if i < 0 then -i else i)) H) dAbs := fun vs H ds m Qd Q rm r h k => by
  match ds, r, h with
  | [.int i], r, h =>
    obtain ⟨v, rfl, ra⟩ := repL1 r
    cases ra
    exact ⟨i, rfl, k _ H _ m (.refl H) rm (.int _) h⟩
def dChain (d d' : D2) (da db dc : DE) : DT := fun s m Q => da s m fun x m1 => db s m1 fun y m2 => d x y m2 fun z m3 => match z with
  | .bl k => if k = true then dc s m3 fun u m4 => d' y u m4 fun z' m5 => match z' with
      | .bl k' => Q k' m5
      | _ => False
    else Q false m3
  | _ => False
theorem gt_chain {a b c : Expr} {da db dc : DE} {pos : Pos} {op op' : CmpOp} {r r' : R2} {d d' : D2} (ho : OpR X (compareOp op) r) (ho' : OpR X (compareOp op') r') (hl : LR X.K r d) (hl' : LR X.K r' d') (ha : GE X a da) (hb : GE X b db) (hc : GE X c dc) (hm : lastMarks [op, op'] [b, c] = false := by rfl) :
    GT X (.Compare a [op, op'] [b, c] pos) (dChain d d' da db dc) := by
  obtain ⟨ta, p, l⟩ := ha.ex
  obtain ⟨tb, q, l2⟩ := hb.ex
  obtain ⟨tc, q2, l3⟩ := hc.ex
  refine .of ⟨_, pt_chain ho ho' p q q2 hm, fun s H sd m Qd Q rs rm h k => ?_⟩
  refine l s H sd m _ _ rs rm h fun x H1 dx m1 t1 rm1 r1 h1 => ?_
  refine l2 s H1 sd m1 _ _ (rs.mono t1) rm1 h1 fun y H2 dy m2 t2 rm2 r2 h2 => ?_
  refine hl x y H2 dx dy m2 _ _ rm2 (r1.mono t2) r2 h2 fun z H3 dz m3 t3 rm3 r3 h3 => ?_
  cases r3 with
  | bl b =>
    refine ⟨b, rfl, ?_⟩
    cases b with
    | true =>
      have h3 : dc sd m3 _ := h3
      refine l3 s H3 sd m3 _ _ (rs.mono (t1.trans (t2.trans t3))) rm3 h3 fun u H4 du m4 t4 rm4 r4 h4 => ?_
      refine hl' y u H4 dy du m4 _ _ rm4 (r2.mono (t3.trans t4)) r4 h4 fun z' H5 dz' m5 t5 rm5 r5 h5 => ?_
      cases r5 with
      | bl b' => exact ⟨b', rfl, k b' H5 m5 (t1.trans (t2.trans (t3.trans (t4.trans t5)))) rm5 h5⟩
      | _ => exact h5.elim
    | false => exact ⟨false, rfl, k false H3 m3 (t1.trans (t2.trans t3)) rm3 h3⟩
  | _ => exact h3.elim
end
end PD

set_option Elab.async false
set_option linter.all false
set_option maxRecDepth 100000
set_option maxHeartbeats 4000000
/-! enumerate(text) -/
namespace PySem
open Sem (wp)
theorem pd_meets_enumS (x : Str) (t : Tok) :
    Meets (Builtin.«enumerate.__new__» ⟨[.type "enumerate", .str x t], []⟩) (fun _ R s =>
      R (.ok (.ret (.ref (s.heap.push { cls := .type (strIterType x), data := .fields #[.str x t, .int 0 0] }).objs.size)))
        { s with heap := (s.heap.push { cls := .type (strIterType x), data := .fields #[.str x t, .int 0 0] }).push { cls := .type "enumerate", data := .fields #[.none, .bool false, .ref s.heap.objs.size, rawInt 0, .none, .none] } }) :=
  .of_wp fun pg9 w A R s h => by
    obtain ⟨hp, g, d, tk9, os9⟩ := s
    have hsub := sub_enumerate
    wp_walk using wpAny_pyIter_strU
    refine wpAny_stack_any fun st => wpAny_pure ?_
    split
    · rename_i c _ _ _ _ _
      cases (c == Value.type "enumerate")
      · wp_walk using wpAny_pyIter_strU
        exact ⟨_, rfl, h⟩
      · wp_walk using wpAny_pyIter_strU
        exact ⟨_, rfl, h⟩
    · wp_walk using wpAny_pyIter_strU
      exact ⟨_, rfl, h⟩
section
variable {pg9 : Program} {w : World} {A : Around} {E : Value → Shared → Prop} {s : Shared}
theorem pd_call_enumS {x : Str} {t : Tok} {Q : Value → Shared → Prop}
    (h : ∀ h', IsEnum h' (s.heap.objs.size + 1) s.heap.objs.size 0 .none → h'.IsStrIter s.heap.objs.size (strIterType x) x t 0 → h'.objs.size = s.heap.objs.size + 2 →
      (∀ b o, s.heap.get? b = some o → h'.get? b = some o) → Q (.ref (s.heap.objs.size + 1)) { s with heap := h' }) :
    wpAny (model pg9 w) A (call (.type "enumerate") [.str x t]) Q E s := by
  refine callType_new F.called_enumerate (by decide) (F.typeCall_enumerate_1 _) (F.newCall_enumerate_1 _) (fun obj => F.args_object_init_2 obj _) F.entry_enumerate_new
    (pd_meets_enumS x t) ?_
  have hs9 : (s.heap.push { cls := .type (strIterType x), data := .fields #[.str x t, .int 0 0] }).objs.size = s.heap.objs.size + 1 := Heap.size_push ..
  show _ ∧ _
  rw [hs9]
  have ea9 : IsEnum ((s.heap.push { cls := .type (strIterType x), data := .fields #[.str x t, .int 0 0] }).push
      { cls := .type "enumerate", data := .fields #[.none, .bool false, .ref s.heap.objs.size, rawInt 0, .none, .none] }) (s.heap.objs.size + 1) s.heap.objs.size 0 .none := by
    have := Heap.get?_push_size (s.heap.push { cls := .type (strIterType x), data := .fields #[.str x t, .int 0 0] })
      (o := { cls := .type "enumerate", data := .fields #[.none, .bool false, .ref s.heap.objs.size, rawInt 0, .none, .none] }) rfl
    rw [hs9] at this; exact this
  refine ⟨⟨_, ea9, rfl⟩, h _ ea9 ⟨_, Heap.get?_push_of_some _ (Heap.get?_push_size _ rfl), rfl, rfl⟩ (by rw [Heap.size_push, hs9]) fun b o x => Heap.get?_push_of_some _ (Heap.get?_push_of_some _ x)⟩
end
end PySem
namespace PD
open PySem PySem.Spec PyProof.Rows L2
def Ites (x : Str) : It :=
  ⟨fun i _ => i < x.cps.size, fun i H v H' => ∃ T c, v = .ref T ∧ H T = none ∧ x.cps[i]? = some c ∧ H' = upd H T (.tup [.int (i : Nat), .str ⟨#[c]⟩]), fun i _ => x.cps.size ≤ i⟩
theorem turn_enumS {P : Program} {w : World} {K : PySem.W.Frag} {elts : List Expr} {kk : Nat} {tpos : Pos} (x : Str) (t : Tok) (e jt9 : Addr) :
    Turn P w K (.Tuple elts kk tpos) (Ites x) [e, jt9] e (fun i h => (∃ ol9, IsEnum h e jt9 ((i : Nat) : Int) ol9) ∧ h.IsStrIter jt9 (strIterType x) x t i ∧ e ≠ jt9 ∧ i ≤ x.cps.size) where
  mem := by simp
  obj := fun i h st b hb => by
    obtain ⟨⟨ol9, ea9⟩, ⟨o, oa9, ca9, da9⟩, _⟩ := st
    have ee9 : b = e ∨ b = jt9 := by simpa using hb
    rcases ee9 with z | z
    · rw [z]; exact ⟨_, ea9, fun v q => nomatch q⟩
    · rw [z]; exact ⟨o, oa9, fun v q => by rw [da9] at q; cases q⟩
  keep := fun i h h' st k => let ⟨⟨ol9, ea9⟩, ⟨o, oa9, r⟩, na9⟩ := st; ⟨⟨ol9, k e (by simp) _ ea9⟩, ⟨o, k jt9 (by simp) o oa9, r⟩, na9⟩
  item := by
    intro X hP hw hK ca9 i pz s τ H E I fa9 st hg
    subst hP hw hK
    obtain ⟨⟨ol9, ea9⟩, ia9, na9, li9⟩ := st
    have ka9 : e < s.heap.objs.size := Heap.lt_size ea9
    have la9 : jt9 < s.heap.objs.size := by obtain ⟨_, q, _⟩ := ia9; exact Heap.lt_size q
    have hd1 : X.A.in1.handled = none := I.ok.hd ca9
    have Dr := Draws.text (prog := X.prog) (w := X.w) (A := X.A.in1) hd1 jt9 x t
    refine wpAny_pyNext_enum_itemD Dr ea9 ia9 hg na9 (fun z => na9 (by simpa using z)) fun y h' tk9 hy oa9 st' hT za9 ga9 => ?_
    obtain ⟨c, u, hc, rfl⟩ := hy
    refine ⟨_, rfl, wpAny_letOwnedTupleGo_enum (s := { s with heap := h', toks := tk9 + 1 }) oa9 fun h'' he' sb => ?_⟩
    have hT2 : h''.get? s.heap.objs.size = some { cls := .type "tuple", data := .seq #[.int i tk9, .str ⟨#[c]⟩ u] } := (sb.2 _ (Nat.ne_of_gt ka9)).trans hT
    have nw9 : ObjOk X.prog X.w (upd H s.heap.objs.size (.tup [.int (i : Nat), .str ⟨#[c]⟩])) h'' s.heap.objs.size (.tup [.int (i : Nat), .str ⟨#[c]⟩]) :=
      ⟨by show 2 ≤ sizeLine; decide, [.int i tk9, .str ⟨#[c]⟩ u], .cons ⟨_, rfl⟩ (.cons ⟨_, rfl⟩ .nil), ⟨_, hT2, rfl, _, rfl⟩⟩
    have iA : Inv X pz τ (upd H s.heap.objs.size (.tup [.int (i : Nat), .str ⟨#[c]⟩])) { s with heap := h'', toks := tk9 + 1 } :=
      I.turnedNew (ch := [e, jt9]) (fun b ob hb q => (sb.2 b (fun z => hb (by simp [z]))).trans (ga9 b ob (fun z => hb (by simp [z])) (fun z => hb (by simp [z])) q)) fa9 (Nat.le_refl _) nw9
    refine ⟨.ref s.heap.objs.size, _, iA, rfl, ⟨_, c, rfl, I.hok.fresh (Nat.le_refl _), hc, rfl⟩, ⟨⟨.str ⟨#[c]⟩ u, ?_⟩, ?_, na9, hg⟩, fun b hb => ?_⟩
    · have e1 : ((i + 1 : Nat) : Int) = (i : Int) + 1 := by omega
      rw [e1]; exact he'
    · obtain ⟨o, q, r⟩ := st'
      exact ⟨o, (sb.2 jt9 (Ne.symm na9)).trans q, r⟩
    · have bb9 : b < s.heap.objs.size := by
        have ee9 : b = e ∨ b = jt9 := by simpa using hb
        rcases ee9 with z | z
        · rw [z]; exact ka9
        · rw [z]; exact la9
      rw [upd_ne (Nat.ne_of_lt bb9)]
      exact (fa9 b hb).1
  done := by
    intro X hP hw hK ca9 i pz s τ H E I fa9 st hg
    subst hP hw hK
    obtain ⟨⟨ol9, ea9⟩, ia9, na9, li9⟩ := st
    obtain ⟨f0, f1, f2, f3, f4, f5⟩ := fa9 jt9 (by simp)
    have hd1 : X.A.in1.handled = none := I.ok.hd ca9
    have Dr := Draws.text (prog := X.prog) (w := X.w) (A := X.A.in1.in1) (by exact hd1) jt9 x t
    have ei : i = x.cps.size := Nat.le_antisymm li9 hg
    subst ei
    unfold pyNext
    refine wpAny_bind (wpAny_attempt (wpAny_callSpecial?_slot (name := Str.ofString "__next__") ⟨_, ea9, rfl⟩ F.slot_enumerate_next
      (wpAny_call_entry F.slot_enumerate_next ⟨_, ea9, rfl⟩ F.entry_enumerate_next ?_ (F.args_enumerate_next_1 _))))
    show wpAny _ _ (field (.ref e) 2 >>= _) _ _ _
    refine wpAny_bind (wpAny_field ea9 rfl (x := .ref jt9) rfl ?_)
    refine wpAny_bind (Draws.done (Draws.text hd1 jt9 x t) _ _ _ ia9 fun h' x he' hx' => ?_)
    obtain ⟨o, oa9, ca9⟩ := hx'
    refine wpAny_bind (wpAny_isInstance (T := "StopIteration") (b := true) ⟨o, oa9, ca9⟩ isSubtype_stop ?_)
    exact wpAny_pure ⟨rfl, I.turned (t' := s.toks) (fun b o hb q => he' b o hb q) f0 f1 f3 f4 f5⟩
  self := fun A i s Q E st h => let ⟨⟨_, ea9⟩, _⟩ := st; wpAny_pyIter_enum ea9 h
def iEnumS (ta : TA) : TI := fun τ H R => ta τ H fun vs H1 => ∃ x, vs = [.str x] ∧ R (Ites x) H1
theorem pi_enumS {X : Cx} {e : Expr} {ta : TA} {pp9 pos tpos : Pos} {elts : List Expr} {kk : Nat} (hg : Gl X "enumerate") (hm : X.mg "enumerate" = none) (ha : PA X [e] ta) (hs : starEach [e] X.env = [(false, eval e X.env)] := by rfl) :
    PI X (.Tuple elts kk tpos) (.Call (.Name "enumerate" pp9) [e] [] pos) (iEnumS ta) := by
  refine ⟨fun pz s τ H R I h => ?_⟩
  refine Call_ (ld_blt I hg hm boot_enumerate (PyProof.Rows.callWith_type1 (thn (ha.run pos pz s τ H _ I h) fun us tA ⟨vs, H1, iA, r1, q1⟩ => ?_) hs rfl))
  obtain ⟨x, ex, q⟩ := q1
  subst ex
  cases r1 with
  | cons r rr =>
    cases rr
    obtain ⟨t, rfl⟩ := r
    have fin : ∀ b ∈ [tA.heap.objs.size + 1, tA.heap.objs.size], FpOk X pz H1 b := fun b hb => by
      have ee9 : b = tA.heap.objs.size + 1 ∨ b = tA.heap.objs.size := by simpa using hb
      have le9 : tA.heap.objs.size ≤ b := by
        rcases ee9 with z | z
        · rw [z]; exact Nat.le_add_right _ _
        · rw [z]; exact Nat.le_refl _
      exact iA.fpOk le9 (iA.hok.fresh le9)
    refine pd_call_enumS fun h' ea9 ia9 za9 ga9 => wpAny_pyIter_enum ea9 ?_
    have iB : Inv X pz τ H1 { tA with heap := h' } := iA.kept (t' := tA.toks) ga9
    exact ⟨tA.heap.objs.size + 1, [tA.heap.objs.size + 1, tA.heap.objs.size], _, _, H1, rfl, iB, turn_enumS x t (tA.heap.objs.size + 1) tA.heap.objs.size, ⟨⟨.none, ea9⟩, ia9, Nat.succ_ne_self _, Nat.zero_le _⟩, fin, q⟩
def dIEnumS (a : DA) : DI := fun s m R => a s m fun ds m1 => match ds with
  | [.str x] => R (enumD 0 (sgn x)) (fun _ => True) m1
  | _ => False
section
variable {X : Cx}
theorem gi_enumS {e : Expr} {p pos tpos : Pos} {elts : List Expr} {kk : Nat} {da : DA} (hg : Gl X "enumerate") (hm : X.mg "enumerate" = none) (ha : GA X [e] da) (hs : starEach [e] X.env = [(false, eval e X.env)] := by rfl) :
    GIE X (.Tuple elts kk tpos) (.Call (.Name "enumerate" p) [e] [] pos) (dIEnumS da) := by
  obtain ⟨ta, q, l⟩ := ha.ex
  refine ⟨_, pi_enumS hg hm q hs, fun s H sd m Rd R rs rm h k => ?_⟩
  refine l s H sd m _ _ rs rm h fun vs H1 ds m1 t1 rm1 r1 h1 => ?_
  match ds, r1, h1 with
  | [.str x], r1, h1 =>
    obtain ⟨v, rfl, rv⟩ := repL1 r1
    cases rv
    have hl : (sgn x).length = x.cps.size := by unfold sgn; rw [List.length_map, Array.length_toList]
    refine ⟨x, rfl, k _ H1 _ (fun _ => True) m1 t1 rm1 ⟨fun i H' m' t' _ _ hi => ?_, fun i H' y H2 m' t' rm' _ _ hy => ?_, fun i H' m' t' _ _ hi => ?_⟩ h1⟩
    · rw [enumD_len, hl] at hi; exact hi
    · obtain ⟨T, c, rfl, hT, hc, rfl⟩ := hy
      exact enum_item rm' hT (show (sgn x)[i]? = some (.str ⟨#[c]⟩) by unfold sgn; rw [List.getElem?_map, Array.getElem?_toList, hc]; rfl) (.str _)
    · rw [enumD_len, hl] at hi; exact hi
end
end PD

set_option Elab.async false
set_option linter.all false
set_option maxRecDepth 100000
set_option maxHeartbeats 4000000
/-! try with several handlers, each with a name or without -/
namespace PD
open PySem PySem.Spec PyProof.Rows L2
inductive Hs (X : Cx) : List ExceptHandler → List (Value × Option Nat × (Addr → Value → Option Addr → TS)) → Prop
  | nil : Hs X [] []
  | one {x : Str} {c : Value} {ts : Addr → Value → Option Addr → TS} {b₀ : Stmt} {su : List Stmt} {np ps : Pos} {hds : List ExceptHandler} {l : List (Value × Option Nat × (Addr → Value → Option Addr → TS))} (hc : Names X x c)
      (hsu : ∀ (a : Addr) (oe : Obj) (cls : Value) (d : Option Addr) (pn : List (Addr × Obj)), Zc cls d oe → (∃ vs, oe.data = .fields vs) → PSs (X.suite a ((a, oe) :: pn)) (b₀ :: su) (ts a cls d)) (r : Hs X hds l) :
      Hs X (.ExceptHandler (some (.Name x np)) none (b₀ :: su) ps :: hds) ((c, none, ts) :: l)
  | as {x n : Str} {c : Value} {i : Nat} {ts : Addr → Value → Option Addr → TS} {b₀ : Stmt} {su : List Stmt} {np ps : Pos} {hds : List ExceptHandler} {l : List (Value × Option Nat × (Addr → Value → Option Addr → TS))} (hN : X.N.Nodup) (hi : X.N[i]? = some n) (hln : X.env.kindOf n = some .local) (hc : Names X x c)
      (hsu : ∀ (a : Addr) (oe : Obj) (cls : Value) (d : Option Addr) (pn : List (Addr × Obj)), Zc cls d oe → (∃ vs, oe.data = .fields vs) → PSs (X.suite a ((a, oe) :: pn)) (b₀ :: su) (ts a cls d)) (r : Hs X hds l) :
      Hs X (.ExceptHandler (some (.Name x np)) (some n) (b₀ :: su) ps :: hds) ((c, some i, ts) :: l)
def offE (i : Nat) (D : Ends) : Ends := { nx := fun σ H => D.nx (σ.set i none) H, rt := D.rt, bk := fun σ H => D.bk (σ.set i none) H, ct := fun σ H => D.ct (σ.set i none) H }
def wHs (K : PySem.W.Frag) (Wout : WX) (D : Ends) : List (Value × Option Nat × (Addr → Value → Option Addr → TS)) → WX
  | [] => Wout
  | (c, none, ts) :: l => fun cls d σ H => ∃ b, PySem.W.exmOne K cls c = some b ∧ (b = true → ∀ a, H a = none → ts a cls d D σ H) ∧ (b = false → wHs K Wout D l cls d σ H)
  | (c, some i, ts) :: l => fun cls d σ H => ∃ b, PySem.W.exmOne K cls c = some b ∧ (b = true → ∀ a, H a = none → ts a cls d (offE i D) (σ.set i (some (.ref a))) H) ∧ (b = false → wHs K Wout D l cls d σ H)
theorem ps_try_hs {X : Cx} {body : List Stmt} {h₀ : ExceptHandler} {hds : List ExceptHandler} {l : List (Value × Option Nat × (Addr → Value → Option Addr → TS))} {pos : Pos} {tb : WX → TS} {Wout : WX} (hs : X.stack = X.env :: X.outer) (hf : X.env.frame = some X.env.locals) (tk : Takes X Wout)
    (hb : ∀ (W : WX) (pn : List (Addr × Obj)) (xe : Value → Shared → Prop), Takes (X.tr pn xe) W → PassesOwn (model X.prog X.w) X.A X.env xe → PSs (X.tr pn xe) body (tb W)) (hh : Hs X (h₀ :: hds) l) :
    PS X (.Try body (h₀ :: hds) [] [] pos) fun D σ H => tb (wHs X.K Wout D l) D σ H := by
  refine ⟨fun pins s σ H D I h => ?_⟩
  have ok := I.ok
  have hfr := ok.frames
  rw [hs] at hfr
  refine wpAny_Try_except (wpAny_mono ((hb (wHs X.K Wout D l) (X.pn ++ pins) (fun e s₁ => wpAny (model X.prog X.w) X.A (noteFrame e X.env) (fun _ s₂ => wpAny (model X.prog X.w) X.A (setFlight e none) (fun _ s₃ => wpAny (model X.prog X.w) X.A (handleBy e X.env (h₀ :: hds)) (SP X pins D) X.xe s₃) X.xe s₂) X.xe s₁) (fun u s' xx => ?_) PassesOwn.looking).run [] s σ H D (Inv.toTry I _) h) (fun f s1 hsp => ?_) fun e s1 he => he)
  · obtain ⟨a, B, sI, pins', σ', H', cls, d, e, J', nb, up, sky, na, os, ag, w⟩ := xx
    subst e
    have J := Inv.ofTry J' ok
    have sky' : Sky B (X.env :: X.outer) a (Zc cls d) X.env.locals s'.heap := by rw [← hs]; exact sky
    refine Sky.land Zc.steady hfr hf sky' fun h3 fl3 up3 => ?_
    have J3 : L2.Inv X pins σ' H' { s' with heap := h3 } := Inv.landed (s' := { s' with heap := h3 }) J nb fl3.1 (Heap.UpToSlots.trans up up3) os ag
    obtain ⟨oe3, vs3, he3, hz3, hd3⟩ := HandSPX.FlyingZ.there fl3
    have nfr : a ∉ (X.env :: X.outer).filterMap (·.frame) := fun hm => by
      obtain ⟨_, o', e', hnf⟩ := Heap.FunFrames.mem fl3.2.2.1 hm
      rw [he3] at e'
      cases e'
      exact hnf _ hd3
    have nL : a ≠ X.env.locals := fun z => nfr (List.mem_filterMap.mpr ⟨X.env, List.mem_cons_self, by rw [hf, z]⟩)
    have nF : a ∉ X.outer.filterMap (·.frame) := fun hm => by
      obtain ⟨e, he, q⟩ := List.mem_filterMap.mp hm
      exact nfr (List.mem_filterMap.mpr ⟨e, List.mem_cons_of_mem _ he, q⟩)
    have S3 := Inv.suite J3 he3 hd3 na nL nF
    have go : ∀ {hds' : List ExceptHandler} {l' : List (Value × Option Nat × (Addr → Value → Option Addr → TS))}, Hs X hds' l' → wHs X.K Wout D l' cls d σ' H' → wpAny (model X.prog X.w) X.A (handleBy (.ref a) X.env hds') (SP X pins D) X.xe { s' with heap := h3 } := by
      intro hds' l' hk
      induction hk with
      | nil =>
        intro w
        refine wpAny_handleBy_nil ?_
        obtain ⟨k1, k2, k3, oe, vs, T, oT, ts', he, hz, hd, h1, hr⟩ := id fl3
        refine wpAny_bind (wpAny_field he hd h1 ?_)
        rw [if_neg (by simp)]
        have fin : wpAny (model X.prog X.w) X.A (setFlight (.ref a) X.env.frame) (fun _ s4 => wpAny (model X.prog X.w) X.A (throw (.ref a)) (SP X pins D) X.xe s4) X.xe { s' with heap := h3 } := by
          rw [hf]
          exact HandSPX.setFlight_upZ fl3 fun h4 hh4 up4 => wpAny_throw (tk (.ref a) _ ⟨a, B, sI, pins, σ', H', cls, d, rfl, J, nb, Heap.UpToSlots.trans (Heap.UpToSlots.trans up up3) up4, .inr (.inr (by rw [hs]; exact hh4)), na, os, ag, w⟩)
        exact wpAny_bind fin
      | @one x c ts b₀ su np ps hds l hc hsu r ih =>
        rintro ⟨b, hb1, hyes, hno⟩
        refine wpAny_handleBy_cons (codeAny_handlers_test ?_) (fun q => by cases q)
        have LM := PySem.W.exm_one (M := model X.prog X.w) (c := c) (Inv.kIn J3) (fun A Q E s k q => wpAny_typeOf_ref (k a oe3 he3) (by rw [hz3.1]; exact q)) hb1
        have cont : ∀ {Q : Value → Shared → Prop} {E : Value → Shared → Prop} {pos : Pos}, Q c { s' with heap := h3 } → wpAny (model X.prog X.w) (X.A.mark (some (.ref a))) (eval (.Name x pos) X.env) Q E { s' with heap := h3 } := fun {Q E pos} q => by
          obtain ⟨hg, hdbg, hm | ⟨hm, hv, hnn⟩⟩ := hc
          · exact ld_glob S3 hg hm q hdbg
          · exact ld_blt S3 hg hm hv q hnn hdbg
        refine cont (PySem.W.Looks.here LM ?_)
        cases b with
        | false => exact ih (hno rfl)
        | true =>
          refine codeAny_handlers_suite (HandSPX.lands_againZ fl3 fun h4 fl4 up4 => ?_)
          have J4 : L2.Inv X pins σ' H' { s' with heap := h4 } := Inv.landed (s' := { s' with heap := h4 }) J nb fl4.1 (Heap.UpToSlots.trans (Heap.UpToSlots.trans up up3) up4) os ag
          obtain ⟨oe4, vs4, he4, hz4, hd4⟩ := HandSPX.FlyingZ.there fl4
          have S4 := Inv.suite J4 he4 hd4 na nL nF
          refine wpAny_mono ((hsu a oe4 cls d (X.pn ++ pins) hz4 ⟨vs4, hd4⟩).run [] _ σ' H' D S4 (hyes rfl a na)) (fun f s6 hsp => ?_) fun _ _ z => z.elim
          cases f with
          | ret u => obtain ⟨v6, σ6, H6, S6, r6, q6⟩ := hsp; exact ⟨v6, σ6, H6, Inv.unsuite S6 ok, r6, q6⟩
          | _ => obtain ⟨σ6, H6, S6, q6⟩ := hsp; exact ⟨σ6, H6, Inv.unsuite S6 ok, q6⟩
      | @as x n c i ts b₀ su np ps hds l hN hi hln hc hsu r ih =>
        rintro ⟨b, hb1, hyes, hno⟩
        refine wpAny_handleBy_cons (codeAny_handlers_test ?_) (fun q => by cases q)
        have LM := PySem.W.exm_one (M := model X.prog X.w) (c := c) (Inv.kIn J3) (fun A Q E s k q => wpAny_typeOf_ref (k a oe3 he3) (by rw [hz3.1]; exact q)) hb1
        have cont : ∀ {Q : Value → Shared → Prop} {E : Value → Shared → Prop} {pos : Pos}, Q c { s' with heap := h3 } → wpAny (model X.prog X.w) (X.A.mark (some (.ref a))) (eval (.Name x pos) X.env) Q E { s' with heap := h3 } := fun {Q E pos} q => by
          obtain ⟨hg, hdbg, hm | ⟨hm, hv, hnn⟩⟩ := hc
          · exact ld_glob S3 hg hm q hdbg
          · exact ld_blt S3 hg hm hv q hnn hdbg
        refine cont (PySem.W.Looks.here LM ?_)
        cases b with
        | false => exact ih (hno rfl)
        | true =>
          refine codeAny_handlers_suite_as (HandSPX.lands_againZ fl3 fun h4 fl4 up4 => ?_)
          have J4 : L2.Inv X pins σ' H' { s' with heap := h4 } := Inv.landed (s' := { s' with heap := h4 }) J nb fl4.1 (Heap.UpToSlots.trans (Heap.UpToSlots.trans up up3) up4) os ag
          obtain ⟨oe4, vs4, he4, hz4, hd4⟩ := HandSPX.FlyingZ.there fl4
          have S4 := Inv.suite J4 he4 hd4 na nL nF
          refine store_ok (X := X.suite a ((a, oe4) :: (X.pn ++ pins))) (v := .ref a) S4 hN hi (Or.inl hln) rfl (fun s5 S5 => wpAny_mono ((hsu a oe4 cls d (X.pn ++ pins) hz4 ⟨vs4, hd4⟩).run [] s5 (σ'.set i (some (.ref a))) H' (offE i D) S5 (hyes rfl a na)) (fun f s6 hsp => ?_) fun _ _ z => z.elim) (Or.inr hln)
          have end_ : ∀ {σ6 : L2.St} {H6 : Hp} {Q : Unit → Shared → Prop} {E : Value → Shared → Prop} {ps : Pos}, L2.Inv (X.suite a ((a, oe4) :: (X.pn ++ pins))) [] σ6 H6 s6 → (∀ s7, L2.Inv X pins (σ6.set i none) H6 s7 → Q () s7) → wpAny (model X.prog X.w) X.A (do bindName X.env n .none; unbindBehindTheSuite X.env n ps) Q E s6 := fun {σ6 H6 Q E ps} S6 hq => gone_ok (Inv.unsuite S6 ok) hN hi hln hq
          cases f with
          | ret u => obtain ⟨v6, σ6, H6, S6, r6, q6⟩ := hsp; exact end_ S6 fun s7 J7 => ⟨v6, _, H6, J7, r6, q6⟩
          | _ => obtain ⟨σ6, H6, S6, q6⟩ := hsp; exact end_ S6 fun s7 J7 => ⟨_, H6, J7, q6⟩
    exact go hh w
  · cases f with
    | next => obtain ⟨σ', H', J', q⟩ := hsp; exact wpAny_execs_nil ⟨σ', H', Inv.ofTry J' ok, q⟩
    | ret u => obtain ⟨v, σ', H', J', r, q⟩ := hsp; exact ⟨v, σ', H', Inv.ofTry J' ok, r, q⟩
    | _ => obtain ⟨σ', H', J', q⟩ := hsp; exact ⟨σ', H', Inv.ofTry J' ok, q⟩
end PD

set_option Elab.async false
set_option linter.all false
set_option maxRecDepth 100000
set_option maxHeartbeats 4000000
namespace PD
open PySem PySem.Spec PyProof.Rows L2
/-! min and max of three; no error is let out -/
def min3 (i j k : Int) : Int := min (min i j) k
def max3 (i j k : Int) : Int := max (max i j) k
def dMin3 : DC := fun ds m Q => match ds with
  | [.int i, .int j, .int k] => Q (.int (min3 i j k)) m
  | _ => False
def dMax3 : DC := fun ds m Q => match ds with
  | [.int i, .int j, .int k] => Q (.int (max3 i j k)) m
  | _ => False
theorem nuLt_i (i j : Int) : nuLt (.int i) (.int j) = some (decide (i < j)) := rfl
theorem nuMin3_i (i j k : Int) : nuMin3 (.int i) (.int j) (.int k) = some (.int (min3 i j k)) := by
  unfold nuMin3 nuMin2 min3
  rw [nuLt_i, Option.map_some, Option.bind_some]
  by_cases c : j < i
  · rw [decide_eq_true c, if_pos rfl, nuLt_i, Option.map_some]
    by_cases c2 : k < j
    · rw [decide_eq_true c2, if_pos rfl]; congr 2; omega
    · rw [decide_eq_false c2, if_neg Bool.false_ne_true]; congr 2; omega
  · rw [decide_eq_false c, if_neg Bool.false_ne_true, nuLt_i, Option.map_some]
    by_cases c2 : k < i
    · rw [decide_eq_true c2, if_pos rfl]; congr 2; omega
    · rw [decide_eq_false c2, if_neg Bool.false_ne_true]; congr 2; omega
theorem nuMax3_i (i j k : Int) : nuMax3 (.int i) (.int j) (.int k) = some (.int (max3 i j k)) := by
  unfold nuMax3 nuMax2 max3
  rw [nuLt_i, Option.map_some, Option.bind_some]
  by_cases c : i < j
  · rw [decide_eq_true c, if_pos rfl, nuLt_i, Option.map_some]
    by_cases c2 : j < k
    · rw [decide_eq_true c2, if_pos rfl]; congr 2; omega
    · rw [decide_eq_false c2, if_neg Bool.false_ne_true]; congr 2; omega
  · rw [decide_eq_false c, if_neg Bool.false_ne_true, nuLt_i, Option.map_some]
    by_cases c2 : i < k
    · rw [decide_eq_true c2, if_pos rfl]; congr 2; omega
    · rw [decide_eq_false c2, if_neg Bool.false_ne_true]; congr 2; omega
theorem repL3 {K : PySem.W.Frag} {H : Hp} {i j k : Int} {vs : List V} (r : RepL K H [.int i, .int j, .int k] vs) : vs = [.int i, .int j, .int k] := by
  cases r with
  | cons a r =>
    cases a
    cases r with
    | cons b r =>
      cases b
      cases r with
      | cons c r =>
        cases c
        cases r
        rfl
theorem lc_min3 {K : PySem.W.Frag} : LC K (rNuC3 nuMin3) dMin3 := fun vs H ds m Qd Q rm r h k => by
  match ds, r, h with
  | [.int i, .int j, .int l], r, h =>
    obtain rfl := repL3 r
    exact ⟨_, _, _, _, rfl, nuMin3_i i j l, k _ H _ m (.refl H) rm (.int _) h⟩
theorem lc_max3 {K : PySem.W.Frag} : LC K (rNuC3 nuMax3) dMax3 := fun vs H ds m Qd Q rm r h k => by
  match ds, r, h with
  | [.int i, .int j, .int l], r, h =>
    obtain rfl := repL3 r
    exact ⟨_, _, _, _, rfl, nuMax3_i i j l, k _ H _ m (.refl H) rm (.int _) h⟩
theorem dMin3_i {i j k : Int} {m : Mu} {Q : DK} : dMin3 [.int i, .int j, .int k] m Q = Q (.int (min3 i j k)) m := rfl
theorem dMax3_i {i j k : Int} {m : Mu} {Q : DK} : dMax3 [.int i, .int j, .int k] m Q = Q (.int (max3 i j k)) m := rfl
section
variable {X : Cx}
theorem no_tk : Takes X (wX X.K fun _ _ _ => False) := Takes.imp takes0 fun _ _ _ _ ⟨_, _, _, _, h⟩ => h
end
end PD

set_option Elab.async false
set_option linter.all false
set_option maxRecDepth 100000
set_option maxHeartbeats 4000000
/-! x, y = a, b -/
namespace PD
open PySem PySem.Spec PyProof.Rows L2
def dPar (i j : Nat) (da : DA) : DS := fun E s m => da s m fun ds m1 => match ds with
  | [v, w] => E.nx ((s.set i (some v)).set j (some w)) m1
  | _ => False
theorem gs_par {X : Cx} {i j kt k2 : Nat} {x y : Str} {a b : Expr} {px py pt pt2 pos : Pos} {da : DA} (hc : X.calm = true) (hN : X.N.Nodup) (hi : X.N[i]? = some x) (hj : X.N[j]? = some y) (hij : i ≠ j) (hx : X.env.scope.names.lookup x = some .local) (hy : X.env.scope.names.lookup y = some .local) (ha : GA X [a, b] da)
    (hw : swappedStores [.Tuple [.Name x px, .Name y py] kt pt] (.Tuple [a, b] k2 pt2) X.env = pure (some [x, y]) := by rfl) :
    GS X (.Assign [.Tuple [.Name x px, .Name y py] kt pt] (.Tuple [a, b] k2 pt2) pos) (dPar i j da) := by
  obtain ⟨ta, p, l⟩ := ha.ex
  refine ⟨_, ps_par (hc := hc) (hN := hN) (hi := hi) (hj := hj) (hij := hij) (hx := hx) (hy := hy) (hw := hw) (by exact p), fun s H sd m Ed E rs rm h k1 _ _ _ => ?_⟩
  refine l s H sd m _ _ rs rm h fun vs H1 ds m1 t1 rm1 r1 h1 => ?_
  match ds, r1, h1 with
  | [v, w], .cons rv (.cons rw .nil), h1 => exact ⟨_, _, rfl, k1 _ H1 _ m1 t1 (((rs.mono t1).set rv i).set rw j) rm1 h1⟩
end PD

set_option Elab.async false
set_option linter.all false
set_option maxRecDepth 100000
set_option maxHeartbeats 4000000
/-! defs that raise, called by keywords; isinstance of an own error with fields -/
namespace PD
open PySem PySem.Spec PyProof.Rows L2
def dCallPX (n : Nat) (sd : SpX) (si : List Nat) (Ed : DX) (dk : DA) : DE := fun s m Q => dk s m fun ds m1 => ds.length = si.length ∧ si.length = n ∧ sd (si.map fun i => ds.getD i .non) m1 Q Ed
section
variable {X : Cx} {Ed : DX}
theorem ge_callPX {k n : Nat} {f : Addr} {fd : FuncData} {ps ks : List Str} {si : List Nat} {sd : SpX} {x : Str} {p pos : Pos} {kws : List Keyword} {dk : DA} (F : FnOk X.prog X.w X.K X.mg X.base (L2.CX X.prog X.w) k f fd ps (spX X.K n sd)) (tk : Takes X (wX X.K Ed)) (hr : Room k X.A) (hg : Gl X x) (hm : X.mg x = some (.ref f)) (hk : PySem.W.keepIn X.K (.ref f) = true) (hb : KwP X.K fd ps ks si)
    (hkw : GK X kws dk) (hall : (backToKw pos (keywordEach kws X.env)).all (·.1.isSome) = true := by rfl) (hks : (backToKw pos (keywordEach kws X.env)).filterMap (·.1) = ks := by rfl)
    (hdb : (x == ("__debug__" : Str)) = false := by decide) (hpl : ((backTo pos (starEach [] X.env)).any (·.1) || (backToKw pos (keywordEach kws X.env)).any (·.1.isNone)) = false := by rfl) :
    GE X (.Call (.Name x p) [] kws pos) (dCallPX n sd si Ed dk) := by
  obtain ⟨tk1, q, l⟩ := hkw
  have P : PE X (.Call (.Name x p) [] kws pos) (fun τ H Q => tk1 τ H fun zs H2 => spX X.K n sd (gPV si [] zs) H2 Q (WE (wX X.K Ed) [])) := by
    refine ⟨fun pz s τ H Q I h => ?_⟩
    refine wpAny_Call_Name_kw (ld_glob I hg hm ?_ hdb)
    refine PySem.W.callWith_KW0 (h₀ := X.base) I.ok.mod.kin hk hall (thn (q.run pos pz s τ H _ I h) fun ws tB ⟨zs, H2, iB, rz, q2⟩ => ⟨iB.kIn, ?_⟩) hpl
    rw [hks]
    exact run_fnk (us := []) (vs := []) F hr hb (fun pins σ H s e s' I h => passAt tk σ pins H s e s' I h) iB .nil rz q2
  refine .of ⟨_, P, fun s H sd' m Qd Q rs rm h k => ?_⟩
  refine l s H sd' m _ _ rs rm h fun vs H1 ds m1 t1 rm1 r1 h1 => ?_
  have e : gPV si [] vs = si.map fun i => vs.getD i V.non := by unfold gPV; rw [if_pos ⟨rfl, by rw [← r1.length]; exact h1.1⟩]
  rw [e]
  exact ⟨_, m1, Qd, Ed, repl_map r1 si, rm1, ⟨by rw [List.length_map]; exact h1.2.1, h1.2.2⟩, fun v' H' dv' m' t' a b c => k v' H' dv' m' (t1.trans t') a b c, fun cls d H' fs m' a b c => ⟨fs, m', a, b, c⟩⟩
end
end PD
namespace PD
open PySem PySem.Spec PyProof.Rows L2
def rIsEd (K : PySem.W.Frag) (D a : Addr) (d : Option Addr) : List V → Hp → VK → Prop := fun xs H Q => ∃ (c : V) (cv : Value) (b : Bool) (dd : Addr) (vs : List (Str × V)), xs = [.ref a, c] ∧ (∀ u, RelV c u → u = cv) ∧ PySem.W.kitOne K (.ref D) cv = some b ∧ d = some dd ∧ H dd = some (.xd vs) ∧ Q (.bl b) H
theorem call_isEd {X : Cx} {a D : Addr} {oe : Obj} {d : Option Addr} {pn : List (Addr × Obj)} (C : ExcC X.K D) (hc : (PySem.W.clsIn X.K D).isSome = true) (hz : Zc (.ref D) d oe) (hf : ∃ vs, oe.data = .fields vs) :
    CallR (X.suite a ((a, oe) :: pn)) (.builtin "isinstance") (rIsEd X.K D a d) := fun pins s σ H xs us Q I r h => by
  obtain ⟨c, cv, b, dd, vs, rfl, hcv, e, rfl, hd, q⟩ := h
  match us, r with
  | [_, u2], .cons rx (.cons rt .nil) =>
    cases rx
    have ec := hcv u2 rt
    subst ec
    obtain ⟨hget, hH, _⟩ := I.pin (a, oe) (List.mem_append_left _ List.mem_cons_self)
    obtain ⟨vf, hv⟩ := hf
    obtain ⟨o, ho⟩ : ∃ o, s.heap.get? dd = some o := by
      have := I.hok dd _ hd
      unfold L2.ObjOk at this
      obtain ⟨mA, h1, _⟩ := this
      obtain ⟨o, es, ep, h1, _⟩ := h1
      exact ⟨o, h1⟩
    have J : PySem.W.InstAt s.heap a oe D (some o) := ⟨hget, hz.1, by unfold PySem.W.notCls; rw [hv], by rw [hz.2]; exact ho⟩
    exact PySem.W.kia_one (PySem.W.kitx_exc hc C.hg C.hk C.hs C.ha C.hn C.ht C.hm) (show X.K.In s.heap from Inv.kIn (X := X.suite a ((a, oe) :: pn)) I) J e (fun z => nomatch z) fun tk => ⟨.bl b, H, Inv.kept I fun x x_1 z => z, rfl, q⟩
end PD

set_option Elab.async false
set_option linter.all false
set_option maxRecDepth 100000
set_option maxHeartbeats 4000000
/-! a try at the head of a def: what a suite may know, and its body read by data -/
namespace PD
open PySem PySem.Spec PyProof.Rows L2
theorem tx_inv {X : Cx} {pins : List (Addr × Obj)} {σ : L2.St} {H : Hp} {s : Shared} (I : L2.Inv X pins σ H s) : TX X.H_0 H := fun a u i e => by
  cases u with
  | tup xs => exact I.base.tups a xs e
  | frz o u => exact I.base.frzs a o u e
  | _ => exact i.elim
/-- a suite may lean on what never changes since the def began -/
theorem pss_tx {X : Cx} {b : List Stmt} {t : TS} (p : PSs X b t) : PSs X b (fun D σ H => TX X.H_0 H → t D σ H) :=
  ⟨fun pins s σ H D I h => p.run pins s σ H D I (h (tx_inv I))⟩
/-- a reading by data as one of heaps -/
def liftS (K : PySem.W.Frag) (d : DS) : TS := fun E s H => ∃ sd m Ed, RS K H sd s ∧ RM K H m ∧ d Ed sd m ∧
  (∀ s' H' sd' m', TX H H' → RS K H' sd' s' → RM K H' m' → Ed.nx sd' m' → E.nx s' H') ∧
  (∀ v H' dv m', TX H H' → RM K H' m' → Rep K H' dv v → Ed.rt dv m' → E.rt v H') ∧
  (∀ s' H' sd' m', TX H H' → RS K H' sd' s' → RM K H' m' → Ed.bk sd' m' → E.bk s' H') ∧
  ∀ s' H' sd' m', TX H H' → RS K H' sd' s' → RM K H' m' → Ed.ct sd' m' → E.ct s' H'
theorem pss_lift {X : Cx} {b : List Stmt} {d : DS} (g : GSs X b d) : PSs X b (liftS X.K d) := by
  obtain ⟨t, p, l⟩ := g.ex
  exact ⟨fun pins s σ H D I ⟨sd, m, Ed, a, b, c, k1, k2, k3, k4⟩ => p.run pins s σ H D I (l σ H sd m Ed D a b c k1 k2 k3 k4)⟩
/-- the errors that W takes -/
def EdOf (K : PySem.W.Frag) (W : WX) : DX := fun cls fs m => ∀ d σ H, RM K H m → FldR K H fs d → W cls d σ H
theorem takes_ed {X : Cx} {W : WX} (h : Takes X W) : Takes X (wX X.K (EdOf X.K W)) := Takes.imp h fun _ d σ H ⟨_, _, a, b, c⟩ => c d σ H a b
section
variable {P : Program} {w : World} {K : PySem.W.Frag} {mg : Str → Option Value} {base : Heap}
/-- def f(..): try: body except ..: suites; then a return. The body always raises here, one of the errors that the suites read -/
theorem fn_okT {x qual : Str} {st : Stmt} {f : Addr} {fd : FuncData} {N ps : List Str} {k : Nat} {sd : SpD} {db : DX → DS} {body rest : List Stmt} {h₀ : ExceptHandler} {hds : List ExceptHandler} {pos : Pos} {tr : TS}
    (F : Fun K x qual st f fd) (S : FnScope N ps (defScope st)) (hst : defBody st = .Try body (h₀ :: hds) [] [] pos :: rest)
    (hb : ∀ (cdv : Value) (A : Around) (outer : List Env) (s : Shared) (H : Hp) (E : XK) (pn : List (Addr × Obj)) (xe : Value → Shared → Prop) (Ed : DX), Room k (A.deeper (envOfC qual (defScope st) s.heap.objs.size f cdv)) →
      Takes ((cxOf CX0 P w K mg base N qual (defScope st) f cdv A outer s H E).nox.tr pn xe) (wX K Ed) → GSs ((cxOf CX0 P w K mg base N qual (defScope st) f cdv A outer s H E).nox.tr pn xe) body (db Ed))
    (hh : ∀ (cdv : Value) (A : Around) (outer : List Env) (s : Shared) (H : Hp) (E : XK), Room k (A.deeper (envOfC qual (defScope st) s.heap.objs.size f cdv)) →
      ∃ l, Hs (cxOf CX0 P w K mg base N qual (defScope st) f cdv A outer s H E).nox (h₀ :: hds) l ∧ PSs (cxOf CX0 P w K mg base N qual (defScope st) f cdv A outer s H E).nox rest tr ∧
        ∀ ds m Qd (D : Ends), sd ds m Qd → (∀ v H' dv m', TX H H' → RM K H' m' → Rep K H' dv v → Qd dv m' → D.rt v H') → ∀ Ed : DX, (∀ cls fs m', (∀ d σ H', RM K H' m' → FldR K H' fs d → wHs K (fun _ _ _ _ => False) D l cls d σ H') → Ed cls fs m') → db Ed { nx := fun _ _ => False, rt := fun _ _ => False } (startD N ds) m) :
    FnOk P w K mg base CX0 (k + 1) f fd ps (spL K ps.length sd) := by
  refine F.ok S (fun vs H Q E ⟨ds, m, Qd, r, rm, h, _⟩ => by rw [← r.length]; exact h.1) fun cdv A outer s H vs Q E hr ⟨ds, m, Qd, r, rm, ⟨_, h⟩, kq⟩ => ?_
  obtain ⟨l, hl, pr, hd⟩ := hh cdv A outer s H E hr
  rw [hst]
  refine ⟨_, pss_cons (ps_try_hs (tb := fun W => liftS K (db (EdOf K W))) rfl rfl takes0 (fun W pn xe tk _ => pss_lift (hb cdv A outer s H E pn xe _ hr (takes_ed tk))) hl) pr, ?_⟩
  refine ⟨startD N ds, m, { nx := fun _ _ => False, rt := fun _ _ => False }, rs_start r, rm, hd ds m Qd _ h (fun v H' dv m' t a b c => kq v H' dv m' t a b c) _ (fun cls fs m' hw => hw), ?_, ?_, ?_, ?_⟩
  · intro _ _ _ _ _ _ _ h; exact h.elim
  · intro _ _ _ _ _ _ _ h; exact h.elim
  · intro _ _ _ _ _ _ _ h; exact h.elim
  · intro _ _ _ _ _ _ _ h; exact h.elim
end
end PD

set_option Elab.async false
set_option linter.all false
set_option maxRecDepth 100000
set_option maxHeartbeats 4000000
namespace K78
open PySem PySem.Spec PyProof.Rows L2 PD
def topS (i : Nat) : Stmt := PySem.Challenge.pw_chooseonce_k78_whole_shelf_by_all_ways.main.body.getD i (.Pass ⟨0, 0, 0, 0⟩)
abbrev s_has_only : Stmt := topS 6
abbrev N_has_only : List Str := ["word", "characters", "character"]
theorem sc_has_only : FnScope N_has_only ["word", "characters"] (defScope s_has_only) := ⟨rfl, rfl, rfl, by decide +kernel, rfl, by decide +kernel, by decide +kernel⟩
abbrev s_distance : Stmt := topS 8
abbrev N_distance : List Str := ["signs", "one", "other", "gap", "change", "costs", "sign", "grown", "many", "place", "wanted", "turned"]
theorem sc_distance : FnScope N_distance ["signs", "one", "other", "gap", "change"] (defScope s_distance) := ⟨rfl, rfl, rfl, by decide +kernel, rfl, by decide +kernel, by decide +kernel⟩
abbrev s_longest : Stmt := topS 9
abbrev N_longest : List Str := ["signs", "one", "other", "lengths", "sign", "grown", "place", "wanted", "alike"]
theorem sc_longest : FnScope N_longest ["signs", "one", "other"] (defScope s_longest) := ⟨rfl, rfl, rfl, by decide +kernel, rfl, by decide +kernel, by decide +kernel⟩
abbrev s_nested : Stmt := topS 10
abbrev N_nested : List Str := ["signs", "words", "text", "most", "width", "start"]
theorem sc_nested : FnScope N_nested ["signs", "words", "text"] (defScope s_nested) := ⟨rfl, rfl, rfl, by decide +kernel, rfl, by decide +kernel, by decide +kernel⟩
abbrev s__most_within : Stmt := topS 11
abbrev N__most_within : List Str := ["words", "text", "start", "end", "most", "found", "place"]
theorem sc__most_within : FnScope N__most_within ["words", "text", "start", "end", "most"] (defScope s__most_within) := ⟨rfl, rfl, rfl, by decide +kernel, rfl, by decide +kernel, by decide +kernel⟩
abbrev s__check_rows : Stmt := topS 12
abbrev N__check_rows : List Str := ["signs", "rows", "row", "text"]
theorem sc__check_rows : FnScope N__check_rows ["signs", "rows"] (defScope s__check_rows) := ⟨rfl, rfl, rfl, by decide +kernel, rfl, by decide +kernel, by decide +kernel⟩
abbrev s__law_tape : Stmt := topS 14
abbrev N__law_tape : List Str := ["_law_script", "_law_state", "_law_great", "_law_cell"]
theorem sc__law_tape : FnScope N__law_tape ["_law_script"] (defScope s__law_tape) := ⟨rfl, rfl, rfl, by decide +kernel, rfl, by decide +kernel, by decide +kernel⟩
abbrev s__law_draw : Stmt := topS 15
abbrev N__law_draw : List Str := ["_law_tape_here", "_law_many", "_law_cell"]
theorem sc__law_draw : FnScope N__law_draw ["_law_tape_here", "_law_many"] (defScope s__law_draw) := ⟨rfl, rfl, rfl, by decide +kernel, rfl, by decide +kernel, by decide +kernel⟩
abbrev s__law_signs : Stmt := topS 16
abbrev N__law_signs : List Str := ["_law_tape_here", "_law_left", "_law_signs_here", "_law_k", "_law_at"]
theorem sc__law_signs : FnScope N__law_signs ["_law_tape_here"] (defScope s__law_signs) := ⟨rfl, rfl, rfl, by decide +kernel, rfl, by decide +kernel, by decide +kernel⟩
abbrev s__law_text : Stmt := topS 17
abbrev N__law_text : List Str := ["_law_tape_here", "_law_signs_here", "_law_most", "_law_size", "_law_k"]
theorem sc__law_text : FnScope N__law_text ["_law_tape_here", "_law_signs_here", "_law_most"] (defScope s__law_text) := ⟨rfl, rfl, rfl, by decide +kernel, rfl, by decide +kernel, by decide +kernel⟩
abbrev s__law_costs : Stmt := topS 18
abbrev N__law_costs : List Str := ["_law_tape_here", "_law_pick", "_law_gap", "_law_near"]
theorem sc__law_costs : FnScope N__law_costs ["_law_tape_here"] (defScope s__law_costs) := ⟨rfl, rfl, rfl, by decide +kernel, rfl, by decide +kernel, by decide +kernel⟩
abbrev s__law_rows_of_places : Stmt := topS 19
abbrev N__law_rows_of_places : List Str := ["_law_text_here", "_law_found", "_law_at", "_law_row"]
theorem sc__law_rows_of_places : FnScope N__law_rows_of_places ["_law_text_here"] (defScope s__law_rows_of_places) := ⟨rfl, rfl, rfl, by decide +kernel, rfl, by decide +kernel, by decide +kernel⟩
abbrev s__law_distance : Stmt := topS 20
abbrev N__law_distance : List Str := ["_law_one", "_law_other", "_law_gap", "_law_change", "_law_best", "_law_firsts", "_law_seconds", "_law_first", "_law_second", "_law_unlike", "_law_k"]
theorem sc__law_distance : FnScope N__law_distance ["_law_one", "_law_other", "_law_gap", "_law_change"] (defScope s__law_distance) := ⟨rfl, rfl, rfl, by decide +kernel, rfl, by decide +kernel, by decide +kernel⟩
abbrev s__law_longest : Stmt := topS 21
abbrev N__law_longest : List Str := ["_law_one", "_law_other", "_law_texts", "_law_best", "_law_row", "_law_at"]
theorem sc__law_longest : FnScope N__law_longest ["_law_one", "_law_other"] (defScope s__law_longest) := ⟨rfl, rfl, rfl, by decide +kernel, rfl, by decide +kernel, by decide +kernel⟩
abbrev s__law_nested : Stmt := topS 22
abbrev N__law_nested : List Str := ["_law_words_here", "_law_text_here", "_law_found", "_law_right", "_law_grown", "_law_pairs", "_law_left", "_law_free", "_law_crossed", "_law_pair"]
theorem sc__law_nested : FnScope N__law_nested ["_law_words_here", "_law_text_here"] (defScope s__law_nested) := ⟨rfl, rfl, rfl, by decide +kernel, rfl, by decide +kernel, by decide +kernel⟩
abbrev s__law_words : Stmt := topS 23
abbrev N__law_words : List Str := ["_law_tape_here", "_law_signs_here", "_law_words_here", "_law_k", "_law_word"]
theorem sc__law_words : FnScope N__law_words ["_law_tape_here", "_law_signs_here"] (defScope s__law_words) := ⟨rfl, rfl, rfl, by decide +kernel, rfl, by decide +kernel, by decide +kernel⟩
abbrev s__law_number : Stmt := topS 24
abbrev N__law_number : List Str := ["_law_found", "_law_due"]
theorem sc__law_number : FnScope N__law_number ["_law_found", "_law_due"] (defScope s__law_number) := ⟨rfl, rfl, rfl, by decide +kernel, rfl, by decide +kernel, by decide +kernel⟩
abbrev s__law_bad : Stmt := topS 25
abbrev N__law_bad : List Str := ["_law_tape_here", "_law_signs_here", "_law_other", "_law_strange", "_law_text_here", "_law_at", "_law_values", "_law_letter"]
theorem sc__law_bad : FnScope N__law_bad ["_law_tape_here", "_law_signs_here"] (defScope s__law_bad) := ⟨rfl, rfl, rfl, by decide +kernel, rfl, by decide +kernel, by decide +kernel⟩
abbrev s__law_refused : Stmt := topS 26
abbrev N__law_refused : List Str := ["_law_which", "_law_signs_here", "_law_words_here", "_law_one", "_law_other", "_law_costs_here", "e"]
theorem sc__law_refused : FnScope N__law_refused ["_law_which", "_law_signs_here", "_law_words_here", "_law_one", "_law_other", "_law_costs_here"] (defScope s__law_refused) := ⟨rfl, rfl, rfl, by decide +kernel, rfl, by decide +kernel, by decide +kernel⟩
abbrev s__law_let : Stmt := topS 27
abbrev N__law_let : List Str := ["_law_which", "_law_signs_here", "_law_words_here", "_law_one", "_law_other", "_law_costs_here", "_law_due", "_law_told"]
theorem sc__law_let : FnScope N__law_let ["_law_which", "_law_signs_here", "_law_words_here", "_law_one", "_law_other", "_law_costs_here", "_law_due"] (defScope s__law_let) := ⟨rfl, rfl, rfl, by decide +kernel, rfl, by decide +kernel, by decide +kernel⟩
abbrev s__law_long : Stmt := topS 28
abbrev N__law_long : List Str := ["_law_tape_here", "_law_signs_here", "_law_costs_here", "_law_many", "_law_few", "_law_one", "_law_other", "_law_due", "_law_text_here", "_law_within", "_law_sides", "_law_words_here", "_law_k", "_law_sign"]
theorem sc__law_long : FnScope N__law_long ["_law_tape_here", "_law_signs_here", "_law_costs_here"] (defScope s__law_long) := ⟨rfl, rfl, rfl, by decide +kernel, rfl, by decide +kernel, by decide +kernel⟩
abbrev s_law : Stmt := topS 29
abbrev N_law : List Str := ["_law_script", "_law_tape_here", "_law_signs_here", "_law_most", "_law_one", "_law_other", "_law_words_here", "_law_lap", "_law_text_here", "_law_back", "_law_word", "_law_bad_here", "_law_which", "_law_side", "_law_costs_here", "_law_fine", "_law_at"]
theorem sc_law : FnScope N_law ["_law_script"] (defScope s_law) := ⟨rfl, rfl, rfl, by decide +kernel, rfl, by decide +kernel, by decide +kernel⟩
def iniS (i j : Nat) : Stmt := match topS i with | .ClassDef _ _ _ body _ _ _ _ _ _ _ => body.getD j (.Pass ⟨0, 0, 0, 0⟩) | _ => .Pass ⟨0, 0, 0, 0⟩
abbrev si_BadRows : Stmt := iniS 4 0
theorem sci_BadRows : FnScope ["self", "row"] ["self", "row"] (defScope si_BadRows) := ⟨rfl, rfl, rfl, by decide +kernel, rfl, by decide +kernel, by decide +kernel⟩
structure Txt (K : PySem.W.Frag) (mg : Str → Option Value) where
  c_BadRows : Addr
  oe_BadRows : OexC K c_BadRows
  no_BadRows : ∀ n ∈ (["row"] : List Str), PySem.W.findIn K (.ref c_BadRows) n = some none
  fi_BadRows : Addr
  fdi_BadRows : FuncData
  ic_BadRows : PySem.W.findIn K (.ref c_BadRows) "__init__" = some (some (.ref fi_BadRows))
  ti_BadRows : PySem.W.typeIn K (.ref fi_BadRows) = some (.type "function")
  Fi_BadRows : Fun K "__init__" "BadRows.__init__" si_BadRows fi_BadRows fdi_BadRows
  gc_BadRows : mg "BadRows" = some (.ref c_BadRows)
  f_has_only : Addr
  fd_has_only : FuncData
  F_has_only : Fun K "has_only" "has_only" s_has_only f_has_only fd_has_only
  g_has_only : mg "has_only" = some (.ref f_has_only)
  f_distance : Addr
  fd_distance : FuncData
  F_distance : Fun K "distance" "distance" s_distance f_distance fd_distance
  g_distance : mg "distance" = some (.ref f_distance)
  f_longest : Addr
  fd_longest : FuncData
  F_longest : Fun K "longest" "longest" s_longest f_longest fd_longest
  g_longest : mg "longest" = some (.ref f_longest)
  f_nested : Addr
  fd_nested : FuncData
  F_nested : Fun K "nested" "nested" s_nested f_nested fd_nested
  g_nested : mg "nested" = some (.ref f_nested)
  f__most_within : Addr
  fd__most_within : FuncData
  F__most_within : Fun K "_most_within" "_most_within" s__most_within f__most_within fd__most_within
  g__most_within : mg "_most_within" = some (.ref f__most_within)
  f__check_rows : Addr
  fd__check_rows : FuncData
  F__check_rows : Fun K "_check_rows" "_check_rows" s__check_rows f__check_rows fd__check_rows
  g__check_rows : mg "_check_rows" = some (.ref f__check_rows)
  f__law_tape : Addr
  fd__law_tape : FuncData
  F__law_tape : Fun K "_law_tape" "_law_tape" s__law_tape f__law_tape fd__law_tape
  g__law_tape : mg "_law_tape" = some (.ref f__law_tape)
  f__law_draw : Addr
  fd__law_draw : FuncData
  F__law_draw : Fun K "_law_draw" "_law_draw" s__law_draw f__law_draw fd__law_draw
  g__law_draw : mg "_law_draw" = some (.ref f__law_draw)
  f__law_signs : Addr
  fd__law_signs : FuncData
  F__law_signs : Fun K "_law_signs" "_law_signs" s__law_signs f__law_signs fd__law_signs
  g__law_signs : mg "_law_signs" = some (.ref f__law_signs)
  f__law_text : Addr
  fd__law_text : FuncData
  F__law_text : Fun K "_law_text" "_law_text" s__law_text f__law_text fd__law_text
  g__law_text : mg "_law_text" = some (.ref f__law_text)
  f__law_costs : Addr
  fd__law_costs : FuncData
  F__law_costs : Fun K "_law_costs" "_law_costs" s__law_costs f__law_costs fd__law_costs
  g__law_costs : mg "_law_costs" = some (.ref f__law_costs)
  f__law_rows_of_places : Addr
  fd__law_rows_of_places : FuncData
  F__law_rows_of_places : Fun K "_law_rows_of_places" "_law_rows_of_places" s__law_rows_of_places f__law_rows_of_places fd__law_rows_of_places
  g__law_rows_of_places : mg "_law_rows_of_places" = some (.ref f__law_rows_of_places)
  f__law_distance : Addr
  fd__law_distance : FuncData
  F__law_distance : Fun K "_law_distance" "_law_distance" s__law_distance f__law_distance fd__law_distance
  g__law_distance : mg "_law_distance" = some (.ref f__law_distance)
  f__law_longest : Addr
  fd__law_longest : FuncData
  F__law_longest : Fun K "_law_longest" "_law_longest" s__law_longest f__law_longest fd__law_longest
  g__law_longest : mg "_law_longest" = some (.ref f__law_longest)
  f__law_nested : Addr
  fd__law_nested : FuncData
  F__law_nested : Fun K "_law_nested" "_law_nested" s__law_nested f__law_nested fd__law_nested
  g__law_nested : mg "_law_nested" = some (.ref f__law_nested)
  f__law_words : Addr
  fd__law_words : FuncData
  F__law_words : Fun K "_law_words" "_law_words" s__law_words f__law_words fd__law_words
  g__law_words : mg "_law_words" = some (.ref f__law_words)
  f__law_number : Addr
  fd__law_number : FuncData
  F__law_number : Fun K "_law_number" "_law_number" s__law_number f__law_number fd__law_number
  g__law_number : mg "_law_number" = some (.ref f__law_number)
  f__law_bad : Addr
  fd__law_bad : FuncData
  F__law_bad : Fun K "_law_bad" "_law_bad" s__law_bad f__law_bad fd__law_bad
  g__law_bad : mg "_law_bad" = some (.ref f__law_bad)
  f__law_refused : Addr
  fd__law_refused : FuncData
  F__law_refused : Fun K "_law_refused" "_law_refused" s__law_refused f__law_refused fd__law_refused
  g__law_refused : mg "_law_refused" = some (.ref f__law_refused)
  f__law_let : Addr
  fd__law_let : FuncData
  F__law_let : Fun K "_law_let" "_law_let" s__law_let f__law_let fd__law_let
  g__law_let : mg "_law_let" = some (.ref f__law_let)
  f__law_long : Addr
  fd__law_long : FuncData
  F__law_long : Fun K "_law_long" "_law_long" s__law_long f__law_long fd__law_long
  g__law_long : mg "_law_long" = some (.ref f__law_long)
  f_law : Addr
  fd_law : FuncData
  F_law : Fun K "law" "law" s_law f_law fd_law
  g_law : mg "law" = some (.ref f_law)
  z_all : mg "all" = none
  z_enumerate : mg "enumerate" = none
  z_min : mg "min" = none
  z_range : mg "range" = none
  z_len : mg "len" = none
  z_max : mg "max" = none
  z_isinstance : mg "isinstance" = none
  z_str : mg "str" = none
  z_int : mg "int" = none
  z_abs : mg "abs" = none
  z_tuple : mg "tuple" = none
  z_bool : mg "bool" = none
theorem Txt.b_has_only {K : PySem.W.Frag} {mg : Str → Option Value} (T : Txt K mg) : Binds K T.fd_has_only ["word", "characters"] [] := T.F_has_only.binds fun _ _ _ _ _ _ us hl => match us, hl with | [_, _], _ => rfl
theorem Txt.b_distance {K : PySem.W.Frag} {mg : Str → Option Value} (T : Txt K mg) : Binds K T.fd_distance ["signs", "one", "other", "gap", "change"] [] := T.F_distance.binds fun _ _ _ _ _ _ us hl => match us, hl with | [_, _, _, _, _], _ => rfl
theorem Txt.b_longest {K : PySem.W.Frag} {mg : Str → Option Value} (T : Txt K mg) : Binds K T.fd_longest ["signs", "one", "other"] [] := T.F_longest.binds fun _ _ _ _ _ _ us hl => match us, hl with | [_, _, _], _ => rfl
theorem Txt.b_nested {K : PySem.W.Frag} {mg : Str → Option Value} (T : Txt K mg) : Binds K T.fd_nested ["signs", "words", "text"] [] := T.F_nested.binds fun _ _ _ _ _ _ us hl => match us, hl with | [_, _, _], _ => rfl
theorem Txt.b__most_within {K : PySem.W.Frag} {mg : Str → Option Value} (T : Txt K mg) : Binds K T.fd__most_within ["words", "text", "start", "end", "most"] [] := T.F__most_within.binds fun _ _ _ _ _ _ us hl => match us, hl with | [_, _, _, _, _], _ => rfl
theorem Txt.b__check_rows {K : PySem.W.Frag} {mg : Str → Option Value} (T : Txt K mg) : Binds K T.fd__check_rows ["signs", "rows"] [] := T.F__check_rows.binds fun _ _ _ _ _ _ us hl => match us, hl with | [_, _], _ => rfl
theorem Txt.b__law_tape {K : PySem.W.Frag} {mg : Str → Option Value} (T : Txt K mg) : Binds K T.fd__law_tape ["_law_script"] [] := T.F__law_tape.binds fun _ _ _ _ _ _ us hl => match us, hl with | [_], _ => rfl
theorem Txt.b__law_draw {K : PySem.W.Frag} {mg : Str → Option Value} (T : Txt K mg) : Binds K T.fd__law_draw ["_law_tape_here", "_law_many"] [] := T.F__law_draw.binds fun _ _ _ _ _ _ us hl => match us, hl with | [_, _], _ => rfl
theorem Txt.b__law_signs {K : PySem.W.Frag} {mg : Str → Option Value} (T : Txt K mg) : Binds K T.fd__law_signs ["_law_tape_here"] [] := T.F__law_signs.binds fun _ _ _ _ _ _ us hl => match us, hl with | [_], _ => rfl
theorem Txt.b__law_text {K : PySem.W.Frag} {mg : Str → Option Value} (T : Txt K mg) : Binds K T.fd__law_text ["_law_tape_here", "_law_signs_here", "_law_most"] [] := T.F__law_text.binds fun _ _ _ _ _ _ us hl => match us, hl with | [_, _, _], _ => rfl
theorem Txt.b__law_costs {K : PySem.W.Frag} {mg : Str → Option Value} (T : Txt K mg) : Binds K T.fd__law_costs ["_law_tape_here"] [] := T.F__law_costs.binds fun _ _ _ _ _ _ us hl => match us, hl with | [_], _ => rfl
theorem Txt.b__law_rows_of_places {K : PySem.W.Frag} {mg : Str → Option Value} (T : Txt K mg) : Binds K T.fd__law_rows_of_places ["_law_text_here"] [] := T.F__law_rows_of_places.binds fun _ _ _ _ _ _ us hl => match us, hl with | [_], _ => rfl
theorem Txt.b__law_distance {K : PySem.W.Frag} {mg : Str → Option Value} (T : Txt K mg) : Binds K T.fd__law_distance ["_law_one", "_law_other", "_law_gap", "_law_change"] [] := T.F__law_distance.binds fun _ _ _ _ _ _ us hl => match us, hl with | [_, _, _, _], _ => rfl
theorem Txt.b__law_longest {K : PySem.W.Frag} {mg : Str → Option Value} (T : Txt K mg) : Binds K T.fd__law_longest ["_law_one", "_law_other"] [] := T.F__law_longest.binds fun _ _ _ _ _ _ us hl => match us, hl with | [_, _], _ => rfl
theorem Txt.b__law_nested {K : PySem.W.Frag} {mg : Str → Option Value} (T : Txt K mg) : Binds K T.fd__law_nested ["_law_words_here", "_law_text_here"] [] := T.F__law_nested.binds fun _ _ _ _ _ _ us hl => match us, hl with | [_, _], _ => rfl
theorem Txt.b__law_words {K : PySem.W.Frag} {mg : Str → Option Value} (T : Txt K mg) : Binds K T.fd__law_words ["_law_tape_here", "_law_signs_here"] [] := T.F__law_words.binds fun _ _ _ _ _ _ us hl => match us, hl with | [_, _], _ => rfl
theorem Txt.b__law_number {K : PySem.W.Frag} {mg : Str → Option Value} (T : Txt K mg) : Binds K T.fd__law_number ["_law_found", "_law_due"] [] := T.F__law_number.binds fun _ _ _ _ _ _ us hl => match us, hl with | [_, _], _ => rfl
theorem Txt.b__law_bad {K : PySem.W.Frag} {mg : Str → Option Value} (T : Txt K mg) : Binds K T.fd__law_bad ["_law_tape_here", "_law_signs_here"] [] := T.F__law_bad.binds fun _ _ _ _ _ _ us hl => match us, hl with | [_, _], _ => rfl
theorem Txt.b__law_refused {K : PySem.W.Frag} {mg : Str → Option Value} (T : Txt K mg) : Binds K T.fd__law_refused ["_law_which", "_law_signs_here", "_law_words_here", "_law_one", "_law_other", "_law_costs_here"] [] := T.F__law_refused.binds fun _ _ _ _ _ _ us hl => match us, hl with | [_, _, _, _, _, _], _ => rfl
theorem Txt.b__law_let {K : PySem.W.Frag} {mg : Str → Option Value} (T : Txt K mg) : Binds K T.fd__law_let ["_law_which", "_law_signs_here", "_law_words_here", "_law_one", "_law_other", "_law_costs_here", "_law_due"] [] := T.F__law_let.binds fun _ _ _ _ _ _ us hl => match us, hl with | [_, _, _, _, _, _, _], _ => rfl
theorem Txt.b__law_long {K : PySem.W.Frag} {mg : Str → Option Value} (T : Txt K mg) : Binds K T.fd__law_long ["_law_tape_here", "_law_signs_here", "_law_costs_here"] [] := T.F__law_long.binds fun _ _ _ _ _ _ us hl => match us, hl with | [_, _, _], _ => rfl
theorem Txt.b_law {K : PySem.W.Frag} {mg : Str → Option Value} (T : Txt K mg) : Binds K T.fd_law ["_law_script"] [] := T.F_law.binds fun _ _ _ _ _ _ us hl => match us, hl with | [_], _ => rfl
theorem Txt.kp_distance_4_3_2_1_0 {K : PySem.W.Frag} {mg : Str → Option Value} (T : Txt K mg) : KwP K T.fd_distance ["signs", "one", "other", "gap", "change"] ["change", "gap", "other", "one", "signs"] [4, 3, 2, 1, 0] := kw_perm T.F_distance rfl fun _ _ _ _ _ _ ws hl => match ws, hl with | [_, _, _, _, _], _ => rfl
theorem Txt.kp_longest_2_1_0 {K : PySem.W.Frag} {mg : Str → Option Value} (T : Txt K mg) : KwP K T.fd_longest ["signs", "one", "other"] ["other", "one", "signs"] [2, 1, 0] := kw_perm T.F_longest rfl fun _ _ _ _ _ _ ws hl => match ws, hl with | [_, _, _], _ => rfl
theorem Txt.kp_nested_2_1_0 {K : PySem.W.Frag} {mg : Str → Option Value} (T : Txt K mg) : KwP K T.fd_nested ["signs", "words", "text"] ["text", "words", "signs"] [2, 1, 0] := kw_perm T.F_nested rfl fun _ _ _ _ _ _ ws hl => match ws, hl with | [_, _, _], _ => rfl
theorem Txt.ini_BadRows {P : Program} {w : World} {K : PySem.W.Frag} {mg : Str → Option Value} {base : Heap} (T : Txt K mg) : FnOk P w K mg base CX0 1 T.fi_BadRows T.fdi_BadRows ["self", "row"] (iniSp K ["row"]) := ini_one T.Fi_BadRows sci_BadRows fun _ _ _ _ _ _ => pss_one (ps_ost (pv 0) (pv 1))
theorem Txt.bi_BadRows {K : PySem.W.Frag} {mg : Str → Option Value} (T : Txt K mg) : Binds K T.fdi_BadRows ["self", "row"] [] := T.Fi_BadRows.binds fun _ _ _ _ _ _ us hl => match us, hl with | [_, _], _ => rfl
end K78

set_option Elab.async false
set_option linter.all false
set_option maxRecDepth 100000
set_option maxHeartbeats 4000000
set_option exponentiation.threshold 20000
namespace K78
open PySem PySem.Spec PyProof.Rows L2 PD
local macro_rules | `(tactic| walk_at "pd") => `(tactic| simp (config := { decide := true, maxSteps := 400000 }) only [dIStr, dInSg, dJoin, dSlS, dUpper, dChain, dDNewT, dDGetT, dDPutT, dMin3_i, dMax3_i, dCallX, dRaise, dSeq, dSet, dAsg, dgN, dRet, dRetN, dIfS, dFor, dLoop, dDrop, dNext, dVar, dC, dNil, dCons, dOp, dUn, dTest, dTru, dAnd, dOr, dNot, dAndV, dOrV, dNotV, dIfE, dTup, dLst, dCB, dCall, dCallP, dBM, dBM0, dLc, dComp, dYes, dgTup, dgCons, dgNil, dgSub, dPart, dNoPart, dAug, dIsi, dEq, dNe, wipeD, endsOf,
  dFrz, dFrzV_i, dFrzV_s, dFrzV_b, dFrzV_n, dFrzV_t, dFrzV_l, dFrzV_r, dAddL_i, dAddL_s, dAddL_t, dAddL_rr, dAddL_rl, dAddL_lr, dAddL_ll, dMulL_i, dMulL_s, dMulL_r, dSlL_v, dSlLV_t, dSlLV_l, dSlLV_r, dMinU_1, dMinU_2, dSumL_1, dSetTx_1, dIx_l, dLen_l, dInG_l, truD_rol, tyD_rol, dInt1_b, dISeqV_l, dLtS_i, dLtS_s, ltP_i, ltP_s, lsq_rol, dDNew, dDGet, dDGet2, dDSetd, dDPut, dSub_i, dInt2_i, dNeg_i, dCmp_i, dIsN_n, dNotN_n, dInG_t, dInG_r, dIx_s, dIx_t, dIx_r, dLen_s, dLen_t, dLen_r, dTuple_1, dList_1, dInt1_i, dRev_v, dRevV_t, dRevV_r, dISeq_v, dISeqV_t, dISeqV_r, dIEnum_v, dIEnumV_t, dIEnumV_r, dPop_0, dPop_i, dAppend_1, dExtend_1, dSub3_i, dIRng1_v, dRng1V_i,
  seqOf_tup, seqOf_rol, seqW_tup, eqK_ss, eqK_ii, eqK_bb, eqK_nn, eqK_ts, eqK_st, eqK_ti, eqK_is, eqK_ns, flatD_str, flatD_int, flatD_bl, flatD_non, isT_NoneType_bool, isT_NoneType_int, isT_NoneType_str, isT_NoneType_tuple, isT_NoneType_list, isT_bool_bool, isT_bool_int, isT_bool_str, isT_bool_tuple, isT_bool_list, isT_int_bool, isT_int_int, isT_int_str, isT_int_tuple, isT_int_list, isT_str_bool, isT_str_int, isT_str_str, isT_str_tuple, isT_str_list, isT_tuple_bool, isT_tuple_int, isT_tuple_str, isT_tuple_tuple, isT_tuple_list, isT_list_bool, isT_list_int, isT_list_str, isT_list_tuple, isT_list_list, isNon_non, isNon_bl, isNon_int, isNon_str, isNon_tup, tyD_non, tyD_bl, tyD_int, tyD_str, tyD_tup, truD_bl, truD_int, truD_tup,
  atI_0, atI_1, atI_2, atI_3, atI_4, atI_m1, atI_m2, atI_m3, Option.some.injEq, exists_eq_left', exists_eq_left, beq_self_eq_true, Bool.not_true, Bool.not_false, if_true, if_false, true_and, and_true, Bool.false_eq_true, ↓reduceIte,
  List.getElem?_cons_zero, List.getElem?_cons_succ, List.set_cons_zero, List.set_cons_succ, List.map_cons, List.map_nil, List.length_cons, List.length_nil, mset_same, mset_mset, List.isEmpty_nil, List.isEmpty_cons, decide_eq_true_eq, beq_iff_eq, seqI_0, List.eraseIdx_cons_zero, List.eraseIdx_cons_succ, ixN_40, ixN_41, ixN_42, ixN_43, Nat.reduceAdd])
local macro_rules | `(tactic| walk_at "ne") => `(tactic| first | assumption | exact Ne.symm (by assumption))
local macro_rules | `(tactic| walk_at "mu") => `(tactic| first | exact mset_same | assumption | exact mset_skip (by walk_at "ne") (by walk_at "mu"))
local macro_rules | `(tactic| walk_at "go") => `(tactic| repeat (first | walk_at "pd" | refine ⟨_, seqOf_ref (by walk_at "mu"), ?_⟩ | refine ⟨⟨_, _, lstOf_ref (by walk_at "mu")⟩, ?_⟩ | refine ⟨_, _, lstOf_ref (by walk_at "mu"), ?_⟩ | refine ⟨(show CMul _ _ from Or.inr ⟨by decide, by decide⟩), ?_⟩ | refine ⟨(show CDiv _ _ from ⟨by decide, by decide⟩), ?_⟩))
local macro_rules | `(tactic| walk_at "w") => `(tactic| try walk_at "pd")
/-! ### the tape: a list of the state and of the list of great numbers -/
def Tp (m : Mu) (a g : Addr) : Prop := ∃ (z : Int) (xs : List Int), m a = some (.lst [.int z, .ref g]) ∧ m g = some (.lst (xs.map .int)) ∧ g ≠ a ∧ xs.length ≤ 63 ∧ 0 ≤ z ∧ z < 2305843009213693951
theorem Tp.keep {m m' : Mu} {a g : Addr} (h : Tp m a g) (ka : ∀ o, m a = some o → m' a = some o) (kg : ∀ o, m g = some o → m' g = some o) : Tp m' a g :=
  let ⟨z, xs, e, f, r⟩ := h; ⟨z, xs, ka _ e, kg _ f, r⟩
theorem Tp.new {m : Mu} {a g p : Addr} {o : MO} (h : Tp m a g) (hp : m p = none) : Tp (mset m p o) a g := h.keep (fun _ e => mset_new hp e) fun _ e => mset_new hp e
theorem Tp.ne {m : Mu} {a g p : Addr} (h : Tp m a g) (hp : m p = none) : p ≠ a ∧ p ≠ g := by
  obtain ⟨_, _, e, f, _⟩ := h
  refine ⟨fun z => ?_, fun z => ?_⟩
  · rw [← z, hp] at e; cases e
  · rw [← z, hp] at f; cases f
theorem Tp.del {m : Mu} {a g p : Addr} (h : Tp m a g) (h1 : p ≠ a) (h2 : p ≠ g) : Tp (mdel m p) a g := h.keep (fun _ e => by rw [mdel_ne (Ne.symm h1)]; exact e) fun _ e => by rw [mdel_ne (Ne.symm h2)]; exact e
theorem Tp.setp {m : Mu} {a g p : Addr} {o : MO} (h : Tp m a g) (h1 : p ≠ a) (h2 : p ≠ g) : Tp (mset m p o) a g := h.keep (fun _ e => by rw [mset_ne (Ne.symm h1)]; exact e) fun _ e => by rw [mset_ne (Ne.symm h2)]; exact e
/-- nothing but the tape has changed; g' is the list of great numbers behind it -/
structure Off2 (a g g' : Addr) (m m' : Mu) : Prop where
  kp : ∀ x o, x ≠ a → x ≠ g → m x = some o → m' x = some o
  gn : g' = g ∨ m g' = none
  al : ∀ x, m' x = none → m x = none
theorem Off2.refl (a g : Addr) (m : Mu) : Off2 a g g m m := ⟨fun _ _ _ _ e => e, .inl rfl, fun _ h => h⟩
theorem mset_none {m : Mu} {p x : Addr} {o : MO} (h : mset m p o x = none) : m x = none ∧ x ≠ p := by
  have hx : x ≠ p := fun e => by rw [e, mset_same] at h; cases h
  exact ⟨by rw [mset_ne hx] at h; exact h, hx⟩
theorem Off2.trans {a g g1 g2 : Addr} {m m1 m2 : Mu} (h : Off2 a g g1 m m1) (T : Tp m1 a g1) (k : Off2 a g1 g2 m1 m2) : Off2 a g g2 m m2 := by
  refine ⟨fun x o u n e => k.kp x o u (fun z => ?_) (h.kp x o u n e), ?_, fun x e => h.al x (k.al x e)⟩
  · rcases h.gn with c | c
    · exact n (z.trans c)
    · rw [z, c] at e; cases e
  · rcases k.gn with c | c
    · rw [c]; exact h.gn
    · exact .inr (h.al _ c)
/-- a new address -/
theorem Off2.new {a g g' p : Addr} {m m' : Mu} {o : MO} (h : Off2 a g g' m m') (hp : m' p = none) : Off2 a g g' m (mset m' p o) :=
  ⟨fun x u n1 n2 e => mset_new hp (h.kp x u n1 n2 e), h.gn, fun x e => h.al x (mset_none e).1⟩
/-- one that was not there before -/
theorem Off2.set {a g g' p : Addr} {m m' : Mu} {o : MO} (h : Off2 a g g' m m') (hp : m p = none) : Off2 a g g' m (mset m' p o) :=
  ⟨fun x u n1 n2 e => by
    have : x ≠ p := fun z => by rw [z, hp] at e; cases e
    rw [mset_ne this]; exact h.kp x u n1 n2 e, h.gn, fun x e => h.al x (mset_none e).1⟩
theorem Off2.del {a g g' p : Addr} {m m' : Mu} (h : Off2 a g g' m m') (hp : m p = none) : Off2 a g g' m (mdel m' p) :=
  ⟨fun x u n1 n2 e => by
    have : x ≠ p := fun z => by rw [z, hp] at e; cases e
    rw [mdel_ne this]; exact h.kp x u n1 n2 e, h.gn, fun x e => by
    by_cases z : x = p
    · rw [z]; exact hp
    · rw [mdel_ne z] at e; exact h.al x e⟩
theorem Off2.ng {a g g' p : Addr} {m m' : Mu} (h : Off2 a g g' m m') (n : p ≠ g) (hp : ∃ o, m p = some o) : p ≠ g' := fun e => by
  rcases h.gn with c | c
  · exact n (e.trans c)
  · obtain ⟨o, hp⟩ := hp
    rw [e, c] at hp; cases hp
section
variable {P : Program} {w : World} {K : PySem.W.Frag} {mg : Str → Option Value} {base : Heap}
def sp__law_tape : SpD := fun ds m Q => ∃ ns : List Int, ds = [.rol (ns.map .int)] ∧ ns.length ≤ 63 ∧ ∀ a g m', m a = none → m g = none → PD.Sub m m' → Tp m' a g → Q (.ref a) m'
theorem ok__law_tape  (T : Txt K mg)  : FnOk P w K mg base CX0 (1) T.f__law_tape T.fd__law_tape ["_law_script"] (spL K 1 sp__law_tape) := by
  refine fn_ok T.F__law_tape sc__law_tape (fun cdv A outer s H E hr =>
(gss_cons (gs_set (i := 1) sc__law_tape.nd rfl (.inl rfl) ge_int)
 (gss_cons (gs_set (i := 2) sc__law_tape.nd rfl (.inl rfl) (ge_lst ga_nil))
 (gss_cons (gs_for PassesOwn.never rfl (gi_seq (gv 0)) (gg_name (i := 3) sc__law_tape.nd rfl (.inl rfl))
 (gss_cons (gs_if (gt_cmpR op_ge lr_cmp (gv 3) (ge_op op_pow lr_int2 ge_int ge_int) (nomark _))
 (gss_one (gs_expr (ge_bm PySem.F.slot_list_append PySem.F.type_list_append mt_append lm_append (gv 2) (ga_cons (gv 3) ga_nil))))
 gss_nil)
 (gss_one (gs_set (i := 1) sc__law_tape.nd rfl (.inl rfl) (ge_op op_mod lr_int2 (ge_op op_addL lr_addL (ge_op op_addL lr_addL (ge_op op_mulL lr_mulL (gv 1) ge_int) (ge_op op_mulL lr_mulL (ge_op op_mod lr_int2 (ge_callTy call_int1 lc_int (by rfl) T.z_int (by decide +kernel) (ga_cons (gv 3) ga_nil)) ge_int) ge_int)) ge_int) ge_int)))))
 (gss_one (gs_ret (ge_lst (ga_cons (gv 1) (ga_cons (gv 2) ga_nil))))))))) (fun ds m Q h => ?_)
  obtain ⟨ns, rfl, hl, h⟩ := h
  rw [show startD N__law_tape [.rol (ns.map .int)] = [some (.rol (ns.map .int)), none, none, none] from rfl]
  walk_at "pd"
  intro p hp
  refine loop_inv (fun rem s' m' => ∃ (post big : List Int) (z : Int) (c : Option D), rem = post.map .int ∧ s' = [some (.rol (ns.map .int)), some (.int z), some (.ref p), c] ∧ 0 ≤ z ∧ z < 2305843009213693951 ∧ m' = mset m p (.lst (big.map .int)) ∧ big.length + post.length ≤ 63) ?_ ?_ ⟨ns, [], 780781, none, rfl, rfl, by decide, by decide, rfl, by simpa using hl⟩
  · rintro d rem s' m' R hR ⟨post, big, z, c, e1, rfl, z0, z1, rfl, hb⟩
    cases post with
    | nil => cases e1
    | cons n post =>
      rw [List.map_cons] at e1
      injection e1 with e1 e2
      subst e1
      have hlb : (big.map D.int).length < sizeLine := by rw [List.length_map]; rw [List.length_cons] at hb; exact Nat.lt_of_lt_of_le (by omega : _ < 64) (by decide)
      refine ⟨trivial, ?_⟩
      walk_at "pd"
      refine ⟨⟨by decide, by decide, by decide⟩, ?_⟩
      by_cases hc : (10 : Int) ^ Int.toNat 18 ≤ n
      · rw [if_pos hc]
        refine ⟨⟨_, _, lstOf_ref mset_same⟩, _, _, lstOf_ref mset_same, hlb, .inl ⟨by omega, by omega⟩, .inr ⟨by decide, by decide⟩, hR _ _ ⟨post, big ++ [n], _, _, e2, rfl, Int.emod_nonneg _ (by decide), Int.lt_trans (Int.emod_lt_of_pos _ (by decide)) (by decide), ?_, ?_⟩⟩
        · rw [mset_mset, List.map_append]; rfl
        · rw [List.length_cons] at hb; rw [List.length_append, List.length_singleton]; omega
      · rw [if_neg hc]
        refine ⟨.inl ⟨by omega, by omega⟩, .inr ⟨by decide, by decide⟩, hR _ _ ⟨post, big, _, _, e2, rfl, Int.emod_nonneg _ (by decide), Int.lt_trans (Int.emod_lt_of_pos _ (by decide)) (by decide), rfl, ?_⟩⟩
        rw [List.length_cons] at hb; omega
  · rintro s' m' ⟨post, big, z, c, e1, rfl, z0, z1, rfl, hb⟩
    refine ⟨trivial, ?_⟩
    walk_at "pd"
    intro q hq
    have hqp : q ≠ p := fun e => by rw [e, mset_same] at hq; cases hq
    have hqm : m q = none := by rw [mset_ne hqp] at hq; exact hq
    refine sub_refl_fin (h q p _ hqm hp (PD.Sub.new' (PD.Sub.new hp) hqm) ⟨z, big, mset_same, ?_, hqp.symm, by omega, z0, z1⟩)
    rw [mset_ne hqp.symm]; exact mset_same
theorem cut_one {α : Type} (x : α) (xs : List α) : PD.cutD (x :: xs) (some 1) none = xs := by
  unfold PD.cutD
  rw [HT.sIx_none, show (1 : Int) = ((1 : Nat) : Int) from rfl, HT.sIx_nat, List.length_cons, Nat.min_eq_left (by omega), List.drop_one, List.tail_cons, List.take_of_length_le (by omega)]
theorem ixN_s0 (k : Nat) : ixN (k + 1) 0 = some 0 := by unfold ixN; rw [if_pos (by decide)]; rw [if_pos (by omega)]; rfl
theorem cdw {x n : Int} (h : 0 < n) (h2 : n ≤ 1000000000000) : CDivW x n := by
  refine ⟨h, (Nat.log2_lt (by omega)).mpr (Nat.lt_of_lt_of_le (by omega : n.natAbs < 1000000000001) (Nat.le_trans (by decide : _ ≤ 2 ^ 40) (Nat.pow_le_pow_right (by decide) (by decide))))⟩
def sp__law_draw : SpD := fun ds m Q => ∃ (a g : Addr) (n : Int), ds = [.ref a, .int n] ∧ 0 < n ∧ n ≤ 1000000000000 ∧ Tp m a g ∧ ∀ (r : Int) m' g', 0 ≤ r → r < n → Off2 a g g' m m' → Tp m' a g' → Q (.int r) m'
theorem ok__law_draw  (T : Txt K mg)  : FnOk P w K mg base CX0 (1) T.f__law_draw T.fd__law_draw ["_law_tape_here", "_law_many"] (spL K 2 sp__law_draw) := by
  refine fn_ok T.F__law_draw sc__law_draw (fun cdv A outer s H E hr =>
(gss_cons (gs_if (gt_cmpR (op_gtS hr.units) lr_gtP (ge_callB call_lenU lc_len (by rfl) T.z_len PySem.boot_len (ga_cons (ge_ix (gv 0) ge_int) ga_nil)) ge_int (nomark _))
 (gss_cons (gs_set (i := 2) sc__law_draw.nd rfl (.inl rfl) (ge_ix (ge_ix (gv 0) ge_int) ge_int))
 (gss_cons (gs_asg (ge_op op_fdivW lr_int2 (gv 2) (gv 1)) (gg_sub (ge_ix (gv 0) ge_int) ge_int))
 (gss_cons (gs_if (gt_cmpR (op_eqS hr.units) lr_eq (ge_op op_fdivW lr_int2 (gv 2) (gv 1)) ge_int (nomark _))
 (gss_one (gs_asg (ge_sliceL (ge_ix (gv 0) ge_int) (go_some ge_int) go_none) (gg_sub (gv 0) ge_int)))
 gss_nil)
 (gss_one (gs_ret (ge_frz (ge_op op_mod lr_int2 (ge_callTy call_int1 lc_int (by rfl) T.z_int (by decide +kernel) (ga_cons (gv 2) ga_nil)) (gv 1))))))))
 gss_nil)
 (gss_cons (gs_asg (ge_op op_mod lr_int2 (ge_op op_addL lr_addL (ge_op op_mulL lr_mulL (ge_ix (gv 0) ge_int) ge_int) ge_int) ge_int) (gg_sub (gv 0) ge_int))
 (gss_one (gs_ret (ge_frz (ge_op op_mod lr_int2 (ge_op op_fdivW lr_int2 (ge_ix (gv 0) ge_int) ge_int) (gv 1)))))))) (fun ds m Q h => ?_)
  obtain ⟨a, g, n, rfl, hn, hn2, ⟨z, xs, ea, eg, hga, hxl, z0, z1⟩, h⟩ := h
  rw [show startD N__law_draw [.ref a, .int n] = [some (.ref a), some (.int n), none] from rfl]
  walk_at "pd"
  refine ⟨_, seqOf_ref ea, ?_⟩
  walk_at "pd"
  refine ⟨_, seqOf_ref eg, ?_⟩
  cases xs with
  | nil =>
    rw [if_neg (by decide)]
    refine ⟨_, seqOf_ref ea, ?_⟩
    walk_at "pd"
    refine ⟨.inl ⟨by omega, by omega⟩, _, _, lstOf_ref ea, 0, rfl, _, seqOf_ref mset_same, ?_⟩
    walk_at "pd"
    have z0' : 0 ≤ (z * 2862933555777941757 + 78078079) % 2305843009213693907 := Int.emod_nonneg _ (by decide)
    have z1' : (z * 2862933555777941757 + 78078079) % 2305843009213693907 < 2305843009213693951 := Int.lt_trans (Int.emod_lt_of_pos _ (by decide)) (by decide)
    refine ⟨cdw (by decide) (by decide), hn, sub_refl_fin (h _ _ g (Int.emod_nonneg _ (by omega)) (Int.emod_lt_of_pos _ hn) ⟨fun y o u v e => by rw [mset_ne u]; exact e, .inl rfl, fun x e => (mset_none e).1⟩ ⟨_, [], mset_same, by rw [mset_ne hga]; exact eg, hga, hxl, z0', z1'⟩)⟩
  | cons x xs =>
    rw [if_pos (by rw [List.map_cons, List.length_cons]; omega)]
    refine ⟨_, seqOf_ref ea, ?_⟩
    walk_at "pd"
    refine ⟨_, seqOf_ref eg, ?_⟩
    walk_at "pd"
    refine ⟨cdw hn hn2, _, seqOf_ref ea, ?_⟩
    walk_at "pd"
    refine ⟨_, _, lstOf_ref eg, 0, ixN_s0 _, cdw hn hn2, ?_⟩
    by_cases c : x / n = 0
    · rw [if_pos c]
      refine ⟨_, seqOf_ref (by rw [mset_ne hga.symm]; exact ea), ?_⟩
      walk_at "pd"
      refine ⟨_, lsq_ref mset_same, fun p hp => ?_⟩
      have hpg : p ≠ g := fun e => by rw [e, mset_same] at hp; cases hp
      have hpm : m p = none := by rw [mset_ne hpg] at hp; exact hp
      have hpa : p ≠ a := fun e => by rw [e, ea] at hpm; cases hpm
      refine ⟨_, _, lstOf_ref (by rw [mset_ne hpa.symm, mset_ne hga.symm]; exact ea), 1, rfl, hn, ?_⟩
      refine sub_refl_fin (h _ _ p (Int.emod_nonneg _ (by omega)) (Int.emod_lt_of_pos _ hn) ⟨fun y o u v e => ?_, .inr hpm, fun x e => (mset_none (mset_none (mset_none e).1).1).1⟩ ⟨z, xs, mset_same, ?_, hpa, by rw [List.length_cons] at hxl; omega, z0, z1⟩)
      · have hy : y ≠ p := fun e2 => by rw [e2, hpm] at e; cases e
        rw [mset_ne u, mset_ne hy, mset_ne v]; exact e
      · rw [mset_ne hpa, mset_same]
        congr 2
        exact cut_one _ _
    · rw [if_neg c]
      refine ⟨hn, sub_refl_fin (h _ _ g (Int.emod_nonneg _ (by omega)) (Int.emod_lt_of_pos _ hn) ⟨fun y o u v e => by rw [mset_ne v]; exact e, .inl rfl, fun x e => (mset_none e).1⟩ ⟨z, (x / n) :: xs, by rw [mset_ne hga.symm]; exact ea, by rw [mset_same]; rfl, hga, hxl, z0, z1⟩)⟩
end
end K78

set_option Elab.async false
set_option linter.all false
set_option maxRecDepth 100000
set_option maxHeartbeats 4000000
namespace K78
open PySem PySem.Spec PyProof.Rows L2 PD
/-! ### texts as lists of their signs -/
def tx (l : List Nat) : Str := ⟨l.toArray⟩
theorem tx_app {a b : List Nat} : tx a ++ tx b = tx (a ++ b) := by
  show Str.append (tx a) (tx b) = _
  unfold Str.append tx; rw [List.append_toArray]
theorem tx_len {l : List Nat} : (tx l).length = l.length := by unfold tx; show l.toArray.size = _; rw [List.size_toArray]
theorem tx_emp : ("" : Str) = tx [] := rfl
theorem tx_is (x : Str) : x = tx x.cps.toList := by unfold tx; cases x; rfl
theorem tx_inj {a b : List Nat} (h : tx a = tx b) : a = b := by
  have := congrArg (fun s : Str => s.cps.toList) h
  simpa [tx] using this
theorem dIx_tx {l : List Nat} {i : Int} {m : Mu} {Q : DK} : dIx (.str (tx l)) (.int i) m Q = (l.length ≤ sizeLine ∧ ∃ c, atI l i = some c ∧ Q (.str (tx [c])) m) := by
  rw [dIx_s, tx_len]; unfold tx; rfl
theorem sgn_tx {l : List Nat} : sgn (tx l) = l.map fun c => .str (tx [c]) := by unfold sgn tx; rfl
theorem cutS_to {l : List Nat} {k : Nat} : cutS (tx l) none (some (k : Int)) = tx (l.take k) := by
  unfold cutS
  rw [HT.sIx_none, HT.sIx_nat, List.drop_zero, Nat.sub_zero, tx_len]
  unfold tx
  congr 2
  show List.take (min k l.length) l = _
  by_cases h : k ≤ l.length
  · rw [Nat.min_eq_left h]
  · rw [Nat.min_eq_right (by omega), List.take_length, List.take_of_length_le (by omega)]
theorem cutS_fr {l : List Nat} {k : Nat} : cutS (tx l) (some (k : Int)) none = tx (l.drop k) := by
  unfold cutS
  rw [HT.sIx_none, HT.sIx_nat, tx_len]
  unfold tx
  congr 2
  show List.take (l.length - min k l.length) (List.drop (min k l.length) l) = _
  by_cases h : k ≤ l.length
  · rw [Nat.min_eq_left h, List.take_of_length_le (by rw [List.length_drop]; exact Nat.le_refl _)]
  · rw [Nat.min_eq_right (by omega), List.drop_length, List.take_nil, List.drop_of_length_le (by omega)]
theorem cutS_fr1 {l : List Nat} {k : Nat} : cutS (tx l) (some ((k : Int) + 1)) none = tx (l.drop (k + 1)) := cutS_fr (k := k + 1)
theorem glue_go : ∀ (ls : List (List Nat)) (acc : List Nat), (ls.map tx).foldl (fun (a : Array Nat) p => a ++ (tx []).cps ++ p.cps) acc.toArray = (acc ++ ls.flatten).toArray
  | [], acc => by simp
  | l :: ls, acc => by
    rw [List.map_cons, List.foldl_cons]
    have e : acc.toArray ++ (tx []).cps ++ (tx l).cps = (acc ++ l).toArray := by unfold tx; simp
    rw [e, glue_go ls (acc ++ l), List.flatten_cons, List.append_assoc]
theorem join_tx (ls : List (List Nat)) : Txt.join (tx []) (ls.map tx) = tx ls.flatten := by
  unfold Txt.join Builtin.Str.glued
  cases ls with
  | nil => rfl
  | cons l ls =>
    have := glue_go ls l
    unfold tx at this ⊢
    rw [List.flatten_cons, List.map_cons, List.headD_cons, List.drop_one, List.tail_cons]
    rw [this]
theorem flat_sg : ∀ l : List Nat, (l.map fun c => [c]).flatten = l
  | [] => rfl
  | c :: l => by rw [List.map_cons, List.flatten_cons, flat_sg l]; rfl
theorem join_sg (l : List Nat) : Txt.join (tx []) (l.map fun c => tx [c]) = tx l := by
  have := join_tx (l.map fun c => [c])
  rw [List.map_map, flat_sg] at this
  exact this
theorem dAbs_i {i : Int} {m : Mu} {Q : DK} : dAbs [.int i] m Q = Q (.int (if i < 0 then -i else i)) m := rfl
theorem ten12 : (10 : Int) ^ Int.toNat 12 = 1000000000000 := by decide
theorem ten18 : (10 : Int) ^ Int.toNat 18 = 1000000000000000000 := by decide
end K78

set_option Elab.async false
set_option linter.all false
set_option maxRecDepth 100000
set_option maxHeartbeats 4000000
namespace K78
open PySem PySem.Spec PyProof.Rows L2 PD
local macro_rules | `(tactic| walk_at "pd") => `(tactic| simp (config := { decide := true, maxSteps := 400000 }) only [dAbs_i, ten12, tx_app, tx_len, tx_emp, dIx_tx, sgn_tx, cutS_to, cutS_fr, cutS_fr1, dPar, dIRng2, dIEnumS, dIStr, dInSg, dJoin, dSlS, dUpper, dChain, dDNewT, dDGetT, dDPutT, dMin3_i, dMax3_i, dCallX, dRaise, dSeq, dSet, dAsg, dgN, dRet, dRetN, dIfS, dFor, dLoop, dDrop, dNext, dVar, dC, dNil, dCons, dOp, dUn, dTest, dTru, dAnd, dOr, dNot, dAndV, dOrV, dNotV, dIfE, dTup, dLst, dCB, dCall, dCallP, dBM, dBM0, dLc, dComp, dYes, dgTup, dgCons, dgNil, dgSub, dPart, dNoPart, dAug, dIsi, dEq, dNe, wipeD, endsOf,
  dFrz, dFrzV_i, dFrzV_s, dFrzV_b, dFrzV_n, dFrzV_t, dFrzV_l, dFrzV_r, dAddL_i, dAddL_s, dAddL_t, dAddL_rr, dAddL_rl, dAddL_lr, dAddL_ll, dMulL_i, dMulL_s, dMulL_r, dSlL_v, dSlLV_t, dSlLV_l, dSlLV_r, dMinU_1, dMinU_2, dSumL_1, dSetTx_1, dIx_l, dLen_l, dInG_l, truD_rol, tyD_rol, dInt1_b, dISeqV_l, dLtS_i, dLtS_s, ltP_i, ltP_s, lsq_rol, dDNew, dDGet, dDGet2, dDSetd, dDPut, dSub_i, dInt2_i, dNeg_i, dCmp_i, dIsN_n, dNotN_n, dInG_t, dInG_r, dIx_t, dIx_r, dLen_s, dLen_t, dLen_r, dTuple_1, dList_1, dInt1_i, dRev_v, dRevV_t, dRevV_r, dISeq_v, dISeqV_t, dISeqV_r, dIEnum_v, dIEnumV_t, dIEnumV_r, dPop_0, dPop_i, dAppend_1, dExtend_1, dSub3_i, dIRng1_v, dRng1V_i,
  seqOf_tup, seqOf_rol, seqW_tup, eqK_ss, eqK_ii, eqK_bb, eqK_nn, eqK_ts, eqK_st, eqK_ti, eqK_is, eqK_ns, flatD_str, flatD_int, flatD_bl, flatD_non, isT_NoneType_bool, isT_NoneType_int, isT_NoneType_str, isT_NoneType_tuple, isT_NoneType_list, isT_bool_bool, isT_bool_int, isT_bool_str, isT_bool_tuple, isT_bool_list, isT_int_bool, isT_int_int, isT_int_str, isT_int_tuple, isT_int_list, isT_str_bool, isT_str_int, isT_str_str, isT_str_tuple, isT_str_list, isT_tuple_bool, isT_tuple_int, isT_tuple_str, isT_tuple_tuple, isT_tuple_list, isT_list_bool, isT_list_int, isT_list_str, isT_list_tuple, isT_list_list, isNon_non, isNon_bl, isNon_int, isNon_str, isNon_tup, tyD_non, tyD_bl, tyD_int, tyD_str, tyD_tup, truD_bl, truD_int, truD_tup,
  atI_0, atI_1, atI_2, atI_3, atI_4, atI_m1, atI_m2, atI_m3, Option.some.injEq, exists_eq_left', exists_eq_left, beq_self_eq_true, Bool.not_true, Bool.not_false, if_true, if_false, true_and, and_true, Bool.false_eq_true, ↓reduceIte,
  List.getElem?_cons_zero, List.getElem?_cons_succ, List.set_cons_zero, List.set_cons_succ, List.map_cons, List.map_nil, List.length_cons, List.length_nil, mset_same, mset_mset, List.isEmpty_nil, List.isEmpty_cons, decide_eq_true_eq, beq_iff_eq, seqI_0, List.eraseIdx_cons_zero, List.eraseIdx_cons_succ, ixN_40, ixN_41, ixN_42, ixN_43, Nat.reduceAdd])
local macro_rules | `(tactic| walk_at "ne") => `(tactic| first | assumption | exact Ne.symm (by assumption))
local macro_rules | `(tactic| walk_at "mu") => `(tactic| first | exact mset_same | assumption | exact mset_skip (by walk_at "ne") (by walk_at "mu"))
local macro_rules | `(tactic| walk_at "go") => `(tactic| repeat (first | walk_at "pd" | refine ⟨_, seqOf_ref (by walk_at "mu"), ?_⟩ | refine ⟨⟨_, _, lstOf_ref (by walk_at "mu")⟩, ?_⟩ | refine ⟨_, _, lstOf_ref (by walk_at "mu"), ?_⟩ | refine ⟨(show CMul _ _ from Or.inr ⟨by decide, by decide⟩), ?_⟩ | refine ⟨(show CDiv _ _ from ⟨by decide, by decide⟩), ?_⟩))
local macro_rules | `(tactic| walk_at "w") => `(tactic| try walk_at "pd")
def abc : List Nat := (List.range 26).map (97 + ·)
theorem abc_is : ("abcdefghijklmnopqrstuvwxyz" : Str) = tx abc := by decide +kernel
/-- the signs of a book -/
def SgOk (sg : List Nat) : Prop := 0 < sg.length ∧ sg.length ≤ 6 ∧ ∃ L, (sg ++ L).Perm abc
theorem SgOk.nodup {sg : List Nat} (h : SgOk sg) : sg.Nodup := by
  obtain ⟨_, _, L, hp⟩ := h
  exact (List.nodup_append.mp (hp.nodup_iff.mpr (by decide +kernel))).1
theorem SgOk.abc {sg : List Nat} (h : SgOk sg) {c : Nat} (hc : c ∈ sg) : c ∈ abc := by
  obtain ⟨_, _, L, hp⟩ := h
  exact hp.mem_iff.mp (List.mem_append_left _ hc)
theorem SgOk.other {sg : List Nat} (h : SgOk sg) : ∃ c, c ∈ K78.abc ∧ c ∉ sg := by
  obtain ⟨_, h6, L, hp⟩ := h
  have nd : (sg ++ L).Nodup := hp.nodup_iff.mpr (by decide +kernel)
  cases L with
  | nil =>
    have := hp.length_eq
    rw [List.append_nil] at this
    have e : K78.abc.length = 26 := rfl
    omega
  | cons c L => exact ⟨c, hp.mem_iff.mp (List.mem_append_right _ (List.mem_cons_self ..)), fun hc => (List.nodup_append.mp nd).2.2 c hc c (List.mem_cons_self ..) rfl⟩
theorem comp_drawn {a g g1 : Addr} {sg : List Nat} {m m1 : Mu} {p : Addr} {rest : List (Option D)} {j k : Nat} {Q : DK} (h0 : 0 < sg.length) (h6 : sg.length ≤ 6) (hk : k ≤ 100) (O : Off2 a g g1 m m1) (S : Tp m1 a g1) (hp : m1 p = none)
    (h : ∀ (l : List Nat) m' g', l.length = k → (∀ c ∈ l, c ∈ sg) → Off2 a g g' m m' → Tp m' a g' → m' p = some (.lst (l.map fun c => .str (tx [c]))) → Q (.ref p) m') :
    dComp (fun _ => True) (dgN (j + 2)) dYes (dOp dIx (dVar 1) (dCall 2 sp__law_draw (dCons (dVar 0) (dCons (dCB dLen (dCons (dVar 1) dNil)) dNil)))) p (some (.ref a) :: some (.str (tx sg)) :: rest) Q (rangeD 0 k) [] (mset m1 p (.lst [])) := by
  have hsz : sg.length ≤ sizeLine := Nat.le_trans h6 (by decide)
  have hpm : m p = none := O.al p hp
  have hpa : p ≠ a := (S.ne hp).1
  refine comp_st (fun acc m' => ∃ l g', acc = l.map (fun c => D.str (tx [c])) ∧ (∀ c ∈ l, c ∈ sg) ∧ Off2 a g g' m m' ∧ Tp m' a g' ∧ p ≠ g') (fun _ => trivial) (by rw [rangeD_len]; omega) ?_ ?_ ⟨[], g1, rfl, fun _ h => (List.not_mem_nil h).elim, O.new hp, S.new hp, (S.ne hp).2⟩
  · rintro d hd acc m2 R ⟨l, g2, rfl, hl, O2, S2, n2⟩ ep hR
    walk_at "pd"
    refine ⟨hsz, ?_⟩
    refine ⟨_, _, _, rfl, by omega, by omega, S2, fun r3 m3 g3 r3_0 r3_1 O3 S3 => ?_⟩
    obtain ⟨i, rfl⟩ := Int.eq_ofNat_of_zero_le r3_0
    have hi : i < sg.length := by omega
    walk_at "pd"
    refine ⟨hsz, _, atI_getD hi, hR _ _ ⟨l ++ [sg[i]], g3, by rw [List.map_append]; rfl, fun c hc => ?_, (O2.trans S2 O3).set hpm, S3.setp hpa (O3.ng n2 ⟨_, ep⟩), O3.ng n2 ⟨_, ep⟩⟩ (O3.kp _ _ hpa n2 ep)⟩
    rcases List.mem_append.mp hc with hc | hc
    · exact hl c hc
    · rw [List.mem_singleton.mp hc]; exact List.getElem_mem hi
  · rintro acc m2 e ⟨l, g2, rfl, hl, O2, S2, n2⟩ ep
    exact h l m2 g2 (by rw [List.length_map, rangeD_len] at e; exact e) hl O2 S2 ep
/-- what is drawn put together -/
theorem joined {l : List Nat} {m2 : Mu} {p : Addr} {Q : DK} (hl : l.length ≤ 100) (ep : m2 p = some (.lst (l.map fun c => .str (tx [c])))) (h : Q (.str (tx l)) m2) :
    ∃ ys : List Str, seqOf m2 (.ref p) = some (ys.map .str) ∧ (ys.map (·.length)).sum + ys.length * (tx []).length ≤ 16777216 ∧ ∃ m'', PD.Sub m'' m2 ∧ Q (.str (Txt.join (tx []) ys)) m'' := by
  refine ⟨l.map fun c => tx [c], ?_, ?_, ?_⟩
  · rw [seqOf_ref ep, List.map_map]; rfl
  · rw [List.map_map]
    have e : ∀ l : List Nat, (l.map ((·.length) ∘ fun c => tx [c])).sum = l.length := fun l => by
      induction l with
      | nil => rfl
      | cons c l ih => rw [List.map_cons, List.sum_cons, ih, Function.comp_apply, tx_len, List.length_singleton, List.length_cons]; omega
    rw [e, tx_len, List.length_nil]; omega
  · rw [join_sg]; exact sub_refl_fin h
section
variable {P : Program} {w : World} {K : PySem.W.Frag} {mg : Str → Option Value} {base : Heap}
def sp__law_signs : SpD := fun ds m Q => ∃ (a g : Addr), ds = [.ref a] ∧ Tp m a g ∧ ∀ (sg : List Nat) m' g', SgOk sg → Off2 a g g' m m' → Tp m' a g' → Q (.str (tx sg)) m'
theorem ok__law_signs  (T : Txt K mg) (G__law_draw : FnOk P w K mg base CX0 (1) T.f__law_draw T.fd__law_draw ["_law_tape_here", "_law_many"] (spL K 2 sp__law_draw)) : FnOk P w K mg base CX0 (2) T.f__law_signs T.fd__law_signs ["_law_tape_here"] (spL K 1 sp__law_signs) := by
  refine fn_ok T.F__law_signs sc__law_signs (fun cdv A outer s H E hr =>
(gss_cons (gs_set (i := 1) sc__law_signs.nd rfl (.inl rfl) ge_str)
 (gss_cons (gs_set (i := 2) sc__law_signs.nd rfl (.inl rfl) ge_str)
 (gss_cons (gs_for PassesOwn.never rfl (gi_rng1 (by rfl) T.z_range (ga_cons (ge_ix (ge_tup (ga_cons ge_int (ga_cons ge_int (ga_cons ge_int (ga_cons ge_int (ga_cons ge_int (ga_cons ge_int (ga_cons ge_int (ga_cons ge_int ga_nil))))))))) (ge_call G__law_draw (hr.mono (by omega)) (by rfl) T.g__law_draw T.F__law_draw.kp T.b__law_draw (ga_cons (gv 0) (ga_cons ge_int ga_nil)))) ga_nil)) (gg_name (i := 3) sc__law_signs.nd rfl (.inl rfl))
 (gss_cons (gs_set (i := 4) sc__law_signs.nd rfl (.inl rfl) (ge_call G__law_draw (hr.mono (by omega)) (by rfl) T.g__law_draw T.F__law_draw.kp T.b__law_draw (ga_cons (gv 0) (ga_cons (ge_callB call_lenU lc_len (by rfl) T.z_len PySem.boot_len (ga_cons (gv 1) ga_nil)) ga_nil))))
 (gss_cons (gs_set (i := 2) sc__law_signs.nd rfl (.inl rfl) (ge_op op_addL lr_addL (gv 2) (ge_ix (gv 1) (gv 4))))
 (gss_one (gs_set (i := 1) sc__law_signs.nd rfl (.inl rfl) (ge_op op_addL lr_addL (ge_sliceS (gv 1) go_none (go_some (gv 4))) (ge_sliceS (gv 1) (go_some (ge_op op_addL lr_addL (gv 4) ge_int)) go_none)))))))
 (gss_one (gs_ret (ge_frz (gv 2)))))))) (fun ds m Q h => ?_)
  obtain ⟨a, g, rfl, S0, h⟩ := h
  rw [show startD N__law_signs [.ref a] = [some (.ref a), none, none, none, none] from rfl]
  walk_at "pd"
  refine ⟨_, _, _, rfl, by omega, by omega, S0, fun r1 m1 g1 r1_0 r1_1 O1 S1 => ?_⟩
  walk_at "pd"
  obtain ⟨d, hd, ed⟩ := atI_ex (xs := [D.int 2, .int 2, .int 2, .int 3, .int 3, .int 1, .int 4, .int 6]) r1_0 r1_1
  refine ⟨d, hd, ?_⟩
  obtain ⟨n, rfl, n0, n1⟩ : ∃ n : Nat, d = .int (n : Int) ∧ 1 ≤ n ∧ n ≤ 6 := by
    simp only [List.mem_cons, List.not_mem_nil, or_false] at ed
    rcases ed with e | e | e | e | e | e | e | e <;> rw [e]
    · exact ⟨2, rfl, by decide, by decide⟩
    · exact ⟨2, rfl, by decide, by decide⟩
    · exact ⟨2, rfl, by decide, by decide⟩
    · exact ⟨3, rfl, by decide, by decide⟩
    · exact ⟨3, rfl, by decide, by decide⟩
    · exact ⟨1, rfl, by decide, by decide⟩
    · exact ⟨4, rfl, by decide, by decide⟩
    · exact ⟨6, rfl, by decide, by decide⟩
  rw [dRng1V_i]
  refine ⟨by omega, by omega, ?_⟩
  rw [abc_is, Int.toNat_natCast]
  refine loop_inv (fun rem s' m' => ∃ (S L : List Nat) (g' : Addr) (x y : Option D), rem.length + S.length = n ∧ s' = [some (.ref a), some (.str (tx L)), some (.str (tx S)), x, y] ∧ (S ++ L).Perm abc ∧ Off2 a g g' m m' ∧ Tp m' a g') ?_ ?_ ⟨[], abc, g1, none, none, by rw [rangeD_len]; rfl, rfl, .refl _, O1, S1⟩
  · rintro d rem s' m' R hR ⟨S, L, g', x, y, hn, rfl, hp, O, T1⟩
    rw [List.length_cons] at hn
    have hl : S.length + L.length = 26 := by rw [← List.length_append, hp.length_eq]; rfl
    refine ⟨trivial, ?_⟩
    walk_at "pd"
    refine ⟨Nat.le_trans (by omega : _ ≤ 26) (by decide), ?_⟩
    refine ⟨_, _, _, rfl, by omega, by omega, T1, fun r2 m2 g2 r2_0 r2_1 O2 S2 => ?_⟩
    obtain ⟨k, rfl⟩ := Int.eq_ofNat_of_zero_le r2_0
    have hk : k < L.length := by omega
    walk_at "pd"
    have hs : L.length ≤ sizeLine := Nat.le_trans (by omega : _ ≤ 26) (by decide)
    refine ⟨hs, _, atI_getD hk, ?_⟩
    rw [List.length_take, List.length_drop]
    refine ⟨Nat.le_trans (by omega : _ ≤ 32) (by decide), hs, hs, Nat.le_trans (by omega : _ ≤ 32) (by decide), hR _ _ ⟨S ++ [L[k]], L.take k ++ L.drop (k + 1), g2, _, _, ?_, rfl, ?_, O.trans T1 O2, S2⟩⟩
    · rw [List.length_append, List.length_singleton]; omega
    · refine List.Perm.trans ?_ hp
      have e : L = L.take k ++ L[k] :: L.drop (k + 1) := by rw [← List.drop_eq_getElem_cons hk, List.take_append_drop]
      conv => rhs; rw [e]
      rw [List.append_assoc]
      exact List.Perm.append_left S (List.perm_middle (a := L[k]) (l₁ := L.take k) (l₂ := L.drop (k + 1))).symm
  · rintro s' m' ⟨S, L, g', x, y, hn, rfl, hp, O, T1⟩
    refine ⟨trivial, ?_⟩
    walk_at "pd"
    refine sub_refl_fin (h _ _ g' ⟨?_, ?_, L, hp⟩ O T1)
    · rw [List.length_nil] at hn; omega
    · rw [List.length_nil] at hn; omega
def sp__law_text : SpD := fun ds m Q => ∃ (a g : Addr) (sg : List Nat) (n : Nat), ds = [.ref a, .str (tx sg), .int (n : Int)] ∧ n ≤ 7 ∧ 0 < sg.length ∧ sg.length ≤ 6 ∧ Tp m a g ∧ ∀ (l : List Nat) m' g', l.length ≤ n → (∀ c ∈ l, c ∈ sg) → Off2 a g g' m m' → Tp m' a g' → Q (.str (tx l)) m'
theorem ok__law_text  (T : Txt K mg) (G__law_draw : FnOk P w K mg base CX0 (1) T.f__law_draw T.fd__law_draw ["_law_tape_here", "_law_many"] (spL K 2 sp__law_draw)) : FnOk P w K mg base CX0 (2) T.f__law_text T.fd__law_text ["_law_tape_here", "_law_signs_here", "_law_most"] (spL K 3 sp__law_text) := by
  refine fn_ok T.F__law_text sc__law_text (fun cdv A outer s H E hr =>
(gss_cons (gs_set (i := 3) sc__law_text.nd rfl (.inl rfl) (ge_call G__law_draw (hr.mono (by omega)) (by rfl) T.g__law_draw T.F__law_draw.kp T.b__law_draw (ga_cons (gv 0) (ga_cons (ge_frz (ge_op op_addL lr_addL (gv 2) ge_int)) ga_nil))))
 (gss_cons (gs_if (gt_cmpR (op_gtS hr.units) lr_gtP (ge_call G__law_draw (hr.mono (by omega)) (by rfl) T.g__law_draw T.F__law_draw.kp T.b__law_draw (ga_cons (gv 0) (ga_cons ge_int ga_nil))) ge_int (nomark _))
 (gss_one (gs_set (i := 3) sc__law_text.nd rfl (.inl rfl) (ge_op op_sub lr_sub (gv 2) (ge_call G__law_draw (hr.mono (by omega)) (by rfl) T.g__law_draw T.F__law_draw.kp T.b__law_draw (ga_cons (gv 0) (ga_cons (ge_frz (ge_op op_addL lr_addL (ge_op op_fdivW lr_int2 (gv 2) ge_int) ge_int)) ga_nil))))))
 gss_nil)
 (gss_one (gs_ret (ge_join ge_str (ge_lc (own := [("_law_k", 4)]) rfl sc__law_text.nd (gi_rng1 (by rfl) T.z_range (ga_cons (gv 3) ga_nil)) (blkOk_by (N := N__law_text) (sc := defScope s__law_text) (by decide +kernel)) (fun _ _ _ _ _ => (gg_name (i := 4) sc__law_text.nd rfl (.inl rfl))) (fun _ _ _ _ _ => gts_nil) (fun _ _ _ _ _ => (ge_ix (gv 1) (ge_call G__law_draw (hr.mono (by omega)) (by rfl) T.g__law_draw T.F__law_draw.kp T.b__law_draw (ga_cons (gv 0) (ga_cons (ge_callB call_lenU lc_len (by rfl) T.z_len PySem.boot_len (ga_cons (gv 1) ga_nil)) ga_nil))))) (by decide)))))))) (fun ds m Q h => ?_)
  obtain ⟨a, g, sg, n, rfl, hn, h0, h6, S0, h⟩ := h
  have hsz : sg.length ≤ sizeLine := Nat.le_trans h6 (by decide)
  rw [show startD N__law_text [.ref a, .str (tx sg), .int (n : Int)] = [some (.ref a), some (.str (tx sg)), some (.int (n : Int)), none, none] from rfl]
  walk_at "pd"
  refine ⟨_, _, _, rfl, by omega, by omega, S0, fun r1 m1 g1 r1_0 r1_1 O1 S1 => ?_⟩
  walk_at "pd"
  refine ⟨_, _, _, rfl, by omega, by omega, S1, fun r2 m2 g2 r2_0 r2_1 O2 S2 => ?_⟩
  walk_at "pd"
  by_cases c : 0 < r2
  · rw [if_pos c]
    refine ⟨cdw (by decide) (by decide), ?_⟩
    refine ⟨_, _, _, rfl, by omega, by omega, S2, fun r4 m4 g4 r4_0 r4_1 O4 S4 => ?_⟩
    obtain ⟨i, rfl⟩ := Int.eq_ofNat_of_zero_le r4_0
    walk_at "pd"
    obtain ⟨k, hk⟩ : ∃ k : Nat, (n : Int) - i = k := Int.eq_ofNat_of_zero_le (by omega)
    rw [hk]
    refine ⟨_, rfl, by omega, by omega, fun p hp => ?_⟩
    rw [Int.toNat_natCast]
    refine comp_drawn (j := 2) h0 h6 (by omega) ((O1.trans S1 O2).trans S2 O4) S4 hp fun l m' g' e1 e2 O S ep => joined (by omega) ep (h l m' g' (by omega) e2 O S)
  · rw [if_neg c]
    obtain ⟨k, rfl⟩ := Int.eq_ofNat_of_zero_le r1_0
    refine ⟨_, rfl, by omega, by omega, fun p hp => ?_⟩
    rw [Int.toNat_natCast]
    refine comp_drawn (j := 2) h0 h6 (by omega) (O1.trans S1 O2) S2 hp fun l m' g' e1 e2 O S ep => joined (by omega) ep (h l m' g' (by omega) e2 O S)
end
end K78

set_option Elab.async false
set_option linter.all false
set_option maxRecDepth 100000
set_option maxHeartbeats 4000000
namespace K78
open PySem PySem.Spec PyProof.Rows L2 PD
local macro_rules | `(tactic| walk_at "pd") => `(tactic| simp (config := { decide := true, maxSteps := 400000 }) only [dAbs_i, ten12, tx_app, tx_len, tx_emp, dIx_tx, sgn_tx, cutS_to, cutS_fr, cutS_fr1, dPar, dIRng2, dIEnumS, dIStr, dInSg, dJoin, dSlS, dUpper, dChain, dDNewT, dDGetT, dDPutT, dMin3_i, dMax3_i, dCallX, dRaise, dSeq, dSet, dAsg, dgN, dRet, dRetN, dIfS, dFor, dLoop, dDrop, dNext, dVar, dC, dNil, dCons, dOp, dUn, dTest, dTru, dAnd, dOr, dNot, dAndV, dOrV, dNotV, dIfE, dTup, dLst, dCB, dCall, dCallP, dBM, dBM0, dLc, dComp, dYes, dgTup, dgCons, dgNil, dgSub, dPart, dNoPart, dAug, dIsi, dEq, dNe, wipeD, endsOf,
  dFrz, dFrzV_i, dFrzV_s, dFrzV_b, dFrzV_n, dFrzV_t, dFrzV_l, dFrzV_r, dAddL_i, dAddL_s, dAddL_t, dAddL_rr, dAddL_rl, dAddL_lr, dAddL_ll, dMulL_i, dMulL_s, dMulL_r, dSlL_v, dSlLV_t, dSlLV_l, dSlLV_r, dMinU_1, dMinU_2, dSumL_1, dSetTx_1, dIx_l, dLen_l, dInG_l, truD_rol, tyD_rol, dInt1_b, dISeqV_l, dLtS_i, dLtS_s, ltP_i, ltP_s, lsq_rol, dDNew, dDGet, dDGet2, dDSetd, dDPut, dSub_i, dInt2_i, dNeg_i, dCmp_i, dIsN_n, dNotN_n, dInG_t, dInG_r, dIx_t, dIx_r, dLen_s, dLen_t, dLen_r, dTuple_1, dList_1, dInt1_i, dRev_v, dRevV_t, dRevV_r, dISeq_v, dISeqV_t, dISeqV_r, dIEnum_v, dIEnumV_t, dIEnumV_r, dPop_0, dPop_i, dAppend_1, dExtend_1, dSub3_i, dIRng1_v, dRng1V_i,
  seqOf_tup, seqOf_rol, seqW_tup, eqK_ss, eqK_ii, eqK_bb, eqK_nn, eqK_ts, eqK_st, eqK_ti, eqK_is, eqK_ns, flatD_str, flatD_int, flatD_bl, flatD_non, isT_NoneType_bool, isT_NoneType_int, isT_NoneType_str, isT_NoneType_tuple, isT_NoneType_list, isT_bool_bool, isT_bool_int, isT_bool_str, isT_bool_tuple, isT_bool_list, isT_int_bool, isT_int_int, isT_int_str, isT_int_tuple, isT_int_list, isT_str_bool, isT_str_int, isT_str_str, isT_str_tuple, isT_str_list, isT_tuple_bool, isT_tuple_int, isT_tuple_str, isT_tuple_tuple, isT_tuple_list, isT_list_bool, isT_list_int, isT_list_str, isT_list_tuple, isT_list_list, isNon_non, isNon_bl, isNon_int, isNon_str, isNon_tup, tyD_non, tyD_bl, tyD_int, tyD_str, tyD_tup, truD_bl, truD_int, truD_tup,
  atI_0, atI_1, atI_2, atI_3, atI_4, atI_m1, atI_m2, atI_m3, Option.some.injEq, exists_eq_left', exists_eq_left, beq_self_eq_true, Bool.not_true, Bool.not_false, if_true, if_false, true_and, and_true, Bool.false_eq_true, ↓reduceIte,
  List.getElem?_cons_zero, List.getElem?_cons_succ, List.set_cons_zero, List.set_cons_succ, List.map_cons, List.map_nil, List.length_cons, List.length_nil, mset_same, mset_mset, List.isEmpty_nil, List.isEmpty_cons, decide_eq_true_eq, beq_iff_eq, seqI_0, List.eraseIdx_cons_zero, List.eraseIdx_cons_succ, ixN_40, ixN_41, ixN_42, ixN_43, Nat.reduceAdd])
local macro_rules | `(tactic| walk_at "ne") => `(tactic| first | assumption | exact Ne.symm (by assumption))
local macro_rules | `(tactic| walk_at "mu") => `(tactic| first | exact mset_same | assumption | exact mset_skip (by walk_at "ne") (by walk_at "mu"))
local macro_rules | `(tactic| walk_at "go") => `(tactic| repeat (first | walk_at "pd" | refine ⟨_, seqOf_ref (by walk_at "mu"), ?_⟩ | refine ⟨⟨_, _, lstOf_ref (by walk_at "mu")⟩, ?_⟩ | refine ⟨_, _, lstOf_ref (by walk_at "mu"), ?_⟩ | refine ⟨(show CMul _ _ from Or.inr ⟨by decide, by decide⟩), ?_⟩ | refine ⟨(show CDiv _ _ from ⟨by decide, by decide⟩), ?_⟩))
local macro_rules | `(tactic| walk_at "w") => `(tactic| try walk_at "pd")
section
variable {P : Program} {w : World} {K : PySem.W.Frag} {mg : Str → Option Value} {base : Heap}
def sp__law_costs : SpD := fun ds m Q => ∃ (a g : Addr), ds = [.ref a] ∧ Tp m a g ∧ ∀ (x y : Int) m' g', 0 ≤ x → 0 ≤ y → Off2 a g g' m m' → Tp m' a g' → Q (.tup [.int x, .int y]) m'
theorem ok__law_costs  (T : Txt K mg) (G__law_draw : FnOk P w K mg base CX0 (1) T.f__law_draw T.fd__law_draw ["_law_tape_here", "_law_many"] (spL K 2 sp__law_draw)) : FnOk P w K mg base CX0 (2) T.f__law_costs T.fd__law_costs ["_law_tape_here"] (spL K 1 sp__law_costs) := by
  refine fn_ok T.F__law_costs sc__law_costs (fun cdv A outer s H E hr =>
(gss_cons (gs_set (i := 1) sc__law_costs.nd rfl (.inl rfl) (ge_call G__law_draw (hr.mono (by omega)) (by rfl) T.g__law_draw T.F__law_draw.kp T.b__law_draw (ga_cons (gv 0) (ga_cons ge_int ga_nil))))
 (gss_cons (gs_set (i := 2) sc__law_costs.nd rfl (.inl rfl) (gv 1))
 (gss_cons (gs_if (gt_cmpR (op_gtS hr.units) lr_gtP (gv 1) ge_int (nomark _))
 (gss_one (gs_set (i := 2) sc__law_costs.nd rfl (.inl rfl) (ge_call G__law_draw (hr.mono (by omega)) (by rfl) T.g__law_draw T.F__law_draw.kp T.b__law_draw (ga_cons (gv 0) (ga_cons (ge_frz (ge_op op_pow lr_int2 ge_int ge_int)) ga_nil)))))
 gss_nil)
 (gss_cons (gs_set (i := 3) sc__law_costs.nd rfl (.inl rfl) (ge_ix (ge_tup (ga_cons ge_int (ga_cons ge_int (ga_cons (gv 2) (ga_cons (ge_op op_mulL lr_mulL ge_int (gv 2)) (ga_cons (ge_op op_addL lr_addL (ge_op op_mulL lr_mulL ge_int (gv 2)) ge_int) (ga_cons (ge_callB call_abs lc_abs (by rfl) T.z_abs (by decide +kernel) (ga_cons (ge_op op_sub lr_sub (ge_op op_mulL lr_mulL ge_int (gv 2)) ge_int) ga_nil)) (ga_cons (ge_op op_addL lr_addL (gv 2) ge_int) (ga_cons (ge_call G__law_draw (hr.mono (by omega)) (by rfl) T.g__law_draw T.F__law_draw.kp T.b__law_draw (ga_cons (gv 0) (ga_cons (ge_frz (ge_op op_pow lr_int2 ge_int ge_int)) ga_nil))) ga_nil))))))))) (ge_call G__law_draw (hr.mono (by omega)) (by rfl) T.g__law_draw T.F__law_draw.kp T.b__law_draw (ga_cons (gv 0) (ga_cons ge_int ga_nil)))))
 (gss_one (gs_ret (ge_tup (ga_cons (gv 2) (ga_cons (ge_callB (cr_minU rfl hr.units) lc_minU (by rfl) T.z_min (by decide +kernel) (ga_cons (gv 3) (ga_cons (ge_op op_sub lr_sub (ge_op op_pow lr_int2 ge_int ge_int) ge_int) ga_nil))) ga_nil)))))))))) (fun ds m Q h => ?_)
  obtain ⟨a, g, rfl, S0, h⟩ := h
  rw [show startD N__law_costs [.ref a] = [some (.ref a), none, none, none] from rfl]
  walk_at "pd"
  refine ⟨_, _, _, rfl, by omega, by omega, S0, fun r1 m1 g1 r1_0 r1_1 O1 S1 => ?_⟩
  walk_at "pd"
  have cp : CPow 10 12 := ⟨by decide, by decide, by decide⟩
  by_cases c : 5 < r1
  · rw [if_pos c]
    refine ⟨cp, ?_⟩
    refine ⟨_, _, _, rfl, by omega, by omega, S1, fun r2 m2 g2 r2_0 r2_1 O2 S2 => ?_⟩
    walk_at "pd"
    refine ⟨.inr ⟨by omega, by omega⟩, .inr ⟨by omega, by omega⟩, .inr ⟨by omega, by omega⟩, cp, ?_⟩
    refine ⟨_, _, _, rfl, by omega, by omega, S2, fun r5 m5 g5 r5_0 r5_1 O5 S5 => ?_⟩
    walk_at "pd"
    refine ⟨_, _, _, rfl, by omega, by omega, S5, fun r6 m6 g6 r6_0 r6_1 O6 S6 => ?_⟩
    walk_at "pd"
    obtain ⟨d, hd, ed⟩ := atI_ex (xs := [D.int 0, .int 1, .int r2, .int (2 * r2), .int (2 * r2 + 1), .int (if 2 * r2 - 1 < 0 then -(2 * r2 - 1) else 2 * r2 - 1), .int (r2 + 1), .int r5]) r6_0 r6_1
    refine ⟨d, hd, cp, ?_⟩
    obtain ⟨z, rfl, hz⟩ : ∃ z, d = .int z ∧ 0 ≤ z := by
      simp only [List.mem_cons, List.not_mem_nil, or_false] at ed
      rcases ed with e | e | e | e | e | e | e | e <;> exact ⟨_, e, by omega⟩
    walk_at "pd"
    exact sub_refl_fin (h _ _ _ g6 (by omega) (by split <;> omega) (((O1.trans S1 O2).trans S2 O5).trans S5 O6) S6)
  · rw [if_neg c]
    refine ⟨.inr ⟨by omega, by omega⟩, .inr ⟨by omega, by omega⟩, .inr ⟨by omega, by omega⟩, cp, ?_⟩
    refine ⟨_, _, _, rfl, by omega, by omega, S1, fun r5 m5 g5 r5_0 r5_1 O5 S5 => ?_⟩
    walk_at "pd"
    refine ⟨_, _, _, rfl, by omega, by omega, S5, fun r6 m6 g6 r6_0 r6_1 O6 S6 => ?_⟩
    walk_at "pd"
    obtain ⟨d, hd, ed⟩ := atI_ex (xs := [D.int 0, .int 1, .int r1, .int (2 * r1), .int (2 * r1 + 1), .int (if 2 * r1 - 1 < 0 then -(2 * r1 - 1) else 2 * r1 - 1), .int (r1 + 1), .int r5]) r6_0 r6_1
    refine ⟨d, hd, cp, ?_⟩
    obtain ⟨z, rfl, hz⟩ : ∃ z, d = .int z ∧ 0 ≤ z := by
      simp only [List.mem_cons, List.not_mem_nil, or_false] at ed
      rcases ed with e | e | e | e | e | e | e | e <;> exact ⟨_, e, by omega⟩
    walk_at "pd"
    exact sub_refl_fin (h _ _ _ g6 (by omega) (by split <;> omega) ((O1.trans S1 O5).trans S5 O6) S6)
def sp__law_words : SpD := fun ds m Q => ∃ (a g : Addr) (sg : List Nat), ds = [.ref a, .str (tx sg)] ∧ 0 < sg.length ∧ sg.length ≤ 6 ∧ Tp m a g ∧ ∀ (ws : List (Nat × Nat)) m' g', ws.length ≤ 4 → Off2 a g g' m m' → Tp m' a g' → Q (.tup (ws.map fun p => .str (tx [p.1, p.2]))) m'
theorem ok__law_words  (T : Txt K mg) (G__law_draw : FnOk P w K mg base CX0 (1) T.f__law_draw T.fd__law_draw ["_law_tape_here", "_law_many"] (spL K 2 sp__law_draw)) : FnOk P w K mg base CX0 (2) T.f__law_words T.fd__law_words ["_law_tape_here", "_law_signs_here"] (spL K 2 sp__law_words) := by
  refine fn_ok T.F__law_words sc__law_words (fun cdv A outer s H E hr =>
(gss_cons (gs_set (i := 2) sc__law_words.nd rfl (.inl rfl) (ge_lst ga_nil))
 (gss_cons (gs_for PassesOwn.never rfl (gi_rng1 (by rfl) T.z_range (ga_cons (ge_op op_addL lr_addL ge_int (ge_call G__law_draw (hr.mono (by omega)) (by rfl) T.g__law_draw T.F__law_draw.kp T.b__law_draw (ga_cons (gv 0) (ga_cons ge_int ga_nil)))) ga_nil)) (gg_name (i := 3) sc__law_words.nd rfl (.inl rfl))
 (gss_cons (gs_set (i := 4) sc__law_words.nd rfl (.inl rfl) (ge_op op_addL lr_addL (ge_ix (gv 1) (ge_call G__law_draw (hr.mono (by omega)) (by rfl) T.g__law_draw T.F__law_draw.kp T.b__law_draw (ga_cons (gv 0) (ga_cons (ge_callB call_lenU lc_len (by rfl) T.z_len PySem.boot_len (ga_cons (gv 1) ga_nil)) ga_nil)))) (ge_ix (gv 1) (ge_call G__law_draw (hr.mono (by omega)) (by rfl) T.g__law_draw T.F__law_draw.kp T.b__law_draw (ga_cons (gv 0) (ga_cons (ge_callB call_lenU lc_len (by rfl) T.z_len PySem.boot_len (ga_cons (gv 1) ga_nil)) ga_nil))))))
 (gss_one (gs_if (gt_cmpR op_notInU lr_notIn (gv 4) (gv 2) (by rfl))
 (gss_one (gs_expr (ge_bm PySem.F.slot_list_append PySem.F.type_list_append mt_append lm_append (gv 2) (ga_cons (gv 4) ga_nil))))
 gss_nil))))
 (gss_one (gs_ret (ge_callTy call_tuple_of lc_tuple (by rfl) T.z_tuple (by decide +kernel) (ga_cons (gv 2) ga_nil))))))) (fun ds m Q h => ?_)
  obtain ⟨a, g, sg, rfl, h0, h6, S0, h⟩ := h
  rw [show startD N__law_words [.ref a, .str (tx sg)] = [some (.ref a), some (.str (tx sg)), none, none, none] from rfl]
  have hsz : sg.length ≤ sizeLine := Nat.le_trans h6 (by decide)
  walk_at "pd"
  intro p hp
  have S0' := S0.new (o := .lst []) hp
  refine ⟨_, _, _, rfl, by omega, by omega, S0', fun r1 m1 g1 r1_0 r1_1 O1 S1 => ?_⟩
  have n1 := S0.ne hp
  have ep : m1 p = some (.lst []) := O1.kp _ _ n1.1 n1.2 mset_same
  obtain ⟨k, hk⟩ : ∃ k : Nat, 1 + r1 = k := Int.eq_ofNat_of_zero_le (by omega)
  walk_at "pd"
  rw [hk]
  refine ⟨by omega, by omega, ?_⟩
  rw [Int.toNat_natCast]
  have OO : Off2 a g g1 m m1 := ⟨fun x o u v e => O1.kp x o u v (mset_new hp e), O1.gn.imp id (fun h => (mset_none h).1), fun x h => (mset_none (O1.al x h)).1⟩
  refine loop_inv (fun rem s' m' => ∃ (ws : List (Nat × Nat)) (g' : Addr) (x y : Option D), rem.length + ws.length ≤ 4 ∧ s' = [some (.ref a), some (.str (tx sg)), some (.ref p), x, y] ∧ Off2 a g g' m m' ∧ Tp m' a g' ∧ p ≠ g' ∧ m' p = some (.lst (ws.map fun p => .str (tx [p.1, p.2])))) ?_ ?_ ⟨[], g1, none, none, by rw [rangeD_len]; show k + 0 ≤ 4; omega, rfl, OO, S1, O1.ng n1.2 ⟨_, mset_same⟩, ep⟩
  · rintro d rem s' m' R hR ⟨ws, g', x, y, hn, rfl, O, T1, np, ep⟩
    rw [List.length_cons] at hn
    refine ⟨trivial, ?_⟩
    walk_at "pd"
    refine ⟨hsz, ?_⟩
    refine ⟨_, _, _, rfl, by omega, by omega, T1, fun r2 m2 g2 r2_0 r2_1 O2 S2 => ?_⟩
    obtain ⟨i, rfl⟩ := Int.eq_ofNat_of_zero_le r2_0
    walk_at "pd"
    refine ⟨hsz, _, atI_getD (by omega), hsz, ?_⟩
    refine ⟨_, _, _, rfl, by omega, by omega, S2, fun r3 m3 g3 r3_0 r3_1 O3 S3 => ?_⟩
    obtain ⟨j, rfl⟩ := Int.eq_ofNat_of_zero_le r3_0
    walk_at "pd"
    refine ⟨hsz, _, atI_getD (by omega), ?_⟩
    have ep3 := O3.kp _ _ n1.1 (O2.ng np ⟨_, ep⟩) (O2.kp _ _ n1.1 np ep)
    have np3 : p ≠ g3 := O3.ng (O2.ng np ⟨_, ep⟩) ⟨_, O2.kp _ _ n1.1 np ep⟩
    have O3' := (O.trans T1 O2).trans S2 O3
    refine ⟨_, seqOf_ref ep3, ?_, ?_⟩
    · rw [List.all_map, List.all_eq_true]; intro q _; rfl
    · split
      · refine ⟨⟨_, _, lstOf_ref ep3⟩, _, _, lstOf_ref ep3, ?_, hR _ _ ⟨ws ++ [(sg[i], sg[j])], g3, _, _, ?_, rfl, O3'.set hp, S3.setp n1.1 np3, np3, ?_⟩⟩
        · rw [List.length_map]; exact Nat.lt_of_le_of_lt (by omega : _ ≤ 4) (by decide)
        · rw [List.length_append, List.length_singleton]; omega
        · rw [mset_same, List.map_append]; rfl
      · exact hR _ _ ⟨ws, g3, _, _, by omega, rfl, O3', S3, np3, ep3⟩
  · rintro s' m' ⟨ws, g', x, y, hn, rfl, O, T1, np, ep⟩
    refine ⟨trivial, ?_⟩
    walk_at "pd"
    exact ⟨_, seqOf_ref ep, sub_refl_fin (h ws m' g' (by rw [List.length_nil] at hn; omega) O T1)⟩
end
end K78

set_option Elab.async false
set_option linter.all false
set_option maxRecDepth 100000
set_option maxHeartbeats 4000000
namespace K78
open PySem PySem.Spec PyProof.Rows L2 PD
local macro_rules | `(tactic| walk_at "pd") => `(tactic| simp (config := { decide := true, maxSteps := 400000 }) only [dAbs_i, ten12, tx_app, tx_len, tx_emp, dIx_tx, sgn_tx, cutS_to, cutS_fr, cutS_fr1, dPar, dIRng2, dIEnumS, dIStr, dInSg, dJoin, dSlS, dUpper, dChain, dDNewT, dDGetT, dDPutT, dMin3_i, dMax3_i, dCallX, dRaise, dSeq, dSet, dAsg, dgN, dRet, dRetN, dIfS, dFor, dLoop, dDrop, dNext, dVar, dC, dNil, dCons, dOp, dUn, dTest, dTru, dAnd, dOr, dNot, dAndV, dOrV, dNotV, dIfE, dTup, dLst, dCB, dCall, dCallP, dBM, dBM0, dLc, dComp, dYes, dgTup, dgCons, dgNil, dgSub, dPart, dNoPart, dAug, dIsi, dEq, dNe, wipeD, endsOf,
  dFrz, dFrzV_i, dFrzV_s, dFrzV_b, dFrzV_n, dFrzV_t, dFrzV_l, dFrzV_r, dAddL_i, dAddL_s, dAddL_t, dAddL_rr, dAddL_rl, dAddL_lr, dAddL_ll, dMulL_i, dMulL_s, dMulL_r, dSlL_v, dSlLV_t, dSlLV_l, dSlLV_r, dMinU_1, dMinU_2, dSumL_1, dSetTx_1, dIx_l, dLen_l, dInG_l, truD_rol, tyD_rol, dInt1_b, dISeqV_l, dLtS_i, dLtS_s, ltP_i, ltP_s, lsq_rol, dDNew, dDGet, dDGet2, dDSetd, dDPut, dSub_i, dInt2_i, dNeg_i, dCmp_i, dIsN_n, dNotN_n, dInG_t, dInG_r, dIx_t, dIx_r, dLen_s, dLen_t, dLen_r, dTuple_1, dList_1, dInt1_i, dRev_v, dRevV_t, dRevV_r, dISeq_v, dISeqV_t, dISeqV_r, dIEnum_v, dIEnumV_t, dIEnumV_r, dPop_0, dPop_i, dAppend_1, dExtend_1, dSub3_i, dIRng1_v, dRng1V_i,
  seqOf_tup, seqOf_rol, seqW_tup, eqK_ss, eqK_ii, eqK_bb, eqK_nn, eqK_ts, eqK_st, eqK_ti, eqK_is, eqK_ns, flatD_str, flatD_int, flatD_bl, flatD_non, isT_NoneType_bool, isT_NoneType_int, isT_NoneType_str, isT_NoneType_tuple, isT_NoneType_list, isT_bool_bool, isT_bool_int, isT_bool_str, isT_bool_tuple, isT_bool_list, isT_int_bool, isT_int_int, isT_int_str, isT_int_tuple, isT_int_list, isT_str_bool, isT_str_int, isT_str_str, isT_str_tuple, isT_str_list, isT_tuple_bool, isT_tuple_int, isT_tuple_str, isT_tuple_tuple, isT_tuple_list, isT_list_bool, isT_list_int, isT_list_str, isT_list_tuple, isT_list_list, isNon_non, isNon_bl, isNon_int, isNon_str, isNon_tup, tyD_non, tyD_bl, tyD_int, tyD_str, tyD_tup, truD_bl, truD_int, truD_tup,
  atI_0, atI_1, atI_2, atI_3, atI_4, atI_m1, atI_m2, atI_m3, Option.some.injEq, exists_eq_left', exists_eq_left, beq_self_eq_true, Bool.not_true, Bool.not_false, if_true, if_false, true_and, and_true, Bool.false_eq_true, ↓reduceIte,
  List.getElem?_cons_zero, List.getElem?_cons_succ, List.set_cons_zero, List.set_cons_succ, List.map_cons, List.map_nil, List.length_cons, List.length_nil, mset_same, mset_mset, List.isEmpty_nil, List.isEmpty_cons, decide_eq_true_eq, beq_iff_eq, seqI_0, List.eraseIdx_cons_zero, List.eraseIdx_cons_succ, ixN_40, ixN_41, ixN_42, ixN_43, Nat.reduceAdd])
local macro_rules | `(tactic| walk_at "ne") => `(tactic| first | assumption | exact Ne.symm (by assumption))
local macro_rules | `(tactic| walk_at "mu") => `(tactic| first | exact mset_same | assumption | exact mset_skip (by walk_at "ne") (by walk_at "mu"))
local macro_rules | `(tactic| walk_at "go") => `(tactic| repeat (first | walk_at "pd" | refine ⟨_, seqOf_ref (by walk_at "mu"), ?_⟩ | refine ⟨⟨_, _, lstOf_ref (by walk_at "mu")⟩, ?_⟩ | refine ⟨_, _, lstOf_ref (by walk_at "mu"), ?_⟩ | refine ⟨(show CMul _ _ from Or.inr ⟨by decide, by decide⟩), ?_⟩ | refine ⟨(show CDiv _ _ from ⟨by decide, by decide⟩), ?_⟩))
local macro_rules | `(tactic| walk_at "w") => `(tactic| try walk_at "pd")
/-- no string of the signs -/
def BadV (sg : List Nat) (v : D) : Prop := (∃ l c, v = .str (tx l) ∧ c ∈ l ∧ c ∉ sg ∧ l.length ≤ 4) ∨ ((∃ i, v = .int i) ∨ v = .non ∨ (∃ xs, v = .tup xs) ∨ (∃ xs, v = .rol xs) ∨ ∃ b, v = .bl b)
theorem upper_abc : ∀ c ∈ abc, Txt.upper (tx [c]) = tx [c - 32] ∧ c - 32 ∉ abc := by decide +kernel
section
variable {P : Program} {w : World} {K : PySem.W.Frag} {mg : Str → Option Value} {base : Heap}
def sp__law_bad : SpD := fun ds m Q => ∃ (a g : Addr) (sg : List Nat), ds = [.ref a, .str (tx sg)] ∧ SgOk sg ∧ Tp m a g ∧ ∀ (v : D) m' g', BadV sg v → Off2 a g g' m m' → Tp m' a g' → Q v m'
theorem ok__law_bad  (T : Txt K mg) (G__law_draw : FnOk P w K mg base CX0 (1) T.f__law_draw T.fd__law_draw ["_law_tape_here", "_law_many"] (spL K 2 sp__law_draw)) (G__law_text : FnOk P w K mg base CX0 (2) T.f__law_text T.fd__law_text ["_law_tape_here", "_law_signs_here", "_law_most"] (spL K 3 sp__law_text)) : FnOk P w K mg base CX0 (3) T.f__law_bad T.fd__law_bad ["_law_tape_here", "_law_signs_here"] (spL K 2 sp__law_bad) := by
  refine fn_ok T.F__law_bad sc__law_bad (fun cdv A outer s H E hr =>
(gss_cons (gs_setLc (i := 2) (own := [("_law_letter", 7)]) rfl sc__law_bad.nd rfl rfl (sw_true rfl rfl rfl (by decide +kernel)) (gi_str ge_str) (blkOk_by (N := N__law_bad) (sc := defScope s__law_bad) (by decide +kernel)) (fun _ _ _ _ _ => (gg_name (i := 7) sc__law_bad.nd rfl (.inl rfl))) (fun _ _ _ _ _ => (gts_one (gt_cmpR op_notIn_sign lr_notInSg (gv 7) (gv 1) (by rfl)))) (fun _ _ _ _ _ => (gv 7)) (by decide))
 (gss_cons (gs_set (i := 3) sc__law_bad.nd rfl (.inl rfl) (ge_ix (ge_tup (ga_cons (ge_ix (gv 2) (ge_call G__law_draw (hr.mono (by omega)) (by rfl) T.g__law_draw T.F__law_draw.kp T.b__law_draw (ga_cons (gv 0) (ga_cons (ge_callB call_lenU lc_len (by rfl) T.z_len PySem.boot_len (ga_cons (gv 2) ga_nil)) ga_nil)))) (ga_cons (ge_upper (ge_ix (gv 1) ge_int)) (ga_cons ge_str (ga_cons ge_str ga_nil))))) (ge_call G__law_draw (hr.mono (by omega)) (by rfl) T.g__law_draw T.F__law_draw.kp T.b__law_draw (ga_cons (gv 0) (ga_cons ge_int ga_nil)))))
 (gss_cons (gs_set (i := 4) sc__law_bad.nd rfl (.inl rfl) (ge_call G__law_text (hr.mono (by omega)) (by rfl) T.g__law_text T.F__law_text.kp T.b__law_text (ga_cons (gv 0) (ga_cons (gv 1) (ga_cons ge_int ga_nil)))))
 (gss_cons (gs_set (i := 5) sc__law_bad.nd rfl (.inl rfl) (ge_call G__law_draw (hr.mono (by omega)) (by rfl) T.g__law_draw T.F__law_draw.kp T.b__law_draw (ga_cons (gv 0) (ga_cons (ge_frz (ge_op op_addL lr_addL (ge_callB call_lenU lc_len (by rfl) T.z_len PySem.boot_len (ga_cons (gv 4) ga_nil)) ge_int)) ga_nil))))
 (gss_cons (gs_set (i := 6) sc__law_bad.nd rfl (.inl rfl) (ge_tup (ga_cons (ge_op op_addL lr_addL (ge_op op_addL lr_addL (ge_sliceS (gv 4) go_none (go_some (gv 5))) (gv 3)) (ge_sliceS (gv 4) (go_some (gv 5)) go_none)) (ga_cons ge_int (ga_cons ge_non (ga_cons (ge_tup (ga_cons (ge_ix (gv 1) ge_int) ga_nil)) (ga_cons (ge_frz (ge_lst (ga_cons (ge_ix (gv 1) ge_int) ga_nil))) (ga_cons ge_bl (ga_cons ge_int (ga_cons (ge_op op_addL lr_addL (ge_op op_addL lr_addL (ge_sliceS (gv 4) go_none (go_some (gv 5))) (gv 3)) (ge_sliceS (gv 4) (go_some (gv 5)) go_none)) ga_nil))))))))))
 (gss_one (gs_ret (ge_ix (gv 6) (ge_call G__law_draw (hr.mono (by omega)) (by rfl) T.g__law_draw T.F__law_draw.kp T.b__law_draw (ga_cons (gv 0) (ga_cons ge_int ga_nil)))))))))))) (fun ds m Q h => ?_)
  obtain ⟨a, g, sg, rfl, ok, S0, h⟩ := h
  rw [show startD N__law_bad [.ref a, .str (tx sg)] = [some (.ref a), some (.str (tx sg)), none, none, none, none, none, none] from rfl]
  have hsz : sg.length ≤ sizeLine := Nat.le_trans ok.2.1 (by decide)
  walk_at "pd"
  intro p hp
  rw [abc_is, sgn_tx]
  refine comp_pureT (γ := Nat) (fun c => D.str (tx [c])) (fun c => D.str (tx [c])) (fun c => !decide (c ∈ sg)) (fun _ => trivial) (by decide) (fun c hc acc R1 R2 k1 k2 => ?_) ?_
  · walk_at "pd"
    refine ⟨c, tx sg, rfl, rfl, ?_⟩
    have et : (tx sg).cps.toList = sg := by unfold tx; simp
    rw [et]
    cases e : (!decide (c ∈ sg)) with
    | true => walk_at "pd"; exact k1 e
    | false => walk_at "pd"; exact k2 e
  have S1 := S0.new (o := .lst ((abc.filter fun c => !decide (c ∈ sg)).map fun c => D.str (tx [c]))) hp
  have n1 := S0.ne hp
  have ep : mset m p (.lst ((abc.filter fun c => !decide (c ∈ sg)).map fun c => D.str (tx [c]))) p = some (.lst ((abc.filter fun c => !decide (c ∈ sg)).map fun c => D.str (tx [c]))) := mset_same
  have O1 : Off2 a g g m (mset m p (.lst ((abc.filter fun c => !decide (c ∈ sg)).map fun c => D.str (tx [c])))) := (Off2.refl a g m).new hp
  have hlen : 0 < (abc.filter fun c => !decide (c ∈ sg)).length := by
    obtain ⟨c, c1, c2⟩ := ok.other
    exact List.length_pos_of_mem (List.mem_filter.mpr ⟨c1, by simp [c2]⟩)
  have hlen2 : (abc.filter fun c => !decide (c ∈ sg)).length ≤ 26 := Nat.le_trans (List.length_filter_le _ _) (by decide)
  have hmem : ∀ c ∈ abc.filter (fun c => !decide (c ∈ sg)), c ∉ sg := fun c hc => by simpa using (List.mem_filter.mp hc).2
  generalize (abc.filter fun c => !decide (c ∈ sg)) = oth at *
  generalize mset m p (.lst (oth.map fun c => D.str (tx [c]))) = m1 at *
  walk_at "pd"
  refine ⟨_, seqOf_ref ep, ?_⟩
  rw [List.length_map]
  refine ⟨_, _, _, rfl, by omega, by omega, S1, fun r11 m11 g11 r11_0 r11_1 O11 S11 => ?_⟩
  obtain ⟨i, rfl⟩ := Int.eq_ofNat_of_zero_le r11_0
  have hi : i < oth.length := by omega
  walk_at "pd"
  refine ⟨_, seqOf_ref (O11.kp _ _ n1.1 n1.2 ep), _, atI_getD (by rw [List.length_map]; exact hi), ?_⟩
  rw [List.getElem_map]
  have a0 : atI sg 0 = some (sg[0]'ok.1) := atI_getD (i := 0) ok.1
  obtain ⟨u1, u2⟩ := upper_abc _ (ok.abc (List.getElem_mem ok.1))
  refine ⟨hsz, _, a0, _, rfl, by rw [tx_len]; show 1 ≤ 5592405; decide, ?_⟩
  rw [u1]
  refine ⟨_, _, _, rfl, by omega, by omega, S11, fun r12 m12 g12 r12_0 r12_1 O12 S12 => ?_⟩
  walk_at "pd"
  obtain ⟨d, hd, ed⟩ := atI_ex (xs := [D.str (tx [oth[i]]), D.str (tx [sg[0]'ok.1 - 32]), D.str (Str.ofString " "), D.str (Str.ofString "0")]) r12_0 r12_1
  refine ⟨d, hd, ?_⟩
  obtain ⟨x, rfl, hx⟩ : ∃ x, d = .str (tx [x]) ∧ x ∉ sg := by
    simp only [List.mem_cons, List.not_mem_nil, or_false] at ed
    rcases ed with e | e | e | e
    · exact ⟨_, e, hmem _ (List.getElem_mem hi)⟩
    · exact ⟨_, e, fun hc => u2 (ok.abc hc)⟩
    · exact ⟨32, e, fun hc => absurd (ok.abc hc) (by decide +kernel)⟩
    · exact ⟨48, e, fun hc => absurd (ok.abc hc) (by decide +kernel)⟩
  refine ⟨a, g12, sg, 3, rfl, by decide, ok.1, ok.2.1, S12, fun l m5 g5 l3 lm O5 S5 => ?_⟩
  walk_at "pd"
  have hl : l.length ≤ sizeLine := Nat.le_trans l3 (by decide)
  refine ⟨hl, ?_⟩
  refine ⟨_, _, _, rfl, by omega, by omega, S5, fun r13 m13 g13 r13_0 r13_1 O13 S13 => ?_⟩
  obtain ⟨k, rfl⟩ := Int.eq_ofNat_of_zero_le r13_0
  have OA : Off2 a g g13 m m13 := (((O1.trans S1 O11).trans S11 O12).trans S12 O5).trans S5 O13
  have lt : (l.take k).length ≤ 3 := Nat.le_trans (by rw [List.length_take]; exact Nat.min_le_right _ _) l3
  have ld : (l.drop k).length ≤ 3 := Nat.le_trans (by rw [List.length_drop]; exact Nat.sub_le _ _) l3
  have c1 : (l.take k).length + [x].length ≤ sizeLine := Nat.le_trans (by rw [List.length_singleton]; omega : _ ≤ 4) (by decide)
  have c2 : (l.take k ++ [x]).length + (l.drop k).length ≤ sizeLine := Nat.le_trans (by rw [List.length_append, List.length_singleton]; omega : _ ≤ 7) (by decide)
  walk_at "pd"
  refine ⟨hl, c1, hl, c2, hsz, _, a0, hsz, _, a0, fun p2 hp2 => ⟨_, rfl, hl, c1, hl, c2, ?_⟩⟩
  have n2 := S13.ne hp2
  have SF := (S13.new (o := .lst [D.str (tx [sg[0]'ok.1])]) hp2).del n2.1 n2.2
  refine ⟨_, _, _, rfl, by omega, by omega, SF, fun r14 m14 g14 r14_0 r14_1 O14 S14 => ?_⟩
  walk_at "pd"
  obtain ⟨v, hv, ev⟩ := atI_ex (xs := [D.str (tx (l.take k ++ [x] ++ l.drop k)), D.int 7, D.non, D.tup [D.str (tx [sg[0]'ok.1])], D.rol [D.str (tx [sg[0]'ok.1])], D.bl true, D.int 0, D.str (tx (l.take k ++ [x] ++ l.drop k))]) r14_0 r14_1
  refine ⟨v, hv, sub_refl_fin (h v _ g14 ?_ (((OA.new hp2).del (OA.al _ hp2)).trans SF O14) S14)⟩
  have bt : BadV sg (.str (tx (l.take k ++ [x] ++ l.drop k))) := by
    refine .inl ⟨_, x, rfl, by simp, hx, ?_⟩
    have : (l.take k).length + (l.drop k).length = l.length := by rw [← List.length_append, List.take_append_drop]
    rw [List.length_append, List.length_append, List.length_singleton]; omega
  simp only [List.mem_cons, List.not_mem_nil, or_false] at ev
  rcases ev with e | e | e | e | e | e | e | e <;> rw [e]
  · exact bt
  · exact .inr (.inl ⟨_, rfl⟩)
  · exact .inr (.inr (.inl rfl))
  · exact .inr (.inr (.inr (.inl ⟨_, rfl⟩)))
  · exact .inr (.inr (.inr (.inr (.inl ⟨_, rfl⟩))))
  · exact .inr (.inr (.inr (.inr (.inr ⟨_, rfl⟩))))
  · exact .inr (.inl ⟨_, rfl⟩)
  · exact bt
end
end K78

set_option Elab.async false
set_option linter.all false
set_option maxRecDepth 100000
set_option maxHeartbeats 4000000
namespace K78
open PD
/-! ### rows of places -/
def rows : Nat → List (List Nat)
  | 0 => [[]]
  | n + 1 => rows n ++ (rows n).map (· ++ [n])
theorem rows_zero {r : List Nat} : r ∈ rows 0 ↔ r = [] := by unfold rows; simp
theorem rows_succ {n : Nat} {r : List Nat} : r ∈ rows (n + 1) ↔ r ∈ rows n ∨ ∃ q ∈ rows n, r = q ++ [n] := by
  show r ∈ rows n ++ (rows n).map (· ++ [n]) ↔ _
  rw [List.mem_append, List.mem_map]
  exact ⟨fun h => h.imp id fun ⟨q, a, b⟩ => ⟨q, a, b.symm⟩, fun h => h.imp id fun ⟨q, a, b⟩ => ⟨q, a, b.symm⟩⟩
theorem rows_nil : ∀ n : Nat, [] ∈ rows n
  | 0 => rows_zero.mpr rfl
  | n + 1 => rows_succ.mpr (.inl (rows_nil n))
theorem rows_len : ∀ {n : Nat} {r : List Nat}, r ∈ rows n → r.length ≤ n
  | 0, r, h => by rw [rows_zero.mp h]; exact Nat.zero_le _
  | n + 1, r, h => by
    rcases rows_succ.mp h with h | ⟨q, hq, rfl⟩
    · have := rows_len h; omega
    · have := rows_len hq; rw [List.length_append, List.length_singleton]; omega
theorem rows_lt : ∀ {n : Nat} {r : List Nat}, r ∈ rows n → ∀ i ∈ r, i < n
  | 0, r, h, i, hi => by rw [rows_zero.mp h] at hi; cases hi
  | n + 1, r, h, i, hi => by
    rcases rows_succ.mp h with h | ⟨q, hq, rfl⟩
    · have := rows_lt h i hi; omega
    · rcases List.mem_append.mp hi with hi | hi
      · have := rows_lt hq i hi; omega
      · have := List.mem_singleton.mp hi; omega
theorem rows_all : ∀ n : Nat, List.range n ∈ rows n
  | 0 => rows_zero.mpr rfl
  | n + 1 => rows_succ.mpr (.inr ⟨_, rows_all n, List.range_succ⟩)
theorem rows_mono {n m : Nat} (h : n ≤ m) {r : List Nat} (hr : r ∈ rows n) : r ∈ rows m := by
  induction m with
  | zero => have : n = 0 := by omega
            subst this; exact hr
  | succ m ih =>
    by_cases e : n = m + 1
    · subst e; exact hr
    · exact rows_succ.mpr (.inl (ih (by omega)))
/-! ### the least cost -/
section
variable {α : Type} [DecidableEq α] (xs ys : Nat → α) (gap ch : Int)
def sub (i j : Nat) : Int := if xs i = ys j then 0 else ch
def dD : Nat → Nat → Int
  | 0, j => gap * j
  | i + 1, 0 => dD i 0 + gap
  | i + 1, j + 1 => min3 (dD i j + sub xs ys ch i j) (dD i (j + 1) + gap) (dD (i + 1) j + gap)
def unl (r q : List Nat) : Nat := ((r.zip q).filter fun p => !decide (xs p.1 = ys p.2)).length
def cost (i j : Nat) (r q : List Nat) : Int := gap * ((i : Int) + j - 2 * r.length) + ch * unl xs ys r q
theorem unl_nil : unl xs ys [] [] = 0 := rfl
theorem unl_snoc {r q : List Nat} (h : r.length = q.length) (i j : Nat) : unl xs ys (r ++ [i]) (q ++ [j]) = unl xs ys r q + (if xs i = ys j then 0 else 1) := by
  unfold unl
  rw [List.zip_append h, List.filter_append, List.length_append]
  congr 1
  show (List.filter _ [(i, j)]).length = _
  by_cases c : xs i = ys j
  · rw [if_pos c]; simp [c]
  · rw [if_neg c]; simp [c]
theorem dD_zero (j : Nat) : dD xs ys gap ch 0 j = gap * j := by unfold dD; rfl
theorem dD_left : ∀ i : Nat, dD xs ys gap ch i 0 = gap * i
  | 0 => by rw [dD_zero]
  | i + 1 => by
    unfold dD; rw [dD_left i, Int.natCast_succ, Int.mul_add, Int.mul_one]
theorem dD_succ (i j : Nat) : dD xs ys gap ch (i + 1) (j + 1) = min3 (dD xs ys gap ch i j + sub xs ys ch i j) (dD xs ys gap ch i (j + 1) + gap) (dD xs ys gap ch (i + 1) j + gap) := by
  conv => lhs; unfold dD
theorem cost_l (i j : Nat) (r q : List Nat) : cost xs ys gap ch (i + 1) j r q = cost xs ys gap ch i j r q + gap := by
  unfold cost
  rw [show ((i + 1 : Nat) : Int) + j - 2 * r.length = ((i : Int) + j - 2 * r.length) + 1 by omega, Int.mul_add, Int.mul_one]
  omega
theorem cost_r (i j : Nat) (r q : List Nat) : cost xs ys gap ch i (j + 1) r q = cost xs ys gap ch i j r q + gap := by
  unfold cost
  rw [show (i : Int) + ((j + 1 : Nat) : Int) - 2 * r.length = ((i : Int) + j - 2 * r.length) + 1 by omega, Int.mul_add, Int.mul_one]
  omega
theorem cost_b (i j : Nat) {r q : List Nat} (h : r.length = q.length) : cost xs ys gap ch (i + 1) (j + 1) (r ++ [i]) (q ++ [j]) = cost xs ys gap ch i j r q + sub xs ys ch i j := by
  unfold cost sub
  rw [unl_snoc xs ys h, List.length_append, List.length_singleton, show ((i + 1 : Nat) : Int) + ((j + 1 : Nat) : Int) - 2 * ((r.length + 1 : Nat) : Int) = (i : Int) + j - 2 * r.length by omega]
  by_cases c : xs i = ys j
  · rw [if_pos c, if_pos c]; simp
  · rw [if_neg c, if_neg c, Int.natCast_succ, Int.mul_add, Int.mul_one]; omega
theorem cost_nil (i j : Nat) : cost xs ys gap ch i j [] [] = gap * ((i : Int) + j) := by
  unfold cost; rw [unl_nil]; simp
theorem min3_le {a b c x : Int} (h : a ≤ x ∨ b ≤ x ∨ c ≤ x) : min3 a b c ≤ x := by unfold min3; omega
theorem min3_is (a b c : Int) : min3 a b c = a ∨ min3 a b c = b ∨ min3 a b c = c := by unfold min3; omega
theorem max3_ge {a b c x : Int} (h : x ≤ a ∨ x ≤ b ∨ x ≤ c) : x ≤ max3 a b c := by unfold max3; omega
theorem max3_is (a b c : Int) : max3 a b c = a ∨ max3 a b c = b ∨ max3 a b c = c := by unfold max3; omega
theorem dist_low : ∀ (i j : Nat) {r q : List Nat}, r ∈ rows i → q ∈ rows j → r.length = q.length → dD xs ys gap ch i j ≤ cost xs ys gap ch i j r q
  | 0, j, r, q, hr, hq, h => by
    have e := rows_zero.mp hr
    subst e
    have e : q = [] := List.eq_nil_of_length_eq_zero h.symm
    subst e
    rw [cost_nil, dD_zero]; simp
  | i + 1, 0, r, q, hr, hq, h => by
    have e := rows_zero.mp hq
    subst e
    have e : r = [] := List.eq_nil_of_length_eq_zero h
    subst e
    rw [cost_nil, dD_left]; simp
  | i + 1, j + 1, r, q, hr, hq, h => by
    rw [dD_succ]
    rcases rows_succ.mp hr with hr | ⟨r', hr', rfl⟩
    · rw [cost_l]
      have := dist_low i (j + 1) hr hq h
      exact min3_le (.inr (.inl (by omega)))
    · rcases rows_succ.mp hq with hq | ⟨q', hq', rfl⟩
      · rw [cost_r]
        have := dist_low (i + 1) j (rows_succ.mpr (.inr ⟨r', hr', rfl⟩)) hq h
        exact min3_le (.inr (.inr (by omega)))
      · have h' : r'.length = q'.length := by simpa using h
        rw [cost_b _ _ _ _ _ _ h']
        have := dist_low i j hr' hq' h'
        exact min3_le (.inl (by omega))
theorem dist_att : ∀ (i j : Nat), ∃ r q, r ∈ rows i ∧ q ∈ rows j ∧ r.length = q.length ∧ cost xs ys gap ch i j r q = dD xs ys gap ch i j
  | 0, j => ⟨[], [], rows_nil _, rows_nil _, rfl, by rw [cost_nil, dD_zero]; simp⟩
  | i + 1, 0 => ⟨[], [], rows_nil _, rows_nil _, rfl, by rw [cost_nil, dD_left]; simp⟩
  | i + 1, j + 1 => by
    rw [dD_succ]
    rcases min3_is (dD xs ys gap ch i j + sub xs ys ch i j) (dD xs ys gap ch i (j + 1) + gap) (dD xs ys gap ch (i + 1) j + gap) with e | e | e <;> rw [e]
    · obtain ⟨r, q, a, b, c, d⟩ := dist_att i j
      exact ⟨_, _, rows_succ.mpr (.inr ⟨r, a, rfl⟩), rows_succ.mpr (.inr ⟨q, b, rfl⟩), by simp [c], by rw [cost_b _ _ _ _ _ _ c, d]⟩
    · obtain ⟨r, q, a, b, c, d⟩ := dist_att i (j + 1)
      exact ⟨r, q, rows_succ.mpr (.inl a), b, c, by rw [cost_l, d]⟩
    · obtain ⟨r, q, a, b, c, d⟩ := dist_att (i + 1) j
      exact ⟨r, q, a, rows_succ.mpr (.inl b), c, by rw [cost_r, d]⟩
/-! ### the greatest length -/
def dL : Nat → Nat → Int
  | 0, _ => 0
  | _ + 1, 0 => 0
  | i + 1, j + 1 => max3 (dL i j + (if xs i = ys j then 1 else 0)) (dL i (j + 1)) (dL (i + 1) j)
theorem dL_zero (j : Nat) : dL xs ys 0 j = 0 := by unfold dL; rfl
theorem dL_left : ∀ i : Nat, dL xs ys i 0 = 0
  | 0 => dL_zero _ _ _
  | i + 1 => by unfold dL; rfl
theorem dL_succ (i j : Nat) : dL xs ys (i + 1) (j + 1) = max3 (dL xs ys i j + (if xs i = ys j then 1 else 0)) (dL xs ys i (j + 1)) (dL xs ys (i + 1) j) := by
  conv => lhs; unfold dL
/-- by gap 1 and change 2 -/
theorem dD_dL : ∀ i j : Nat, dD xs ys 1 2 i j = (i : Int) + j - 2 * dL xs ys i j
  | 0, j => by rw [dD_zero, dL_zero]; omega
  | i + 1, 0 => by rw [dD_left, dL_left]; omega
  | i + 1, j + 1 => by
    rw [dD_succ, dL_succ, dD_dL i j, dD_dL i (j + 1), dD_dL (i + 1) j]
    unfold sub min3 max3
    by_cases c : xs i = ys j
    · rw [if_pos c, if_pos c]; omega
    · rw [if_neg c, if_neg c]; omega
theorem snoc_map {r q : List Nat} {i j : Nat} (h : (r ++ [i]).map xs = (q ++ [j]).map ys) : r.map xs = q.map ys ∧ xs i = ys j := by
  rw [List.map_append, List.map_append] at h
  have := List.append_inj' h rfl
  exact ⟨this.1, by simpa using this.2⟩
theorem long_low : ∀ (i j : Nat) {r q : List Nat}, r ∈ rows i → q ∈ rows j → r.map xs = q.map ys → (r.length : Int) ≤ dL xs ys i j
  | 0, j, r, q, hr, hq, h => by rw [rows_zero.mp hr, dL_zero]; exact Int.le_refl _
  | i + 1, 0, r, q, hr, hq, h => by
    rw [rows_zero.mp hq] at h
    rw [List.map_eq_nil_iff.mp h, dL_left]; exact Int.le_refl _
  | i + 1, j + 1, r, q, hr, hq, h => by
    rw [dL_succ]
    rcases rows_succ.mp hr with hr | ⟨r', hr', rfl⟩
    · have := long_low i (j + 1) hr hq h
      exact max3_ge (.inr (.inl this))
    · rcases rows_succ.mp hq with hq | ⟨q', hq', rfl⟩
      · have := long_low (i + 1) j (rows_succ.mpr (.inr ⟨r', hr', rfl⟩)) hq h
        exact max3_ge (.inr (.inr this))
      · obtain ⟨h1, h2⟩ := snoc_map xs ys h
        have := long_low i j hr' hq' h1
        refine max3_ge (.inl ?_)
        rw [if_pos h2, List.length_append, List.length_singleton]; omega
theorem long_att : ∀ (i j : Nat), ∃ r q, r ∈ rows i ∧ q ∈ rows j ∧ r.map xs = q.map ys ∧ (r.length : Int) = dL xs ys i j
  | 0, j => ⟨[], [], rows_nil _, rows_nil _, rfl, by rw [dL_zero]; rfl⟩
  | i + 1, 0 => ⟨[], [], rows_nil _, rows_nil _, rfl, by rw [dL_left]; rfl⟩
  | i + 1, j + 1 => by
    by_cases c : xs i = ys j
    · rw [dL_succ, if_pos c]
      rcases max3_is (dL xs ys i j + 1) (dL xs ys i (j + 1)) (dL xs ys (i + 1) j) with e | e | e <;> rw [e]
      · obtain ⟨r, q, a, b, d, f⟩ := long_att i j
        exact ⟨_, _, rows_succ.mpr (.inr ⟨r, a, rfl⟩), rows_succ.mpr (.inr ⟨q, b, rfl⟩), by rw [List.map_append, List.map_append, d]; simp [c], by rw [List.length_append, List.length_singleton]; omega⟩
      · obtain ⟨r, q, a, b, d, f⟩ := long_att i (j + 1)
        exact ⟨r, q, rows_succ.mpr (.inl a), b, d, f⟩
      · obtain ⟨r, q, a, b, d, f⟩ := long_att (i + 1) j
        exact ⟨r, q, a, rows_succ.mpr (.inl b), d, f⟩
    · rw [dL_succ, if_neg c]
      rcases max3_is (dL xs ys i j + 0) (dL xs ys i (j + 1)) (dL xs ys (i + 1) j) with e | e | e <;> rw [e]
      · obtain ⟨r, q, a, b, d, f⟩ := long_att i j
        exact ⟨r, q, rows_succ.mpr (.inl a), rows_succ.mpr (.inl b), d, by omega⟩
      · obtain ⟨r, q, a, b, d, f⟩ := long_att i (j + 1)
        exact ⟨r, q, rows_succ.mpr (.inl a), b, d, f⟩
      · obtain ⟨r, q, a, b, d, f⟩ := long_att (i + 1) j
        exact ⟨r, q, a, rows_succ.mpr (.inl b), d, f⟩
theorem dL_le : ∀ (i j : Nat), dL xs ys i j ≤ j := fun i j => by
  obtain ⟨r, q, a, b, d, f⟩ := long_att xs ys i j
  rw [← f]
  have e : r.length = q.length := by have := congrArg List.length d; simpa using this
  have := rows_len b
  omega
/-- all of ys stands in xs -/
theorem long_all {i j : Nat} {r : List Nat} (hr : r ∈ rows i) (h : r.map xs = (List.range j).map ys) : dL xs ys i j = j := by
  have a := long_low xs ys i j hr (rows_all j) h
  have b := dL_le xs ys i j
  have e : r.length = j := by have := congrArg List.length h; simpa using this
  omega
/-- where no two are alike -/
theorem unl_all (hne : ∀ i j, xs i ≠ ys j) : ∀ {r q : List Nat}, r.length = q.length → unl xs ys r q = r.length
  | [], [], _ => rfl
  | a :: r, b :: q, h => by
    have h' : r.length = q.length := by simpa using h
    have := unl_all hne h'
    unfold unl at this ⊢
    rw [List.zip_cons_cons, List.filter_cons, if_pos (by simp [hne a b]), List.length_cons, this, List.length_cons]
theorem lin_ends {g c : Int} {k n : Int} (h0 : 0 ≤ k) (h1 : k ≤ n) : min 0 (n * c) ≤ k * c := by
  by_cases hc : 0 ≤ c
  · have : 0 ≤ k * c := Int.mul_nonneg h0 hc
    omega
  · have : n * c ≤ k * c := Int.mul_le_mul_of_nonpos_right h1 (by omega)
    omega
theorem dist_unlike {xs ys : Nat → α} (hne : ∀ i j, xs i ≠ ys j) (i j : Nat) : dD xs ys gap ch i j = min (gap * ((i : Int) + j)) (gap * (((i : Int) - j).natAbs : Int) + ch * (min (i : Int) j)) := by
  have ec : ∀ {r q : List Nat}, r.length = q.length → cost xs ys gap ch i j r q = gap * ((i : Int) + j) + (r.length : Int) * (ch - 2 * gap) := fun {r q} h => by
    unfold cost
    rw [unl_all xs ys hne h]
    have : ∀ g a l c : Int, g * (a - 2 * l) + c * l = g * a + l * (c - 2 * g) := fun g a l c => by
      rw [Int.mul_sub, Int.mul_sub, Int.mul_comm l c, ← Int.mul_assoc, ← Int.mul_assoc, Int.mul_comm g 2, Int.mul_comm l 2, Int.mul_assoc, Int.mul_assoc, Int.mul_comm g l]; omega
    exact this _ _ _ _
  have e2 : gap * (((i : Int) - j).natAbs : Int) + ch * (min (i : Int) j) = gap * ((i : Int) + j) + min (i : Int) j * (ch - 2 * gap) := by
    have e : (((i : Int) - j).natAbs : Int) = (i : Int) + j - 2 * min (i : Int) j := by omega
    rw [e]
    have : ∀ g a l c : Int, g * (a - 2 * l) + c * l = g * a + l * (c - 2 * g) := fun g a l c => by
      rw [Int.mul_sub, Int.mul_sub, Int.mul_comm l c, ← Int.mul_assoc, ← Int.mul_assoc, Int.mul_comm g 2, Int.mul_comm l 2, Int.mul_assoc, Int.mul_assoc, Int.mul_comm g l]; omega
    exact this _ _ _ _
  rw [e2]
  apply Int.le_antisymm
  · have a := dist_low xs ys gap ch i j (rows_nil i) (rows_nil j) rfl
    have hm : List.range (min i j) ∈ rows i := rows_mono (by omega) (rows_all _)
    have hm2 : List.range (min i j) ∈ rows j := rows_mono (by omega) (rows_all _)
    have b := dist_low xs ys gap ch i j hm hm2 rfl
    rw [ec rfl] at a b
    rw [List.length_range] at b
    rw [List.length_nil] at a
    rw [show ((min i j : Nat) : Int) = min (i : Int) j by omega] at b
    have : ((0 : Nat) : Int) * (ch - 2 * gap) = 0 := Int.zero_mul _
    omega
  · obtain ⟨r, q, a, b, c, d⟩ := dist_att xs ys gap ch i j
    rw [← d, ec c]
    have l1 := rows_len a
    have l2 := rows_len b
    have := lin_ends (g := 0) (c := ch - 2 * gap) (k := (r.length : Int)) (n := min (i : Int) j) (by omega) (by omega)
    omega
end
end K78

set_option Elab.async false
set_option linter.all false
set_option maxRecDepth 100000
set_option maxHeartbeats 4000000
namespace K78
open PD
/-! ### pairs of places without a crossing -/
abbrev Pr := Nat × Nat
def Cp (a b : Pr) : Prop := a.1 ≠ b.1 ∧ a.1 ≠ b.2 ∧ a.2 ≠ b.1 ∧ a.2 ≠ b.2 ∧ ¬(a.1 < b.1 ∧ b.1 < a.2 ∧ a.2 < b.2) ∧ ¬(b.1 < a.1 ∧ a.1 < b.2 ∧ b.2 < a.2)
theorem Cp.symm {a b : Pr} (h : Cp a b) : Cp b a := ⟨h.1.symm, h.2.2.1.symm, h.2.1.symm, h.2.2.2.1.symm, h.2.2.2.2.2, h.2.2.2.2.1⟩
section
variable (ok : Nat → Nat → Bool)
structure Va (s e : Nat) (S : List Pr) : Prop where
  ins : ∀ b ∈ S, s ≤ b.1 ∧ b.1 < b.2 ∧ b.2 < e ∧ ok b.1 b.2 = true
  pw : S.Pairwise Cp
theorem Va.nil {s e : Nat} : Va ok s e [] := ⟨fun _ h => (List.not_mem_nil h).elim, List.Pairwise.nil⟩
theorem Va.wide {s e s' e' : Nat} {S : List Pr} (h : Va ok s e S) (a : s' ≤ s) (b : e ≤ e') : Va ok s' e' S :=
  ⟨fun c hc => by have := h.ins c hc; exact ⟨by omega, this.2.1, by omega, this.2.2.2⟩, h.pw⟩
/-- the greatest number, by a bound of the width -/
def nF : Nat → Nat → Nat → Int
  | 0, _, _ => 0
  | k + 1, s, e => if s < e then (((List.range' (s + 1) (e - s - 1)).filter (ok s)).map fun p => 1 + nF k (s + 1) p + nF k (p + 1) e).foldl max (nF k (s + 1) e) else 0
def nN (s e : Nat) : Int := nF ok (e - s) s e
theorem foldmax : ∀ (l : List Int) (x : Int), x ≤ l.foldl max x ∧ (∀ y ∈ l, y ≤ l.foldl max x) ∧ (l.foldl max x = x ∨ l.foldl max x ∈ l)
  | [], x => ⟨Int.le_refl _, fun _ h => (List.not_mem_nil h).elim, .inl rfl⟩
  | y :: l, x => by
    obtain ⟨a, b, c⟩ := foldmax l (max x y)
    rw [List.foldl_cons]
    refine ⟨by omega, fun z hz => ?_, ?_⟩
    · rcases List.mem_cons.mp hz with rfl | hz
      · omega
      · exact b z hz
    · rcases c with c | c
      · rw [c]
        by_cases d : x ≤ y
        · rw [Int.max_eq_right d]; exact .inr (List.mem_cons_self ..)
        · rw [Int.max_eq_left (by omega)]; exact .inl rfl
      · exact .inr (List.mem_cons_of_mem _ c)
theorem nF_more : ∀ (k s e : Nat), e - s ≤ k → nF ok k s e = nF ok (e - s) s e := by
  intro k
  induction k using Nat.strongRecOn with
  | ind k ih =>
    intro s e h
    cases k with
    | zero => rw [show e - s = 0 by omega]
    | succ k =>
      by_cases c : s < e
      · obtain ⟨d, hd⟩ : ∃ d, e - s = d + 1 := ⟨e - s - 1, by omega⟩
        rw [hd]
        show (if s < e then _ else _) = (if s < e then _ else _)
        rw [if_pos c, if_pos c]
        have e1 : nF ok k (s + 1) e = nF ok d (s + 1) e := by
          rw [ih k (by omega) (s + 1) e (by omega), show e - (s + 1) = d by omega]
        rw [e1]
        congr 1
        refine List.map_congr_left fun p hp => ?_
        have hp := (List.mem_filter.mp hp).1
        rw [List.mem_range'_1] at hp
        by_cases hkd : k = d
        · rw [hkd]
        · rw [ih k (by omega) (s + 1) p (by omega), ih k (by omega) (p + 1) e (by omega), ih d (by omega) (s + 1) p (by omega), ih d (by omega) (p + 1) e (by omega)]
      · rw [show e - s = 0 by omega]
        show (if s < e then _ else _) = _
        rw [if_neg c]; rfl
theorem nN_none {s e : Nat} (h : ¬ s < e) : nN ok s e = 0 := by unfold nN; rw [show e - s = 0 by omega]; rfl
theorem nN_is {s e : Nat} (h : s < e) : nN ok s e = (((List.range' (s + 1) (e - s - 1)).filter (ok s)).map fun p => 1 + nN ok (s + 1) p + nN ok (p + 1) e).foldl max (nN ok (s + 1) e) := by
  obtain ⟨d, hd⟩ : ∃ d, e - s = d + 1 := ⟨e - s - 1, by omega⟩
  have e1 : nN ok s e = nF ok (d + 1) s e := by unfold nN; rw [hd]
  rw [e1]
  show (if s < e then _ else _) = _
  rw [if_pos h, nF_more ok d (s + 1) e (by omega)]
  congr 1
  refine List.map_congr_left fun p hp => ?_
  have hp := (List.mem_filter.mp hp).1
  rw [List.mem_range'_1] at hp
  rw [nF_more ok d (s + 1) p (by omega), nF_more ok d (p + 1) e (by omega)]; rfl
theorem nN_skip {s e : Nat} (h : s < e) : nN ok (s + 1) e ≤ nN ok s e := by rw [nN_is ok h]; exact (foldmax _ _).1
theorem nN_pair {s e p : Nat} (h1 : s < p) (h2 : p < e) (h : ok s p = true) : 1 + nN ok (s + 1) p + nN ok (p + 1) e ≤ nN ok s e := by
  have hse : s < e := by omega
  have hp : p ∈ List.range' (s + 1) (e - s - 1) := List.mem_range'_1.mpr ⟨by omega, by omega⟩
  rw [nN_is ok hse]
  exact (foldmax _ _).2.1 _ (List.mem_map.mpr ⟨p, List.mem_filter.mpr ⟨hp, h⟩, rfl⟩)
theorem nN_or {s e : Nat} (h : s < e) : nN ok s e = nN ok (s + 1) e ∨ ∃ p, s < p ∧ p < e ∧ ok s p = true ∧ nN ok s e = 1 + nN ok (s + 1) p + nN ok (p + 1) e := by
  have := nN_is ok h
  rcases (foldmax (((List.range' (s + 1) (e - s - 1)).filter (ok s)).map fun p => 1 + nN ok (s + 1) p + nN ok (p + 1) e) (nN ok (s + 1) e)).2.2 with c | c
  · exact .inl (this.trans c)
  · obtain ⟨p, hp, e⟩ := List.mem_map.mp c
    obtain ⟨hp, ho⟩ := List.mem_filter.mp hp
    rw [List.mem_range'_1] at hp
    exact .inr ⟨p, by omega, by omega, ho, by rw [this, ← e]⟩
theorem nest_low : ∀ (k s e : Nat) (S : List Pr), e - s ≤ k → Va ok s e S → (S.length : Int) ≤ nN ok s e
  | 0, s, e, S, h, v => by
    cases S with
    | nil => rw [nN_none ok (by omega)]; exact Int.le_refl _
    | cons b S => have := v.ins b (List.mem_cons_self ..); omega
  | k + 1, s, e, S, h, v => by
    by_cases c : s < e
    · by_cases c2 : ∃ b ∈ S, b.1 = s
      · obtain ⟨b, hb, hs⟩ := c2
        obtain ⟨S1, S2, rfl⟩ := List.append_of_mem hb
        have hbi := v.ins b hb
        have hcp : ∀ d ∈ S1 ++ S2, Cp b d := fun d hd => by
          rcases List.mem_append.mp hd with hd | hd
          · exact ((List.pairwise_append.mp v.pw).2.2 d hd b (List.mem_cons_self ..)).symm
          · exact (List.pairwise_cons.mp (List.pairwise_append.mp v.pw).2.1).1 d hd
        have hT : (S1 ++ S2).Pairwise Cp := v.pw.sublist (List.Sublist.append_left (List.sublist_cons_self ..) _)
        have hin : ∀ d ∈ S1 ++ S2, s ≤ d.1 ∧ d.1 < d.2 ∧ d.2 < e ∧ ok d.1 d.2 = true := fun d hd => v.ins d (by
          rcases List.mem_append.mp hd with hd | hd
          · exact List.mem_append_left _ hd
          · exact List.mem_append_right _ (List.mem_cons_of_mem _ hd))
        have hl : (S1 ++ b :: S2).length = 1 + ((S1 ++ S2).filter fun d => decide (d.2 < b.2)).length + ((S1 ++ S2).filter fun d => !decide (d.2 < b.2)).length := by
          have : ∀ (l : List Pr) (f : Pr → Bool), l.length = (l.filter f).length + (l.filter fun d => !f d).length := fun l f => by
            induction l with
            | nil => rfl
            | cons x l ih =>
              rw [List.filter_cons, List.filter_cons]
              cases hf : f x <;> simp [hf] <;> omega
          have := this (S1 ++ S2) fun d => decide (d.2 < b.2)
          simp only [List.length_append, List.length_cons] at this ⊢
          omega
        have i1 : Va ok (s + 1) b.2 ((S1 ++ S2).filter fun d => decide (d.2 < b.2)) := ⟨fun d hd => by
          obtain ⟨hd, hf⟩ := List.mem_filter.mp hd
          have hf := of_decide_eq_true hf
          have a := hin d hd
          have q := (hcp d hd).1
          exact ⟨by omega, a.2.1, hf, a.2.2.2⟩, hT.sublist List.filter_sublist⟩
        have i2 : Va ok (b.2 + 1) e ((S1 ++ S2).filter fun d => !decide (d.2 < b.2)) := ⟨fun d hd => by
          obtain ⟨hd, hf⟩ := List.mem_filter.mp hd
          have hf : ¬ d.2 < b.2 := by simpa using hf
          have a := hin d hd
          obtain ⟨q1, q2, q3, q4, q5, q6⟩ := hcp d hd
          exact ⟨by omega, a.2.1, a.2.2.1, a.2.2.2⟩, hT.sublist List.filter_sublist⟩
        have r1 := nest_low k (s + 1) b.2 _ (by omega) i1
        have r2 := nest_low k (b.2 + 1) e _ (by omega) i2
        have r3 := nN_pair ok (s := s) (e := e) (p := b.2) (by omega) hbi.2.2.1 (by rw [← hs]; exact hbi.2.2.2)
        rw [hl]
        omega
      · have i1 : Va ok (s + 1) e S := ⟨fun d hd => by
          have a := v.ins d hd
          have : d.1 ≠ s := fun z => c2 ⟨d, hd, z⟩
          exact ⟨by omega, a.2.1, a.2.2.1, a.2.2.2⟩, v.pw⟩
        have r1 := nest_low k (s + 1) e S (by omega) i1
        have r2 := nN_skip ok c
        omega
    · exact nest_low k s e S (by omega) v
def ByR (S : List Pr) : Prop := S.Pairwise fun a b => a.2 < b.2
theorem nest_att : ∀ (k s e : Nat), e - s ≤ k → ∃ S, Va ok s e S ∧ ByR S ∧ (S.length : Int) = nN ok s e
  | 0, s, e, h => ⟨[], .nil ok, List.Pairwise.nil, by rw [nN_none ok (by omega)]; rfl⟩
  | k + 1, s, e, h => by
    by_cases c : s < e
    · rcases nN_or ok c with q | ⟨p, h1, h2, h3, q⟩
      · obtain ⟨S, a, b, d⟩ := nest_att k (s + 1) e (by omega)
        exact ⟨S, a.wide ok (by omega) (Nat.le_refl _), b, by rw [q, d]⟩
      · obtain ⟨A, a1, a2, a3⟩ := nest_att k (s + 1) p (by omega)
        obtain ⟨B, b1, b2, b3⟩ := nest_att k (p + 1) e (by omega)
        refine ⟨A ++ (s, p) :: B, ⟨fun d hd => ?_, ?_⟩, ?_, ?_⟩
        · rcases List.mem_append.mp hd with hd | hd
          · have := a1.ins d hd; exact ⟨by omega, this.2.1, by omega, this.2.2.2⟩
          · rcases List.mem_cons.mp hd with rfl | hd
            · exact ⟨Nat.le_refl _, h1, h2, h3⟩
            · have := b1.ins d hd; exact ⟨by omega, this.2.1, this.2.2.1, this.2.2.2⟩
        · refine List.pairwise_append.mpr ⟨a1.pw, List.pairwise_cons.mpr ⟨fun d hd => ?_, b1.pw⟩, fun d hd f hf => ?_⟩
          · have := b1.ins d hd
            unfold Cp; dsimp only; omega
          · have u := a1.ins d hd
            rcases List.mem_cons.mp hf with rfl | hf
            · unfold Cp; dsimp only; omega
            · have := b1.ins f hf
              unfold Cp; omega
        · refine List.pairwise_append.mpr ⟨a2, List.pairwise_cons.mpr ⟨fun d hd => ?_, b2⟩, fun d hd f hf => ?_⟩
          · have := b1.ins d hd; dsimp only; omega
          · have u := a1.ins d hd
            rcases List.mem_cons.mp hf with rfl | hf
            · dsimp only; omega
            · have := b1.ins f hf; omega
        · rw [q, List.length_append, List.length_cons]; omega
    · exact ⟨[], .nil ok, List.Pairwise.nil, by rw [nN_none ok c]; rfl⟩
/-! ### the law's own list of all of them -/
def adm (S : List Pr) (r l : Nat) : Bool := S.all (fun b => !(decide (l = b.1) || decide (l = b.2))) && (S.all (fun b => !(decide (b.1 < l) && decide (l < b.2))) && ok l r)
def fam : Nat → List (List Pr)
  | 0 => [[]]
  | r + 1 => (fam r).flatMap fun S => S :: ((List.range r).filter (adm ok S r)).map fun l => S ++ [(l, r)]
theorem fam_succ {r : Nat} {U : List Pr} : U ∈ fam ok (r + 1) ↔ ∃ S ∈ fam ok r, U = S ∨ ∃ l, l < r ∧ adm ok S r l = true ∧ U = S ++ [(l, r)] := by
  show U ∈ (fam ok r).flatMap _ ↔ _
  rw [List.mem_flatMap]
  refine ⟨fun ⟨S, h, q⟩ => ⟨S, h, ?_⟩, fun ⟨S, h, q⟩ => ⟨S, h, ?_⟩⟩
  · rcases List.mem_cons.mp q with q | q
    · exact .inl q
    · obtain ⟨l, hl, e⟩ := List.mem_map.mp q
      obtain ⟨hl, ha⟩ := List.mem_filter.mp hl
      exact .inr ⟨l, List.mem_range.mp hl, ha, e.symm⟩
  · rcases q with q | ⟨l, hl, ha, e⟩
    · exact List.mem_cons.mpr (.inl q)
    · exact List.mem_cons.mpr (.inr (List.mem_map.mpr ⟨l, List.mem_filter.mpr ⟨List.mem_range.mpr hl, ha⟩, e.symm⟩))
theorem adm_is {S : List Pr} {r l : Nat} : adm ok S r l = true ↔ (∀ b ∈ S, l ≠ b.1 ∧ l ≠ b.2) ∧ (∀ b ∈ S, ¬(b.1 < l ∧ l < b.2)) ∧ ok l r = true := by
  unfold adm
  rw [Bool.and_eq_true, Bool.and_eq_true, List.all_eq_true, List.all_eq_true]
  refine and_congr ⟨fun h b hb => ?_, fun h b hb => ?_⟩ (and_congr ⟨fun h b hb => ?_, fun h b hb => ?_⟩ Iff.rfl)
  · have := h b hb
    simpa using this
  · have := h b hb
    simpa using this
  · have := h b hb
    revert this
    by_cases c1 : b.1 < l <;> by_cases c2 : l < b.2 <;> simp [c1, c2]
  · have := h b hb
    revert this
    by_cases c1 : b.1 < l <;> by_cases c2 : l < b.2 <;> simp [c1, c2]
theorem fam_Va : ∀ {n : Nat} {S : List Pr}, S ∈ fam ok n → Va ok 0 n S
  | 0, S, h => by
    have : S = [] := by unfold fam at h; simpa using h
    subst this; exact .nil ok
  | n + 1, U, h => by
    obtain ⟨S, hS, q⟩ := (fam_succ ok).mp h
    have v := fam_Va hS
    rcases q with rfl | ⟨l, hl, ha, rfl⟩
    · exact v.wide ok (Nat.le_refl _) (by omega)
    · obtain ⟨a1, a2, a3⟩ := (adm_is ok).mp ha
      refine ⟨fun d hd => ?_, List.pairwise_append.mpr ⟨v.pw, List.pairwise_singleton _ _, fun d hd f hf => ?_⟩⟩
      · rcases List.mem_append.mp hd with hd | hd
        · have := v.ins d hd; exact ⟨by omega, this.2.1, by omega, this.2.2.2⟩
        · rw [List.mem_singleton.mp hd]; exact ⟨by omega, hl, by dsimp only; omega, a3⟩
      · rw [List.mem_singleton.mp hf]
        have := v.ins d hd
        have := a1 d hd
        have := a2 d hd
        unfold Cp; dsimp only; omega
theorem Va_fam : ∀ {n : Nat} {S : List Pr}, Va ok 0 n S → ByR S → S ∈ fam ok n
  | 0, S, v, _ => by
    cases S with
    | nil => unfold fam; simp
    | cons b S => have := v.ins b (List.mem_cons_self ..); omega
  | n + 1, S, v, hr => by
    rcases List.eq_nil_or_concat S with rfl | ⟨S', b, e⟩
    · exact (fam_succ ok).mpr ⟨[], Va_fam (.nil ok) List.Pairwise.nil, .inl rfl⟩
    · rw [List.concat_eq_append] at e
      subst e
      have hb := v.ins b (by simp)
      obtain ⟨r1, r2, r3⟩ := List.pairwise_append.mp hr
      obtain ⟨p1, p2, p3⟩ := List.pairwise_append.mp v.pw
      by_cases c : b.2 = n
      · refine (fam_succ ok).mpr ⟨S', Va_fam ⟨fun d hd => ?_, p1⟩ r1, .inr ⟨b.1, by omega, (adm_is ok).mpr ⟨fun d hd => ?_, fun d hd => ?_, by rw [← c]; exact hb.2.2.2⟩, by rw [← c]⟩⟩
        · have := v.ins d (by simp [hd])
          have := r3 d hd b (by simp)
          exact ⟨by omega, by omega, by omega, (v.ins d (by simp [hd])).2.2.2⟩
        · have := p3 d hd b (by simp)
          unfold Cp at this
          exact ⟨by omega, by omega⟩
        · have := p3 d hd b (by simp)
          have := r3 d hd b (by simp)
          unfold Cp at *
          omega
      · refine (fam_succ ok).mpr ⟨S' ++ [b], Va_fam ⟨fun d hd => ?_, v.pw⟩ hr, .inl rfl⟩
        have a := v.ins d hd
        have : d.2 ≤ b.2 := by
          rcases List.mem_append.mp hd with hd | hd
          · have := r3 d hd b (by simp); omega
          · rw [List.mem_singleton.mp hd]; exact Nat.le_refl _
        exact ⟨a.1, a.2.1, by omega, a.2.2.2⟩
theorem fam_top (n : Nat) : (∀ S ∈ fam ok n, (S.length : Int) ≤ nN ok 0 n) ∧ ∃ S ∈ fam ok n, (S.length : Int) = nN ok 0 n := by
  refine ⟨fun S h => nest_low ok n 0 n S (by omega) (fam_Va ok h), ?_⟩
  obtain ⟨S, a, b, c⟩ := nest_att ok n 0 n (by omega)
  exact ⟨S, Va_fam ok a b, c⟩
theorem fam_nil : ∀ n, [] ∈ fam ok n
  | 0 => by unfold fam; simp
  | n + 1 => (fam_succ ok).mpr ⟨[], fam_nil n, .inl rfl⟩
/-- not above the number of what may stand left (right) -/
theorem nN_left (A : Nat → Nat) (h : ∀ s p, s < p → ok s p = true → A s = 1) : ∀ (k s e : Nat), e - s ≤ k → nN ok s e ≤ ((List.range' s (e - s)).map A).sum
  | 0, s, e, hk => by rw [nN_none ok (by omega)]; omega
  | k + 1, s, e, hk => by
    by_cases c : s < e
    · obtain ⟨d, hd⟩ : ∃ d, e - s = d + 1 := ⟨e - s - 1, by omega⟩
      rw [hd, List.range'_succ, List.map_cons, List.sum_cons]
      have ed : e - (s + 1) = d := by omega
      rcases nN_or ok c with q | ⟨p, h1, h2, h3, q⟩
      · have := nN_left A h k (s + 1) e (by omega)
        rw [ed] at this
        rw [q]; omega
      · have i1 := nN_left A h k (s + 1) p (by omega)
        have i2 := nN_left A h k (p + 1) e (by omega)
        have es : List.range' (s + 1) d = List.range' (s + 1) (p - (s + 1)) ++ p :: List.range' (p + 1) (e - (p + 1)) := by
          rw [← List.range'_succ, show d = (p - (s + 1)) + (e - (p + 1) + 1) by omega, ← List.range'_append_1]
          congr 2
          omega
        rw [es, List.map_append, List.sum_append, List.map_cons, List.sum_cons, q, h s p h1 h3]
        omega
    · rw [nN_none ok c]; omega
theorem nN_right (B : Nat → Nat) (h : ∀ s p, s < p → ok s p = true → B p = 1) : ∀ (k s e : Nat), e - s ≤ k → nN ok s e ≤ ((List.range' s (e - s)).map B).sum
  | 0, s, e, hk => by rw [nN_none ok (by omega)]; omega
  | k + 1, s, e, hk => by
    by_cases c : s < e
    · obtain ⟨d, hd⟩ : ∃ d, e - s = d + 1 := ⟨e - s - 1, by omega⟩
      rw [hd, List.range'_succ, List.map_cons, List.sum_cons]
      have ed : e - (s + 1) = d := by omega
      rcases nN_or ok c with q | ⟨p, h1, h2, h3, q⟩
      · have := nN_right B h k (s + 1) e (by omega)
        rw [ed] at this
        rw [q]; omega
      · have i1 := nN_right B h k (s + 1) p (by omega)
        have i2 := nN_right B h k (p + 1) e (by omega)
        have es : List.range' (s + 1) d = List.range' (s + 1) (p - (s + 1)) ++ p :: List.range' (p + 1) (e - (p + 1)) := by
          rw [← List.range'_succ, show d = (p - (s + 1)) + (e - (p + 1) + 1) by omega, ← List.range'_append_1]
          congr 2
          omega
        rw [es, List.map_append, List.sum_append, List.map_cons, List.sum_cons, q, h s p h1 h3]
        omega
    · rw [nN_none ok c]; omega
end
end K78

set_option Elab.async false
set_option linter.all false
set_option maxRecDepth 100000
set_option maxHeartbeats 4000000
namespace K78
open PySem PySem.Spec PyProof.Rows L2 PD
local macro_rules | `(tactic| walk_at "pd") => `(tactic| simp (config := { decide := true, maxSteps := 400000 }) only [dAbs_i, ten12, tx_app, tx_len, tx_emp, dIx_tx, sgn_tx, cutS_to, cutS_fr, cutS_fr1, dPar, dIRng2, dIEnumS, dIStr, dInSg, dJoin, dSlS, dUpper, dChain, dDNewT, dDGetT, dDPutT, dMin3_i, dMax3_i, dCallX, dRaise, dSeq, dSet, dAsg, dgN, dRet, dRetN, dIfS, dFor, dLoop, dDrop, dNext, dVar, dC, dNil, dCons, dOp, dUn, dTest, dTru, dAnd, dOr, dNot, dAndV, dOrV, dNotV, dIfE, dTup, dLst, dCB, dCall, dCallP, dBM, dBM0, dLc, dComp, dYes, dgTup, dgCons, dgNil, dgSub, dPart, dNoPart, dAug, dIsi, dEq, dNe, wipeD, endsOf,
  dFrz, dFrzV_i, dFrzV_s, dFrzV_b, dFrzV_n, dFrzV_t, dFrzV_l, dFrzV_r, dAddL_i, dAddL_s, dAddL_t, dAddL_rr, dAddL_rl, dAddL_lr, dAddL_ll, dMulL_i, dMulL_s, dMulL_r, dSlL_v, dSlLV_t, dSlLV_l, dSlLV_r, dMinU_1, dMinU_2, dSumL_1, dSetTx_1, dIx_l, dLen_l, dInG_l, truD_rol, tyD_rol, dInt1_b, dISeqV_l, dLtS_i, dLtS_s, ltP_i, ltP_s, lsq_rol, dDNew, dDGet, dDGet2, dDSetd, dDPut, dSub_i, dInt2_i, dNeg_i, dCmp_i, dIsN_n, dNotN_n, dInG_t, dInG_r, dIx_t, dIx_r, dLen_s, dLen_t, dLen_r, dTuple_1, dList_1, dInt1_i, dRev_v, dRevV_t, dRevV_r, dISeq_v, dISeqV_t, dISeqV_r, dIEnum_v, dIEnumV_t, dIEnumV_r, dPop_0, dPop_i, dAppend_1, dExtend_1, dSub3_i, dIRng1_v, dRng1V_i,
  seqOf_tup, seqOf_rol, seqW_tup, eqK_ss, eqK_ii, eqK_bb, eqK_nn, eqK_ts, eqK_st, eqK_ti, eqK_is, eqK_ns, flatD_str, flatD_int, flatD_bl, flatD_non, isT_NoneType_bool, isT_NoneType_int, isT_NoneType_str, isT_NoneType_tuple, isT_NoneType_list, isT_bool_bool, isT_bool_int, isT_bool_str, isT_bool_tuple, isT_bool_list, isT_int_bool, isT_int_int, isT_int_str, isT_int_tuple, isT_int_list, isT_str_bool, isT_str_int, isT_str_str, isT_str_tuple, isT_str_list, isT_tuple_bool, isT_tuple_int, isT_tuple_str, isT_tuple_tuple, isT_tuple_list, isT_list_bool, isT_list_int, isT_list_str, isT_list_tuple, isT_list_list, isNon_non, isNon_bl, isNon_int, isNon_str, isNon_tup, tyD_non, tyD_bl, tyD_int, tyD_str, tyD_tup, truD_bl, truD_int, truD_tup,
  atI_0, atI_1, atI_2, atI_3, atI_4, atI_m1, atI_m2, atI_m3, Option.some.injEq, exists_eq_left', exists_eq_left, beq_self_eq_true, Bool.not_true, Bool.not_false, if_true, if_false, true_and, and_true, Bool.false_eq_true, ↓reduceIte,
  List.getElem?_cons_zero, List.getElem?_cons_succ, List.set_cons_zero, List.set_cons_succ, List.map_cons, List.map_nil, List.length_cons, List.length_nil, mset_same, mset_mset, List.isEmpty_nil, List.isEmpty_cons, decide_eq_true_eq, beq_iff_eq, seqI_0, List.eraseIdx_cons_zero, List.eraseIdx_cons_succ, ixN_40, ixN_41, ixN_42, ixN_43, Nat.reduceAdd])
local macro_rules | `(tactic| walk_at "ne") => `(tactic| first | assumption | exact Ne.symm (by assumption))
local macro_rules | `(tactic| walk_at "mu") => `(tactic| first | exact mset_same | assumption | exact mset_skip (by walk_at "ne") (by walk_at "mu"))
local macro_rules | `(tactic| walk_at "go") => `(tactic| repeat (first | walk_at "pd" | refine ⟨_, seqOf_ref (by walk_at "mu"), ?_⟩ | refine ⟨⟨_, _, lstOf_ref (by walk_at "mu")⟩, ?_⟩ | refine ⟨_, _, lstOf_ref (by walk_at "mu"), ?_⟩ | refine ⟨(show CMul _ _ from Or.inr ⟨by decide, by decide⟩), ?_⟩ | refine ⟨(show CDiv _ _ from ⟨by decide, by decide⟩), ?_⟩))
local macro_rules | `(tactic| walk_at "w") => `(tactic| try walk_at "pd")
def GoodV (sg : List Nat) (v : D) : Prop := ∃ l, v = .str (tx l) ∧ (∀ c ∈ l, c ∈ sg) ∧ l.length ≤ 100
/-- all rows are good, or the first bad one is told -/
def Rows (cB : Addr) (sg : List Nat) (vs : List D) (Ed : DX) (q : Prop) (m : Mu) : Prop := ((∀ v ∈ vs, GoodV sg v) ∧ q) ∨ ∃ pre b post, vs = pre ++ b :: post ∧ (∀ v ∈ pre, GoodV sg v) ∧ BadV sg b ∧ Ed (.ref cB) [("row", .int (pre.length : Int))] m
theorem cps_tx (l : List Nat) : (tx l).cps.toList = l := by unfold tx; simp
section
variable {P : Program} {w : World} {K : PySem.W.Frag} {mg : Str → Option Value} {base : Heap}
def sp_has_only : SpD := fun ds m Q => ∃ (l sg : List Nat), ds = [.str (tx l), .str (tx sg)] ∧ l.length ≤ 100 ∧ Q (.bl (l.all fun c => decide (c ∈ sg))) m
theorem ok_has_only  (T : Txt K mg)  : FnOk P w K mg base CX0 (1) T.f_has_only T.fd_has_only ["word", "characters"] (spL K 2 sp_has_only) := by
  refine fn_ok T.F_has_only sc_has_only (fun cdv A outer s H E hr =>
(gss_one (gs_ret (ge_callB (cr_all rfl) lc_all (by rfl) T.z_all (by decide +kernel) (ga_cons (ge_lc (own := [("character", 2)]) rfl sc_has_only.nd (gi_str (gv 0)) (blkOk_by (N := N_has_only) (sc := defScope s_has_only) (by decide +kernel)) (fun _ _ _ _ _ => (gg_name (i := 2) sc_has_only.nd rfl (.inl rfl))) (fun _ _ _ _ _ => gts_nil) (fun _ _ _ _ _ => (ge_cmpR op_in_sign lr_inSg (gv 2) (gv 1) (by rfl))) (by decide)) ga_nil))))) (fun ds m Q h => ?_)
  obtain ⟨l, sg, rfl, hl, h⟩ := h
  rw [show startD N_has_only [.str (tx l), .str (tx sg)] = [some (.str (tx l)), some (.str (tx sg)), none] from rfl]
  walk_at "pd"
  intro p hp
  refine comp_pureT (γ := Nat) (fun c => D.str (tx [c])) (fun c => D.bl (decide (c ∈ sg))) (fun _ => true) (fun _ => trivial) (by omega) (fun c hc acc R1 R2 k1 _ => ?_) ?_
  · walk_at "pd"
    refine ⟨c, tx sg, rfl, rfl, ?_⟩
    rw [cps_tx]
    exact k1 rfl
  rw [filter_yes]
  refine ⟨p, l.map fun c => decide (c ∈ sg), rfl, by rw [List.map_map, mset_same]; rfl, ?_⟩
  have e : (l.map fun c => decide (c ∈ sg)).all id = l.all fun c => decide (c ∈ sg) := by rw [List.all_map]; rfl
  rw [e]
  exact ⟨m, .new hp, h⟩
def sp__check_rows (cB : Addr) : SpX := fun ds m Q Ed => ∃ (sg : List Nat) (vs : List D), ds = [.str (tx sg), .tup vs] ∧ vs.length ≤ 2 ∧ Rows cB sg vs Ed (Q .non m) m
theorem ok__check_rows  (T : Txt K mg) (G_has_only : FnOk P w K mg base CX0 (1) T.f_has_only T.fd_has_only ["word", "characters"] (spL K 2 sp_has_only)) : FnOk P w K mg base (L2.CX P w) (3) T.f__check_rows T.fd__check_rows ["signs", "rows"] (spX K 2 (sp__check_rows T.c_BadRows)) := by
  refine fn_okX T.F__check_rows sc__check_rows (fun cdv A outer s H E Ed hr tk =>
(gss_one (gs_for (passes_of rfl) rfl (gi_enum (by rfl) T.z_enumerate (ga_cons (gv 1) ga_nil)) (gg_tup (n := 2) rfl (ggs_cons (gg_name (i := 2) sc__check_rows.nd rfl (.inl rfl)) (ggs_cons (gg_name (i := 3) sc__check_rows.nd rfl (.inl rfl)) ggs_nil)))
 (gss_one (gs_if (gw_or (gt_not (gt_val (ge_isi (T := "str") rfl (by rfl) T.z_isinstance (gv 3) (by rfl) T.z_str (by decide +kernel)))) (gw_or1 (gt_not (gt_val (ge_call G_has_only (hr.mono (by omega)) (by rfl) T.g_has_only T.F_has_only.kp T.b_has_only (ga_cons (gv 3) (ga_cons (gv 0) ga_nil))))))).gt
 (gss_one (gs_raise rfl tk T.oe_BadRows T.no_BadRows T.ic_BadRows T.ti_BadRows (T.ini_BadRows) (hr.mono (by omega)) T.bi_BadRows (by rfl) T.gc_BadRows (ga_cons (gv 2) ga_nil) (by decide)))
 gss_nil))))) (fun ds m Q Ed h _ => ?_)
  obtain ⟨sg, vs, rfl, hl, h⟩ := h
  rw [show startD N__check_rows [.str (tx sg), .tup vs] = [some (.str (tx sg)), some (.tup vs), none, none] from rfl]
  walk_at "pd"
  rcases h with ⟨hg, q⟩ | ⟨pre, b, post, e, hg, hb, q⟩
  · refine loop_inv (fun rem s' m' => ∃ (k : Nat) (us : List D) (x y : Option D), rem = enumD k us ∧ (∀ v ∈ us, GoodV sg v) ∧ s' = [some (.str (tx sg)), some (.tup vs), x, y] ∧ m' = m) ?_ ?_ ⟨0, vs, none, none, rfl, hg, rfl, rfl⟩
    · rintro d rem s' m' R hR ⟨k, us, x, y, e, hu, rfl, rfl⟩
      cases us with
      | nil => cases e
      | cons v us =>
        unfold enumD at e
        injection e with e1 e2
        subst e1
        obtain ⟨l, rfl, hl1, hl2⟩ := hu v (List.mem_cons_self ..)
        refine ⟨trivial, ?_⟩
        walk_at "pd"
        refine ⟨l, sg, rfl, hl2, ?_⟩
        have e : (l.all fun c => decide (c ∈ sg)) = true := List.all_eq_true.mpr fun c hc => decide_eq_true (hl1 c hc)
        rw [e]
        exact hR _ _ ⟨k + 1, us, _, _, e2, fun v hv => hu v (List.mem_cons_of_mem _ hv), rfl, rfl⟩
    · rintro s' m' ⟨k, us, x, y, e, hu, rfl, rfl⟩
      exact ⟨trivial, sub_refl_fin q⟩
  · subst e
    refine loop_inv (fun rem s' m' => ∃ (k : Nat) (us : List D) (x y : Option D), rem = enumD k (us ++ b :: post) ∧ k + us.length = pre.length ∧ (∀ v ∈ us, GoodV sg v) ∧ s' = [some (.str (tx sg)), some (.tup (pre ++ b :: post)), x, y] ∧ m' = m) ?_ ?_ ⟨0, pre, none, none, rfl, by omega, hg, rfl, rfl⟩
    · rintro d rem s' m' R hR ⟨k, us, x, y, e, hk, hu, rfl, rfl⟩
      cases us with
      | nil =>
        rw [List.nil_append] at e
        unfold enumD at e
        injection e with e1 e2
        subst e1
        rw [List.length_nil, Nat.add_zero] at hk
        refine ⟨trivial, ?_⟩
        rw [← hk] at q
        rcases hb with ⟨l, c, rfl, c1, c2, c3⟩ | hb
        · walk_at "pd"
          refine ⟨l, sg, rfl, by omega, ?_⟩
          have e : (l.all fun c => decide (c ∈ sg)) = false := by
            rw [List.all_eq_false]
            exact ⟨c, c1, by simp [c2]⟩
          rw [e]
          exact q
        · rcases hb with ⟨i, rfl⟩ | rfl | ⟨xs, rfl⟩ | ⟨xs, rfl⟩ | ⟨z, rfl⟩
          all_goals
            walk_at "pd"
            exact q
      | cons v us =>
        rw [List.cons_append] at e
        unfold enumD at e
        injection e with e1 e2
        subst e1
        obtain ⟨l, rfl, hl1, hl2⟩ := hu v (List.mem_cons_self ..)
        rw [List.length_cons] at hk
        refine ⟨trivial, ?_⟩
        walk_at "pd"
        refine ⟨l, sg, rfl, hl2, ?_⟩
        have e : (l.all fun c => decide (c ∈ sg)) = true := List.all_eq_true.mpr fun c hc => decide_eq_true (hl1 c hc)
        rw [e]
        exact hR _ _ ⟨k + 1, us, _, _, e2, by omega, fun v hv => hu v (List.mem_cons_of_mem _ hv), rfl, rfl⟩
    · rintro s' m' ⟨k, us, x, y, e, hk, hu, rfl, rfl⟩
      cases us with
      | nil => cases e
      | cons v us => cases e
end
end K78

set_option Elab.async false
set_option linter.all false
set_option maxRecDepth 100000
set_option maxHeartbeats 4000000
namespace K78
open PySem PySem.Spec PyProof.Rows L2 PD
local macro_rules | `(tactic| walk_at "pd") => `(tactic| simp (config := { decide := true, maxSteps := 400000 }) only [dAbs_i, ten12, tx_app, tx_len, tx_emp, dIx_tx, sgn_tx, cutS_to, cutS_fr, cutS_fr1, dPar, dIRng2, dIEnumS, dIStr, dInSg, dJoin, dSlS, dUpper, dChain, dDNewT, dDGetT, dDPutT, dMin3_i, dMax3_i, dCallX, dRaise, dSeq, dSet, dAsg, dgN, dRet, dRetN, dIfS, dFor, dLoop, dDrop, dNext, dVar, dC, dNil, dCons, dOp, dUn, dTest, dTru, dAnd, dOr, dNot, dAndV, dOrV, dNotV, dIfE, dTup, dLst, dCB, dCall, dCallP, dBM, dBM0, dLc, dComp, dYes, dgTup, dgCons, dgNil, dgSub, dPart, dNoPart, dAug, dIsi, dEq, dNe, wipeD, endsOf,
  dFrz, dFrzV_i, dFrzV_s, dFrzV_b, dFrzV_n, dFrzV_t, dFrzV_l, dFrzV_r, dAddL_i, dAddL_s, dAddL_t, dAddL_rr, dAddL_rl, dAddL_lr, dAddL_ll, dMulL_i, dMulL_s, dMulL_r, dSlL_v, dSlLV_t, dSlLV_l, dSlLV_r, dMinU_1, dMinU_2, dSumL_1, dSetTx_1, dIx_l, dLen_l, dInG_l, truD_rol, tyD_rol, dInt1_b, dISeqV_l, dLtS_i, dLtS_s, ltP_i, ltP_s, lsq_rol, dDNew, dDGet, dDGet2, dDSetd, dDPut, dSub_i, dInt2_i, dNeg_i, dCmp_i, dIsN_n, dNotN_n, dInG_t, dInG_r, dIx_t, dIx_r, dLen_s, dLen_t, dLen_r, dTuple_1, dList_1, dInt1_i, dRev_v, dRevV_t, dRevV_r, dISeq_v, dISeqV_t, dISeqV_r, dIEnum_v, dIEnumV_t, dIEnumV_r, dPop_0, dPop_i, dAppend_1, dExtend_1, dSub3_i, dIRng1_v, dRng1V_i,
  seqOf_tup, seqOf_rol, seqW_tup, eqK_ss, eqK_ii, eqK_bb, eqK_nn, eqK_ts, eqK_st, eqK_ti, eqK_is, eqK_ns, flatD_str, flatD_int, flatD_bl, flatD_non, isT_NoneType_bool, isT_NoneType_int, isT_NoneType_str, isT_NoneType_tuple, isT_NoneType_list, isT_bool_bool, isT_bool_int, isT_bool_str, isT_bool_tuple, isT_bool_list, isT_int_bool, isT_int_int, isT_int_str, isT_int_tuple, isT_int_list, isT_str_bool, isT_str_int, isT_str_str, isT_str_tuple, isT_str_list, isT_tuple_bool, isT_tuple_int, isT_tuple_str, isT_tuple_tuple, isT_tuple_list, isT_list_bool, isT_list_int, isT_list_str, isT_list_tuple, isT_list_list, isNon_non, isNon_bl, isNon_int, isNon_str, isNon_tup, tyD_non, tyD_bl, tyD_int, tyD_str, tyD_tup, truD_bl, truD_int, truD_tup,
  atI_0, atI_1, atI_2, atI_3, atI_4, atI_m1, atI_m2, atI_m3, Option.some.injEq, exists_eq_left', exists_eq_left, beq_self_eq_true, Bool.not_true, Bool.not_false, if_true, if_false, true_and, and_true, Bool.false_eq_true, ↓reduceIte,
  List.getElem?_cons_zero, List.getElem?_cons_succ, List.set_cons_zero, List.set_cons_succ, List.map_cons, List.map_nil, List.length_cons, List.length_nil, mset_same, mset_mset, List.isEmpty_nil, List.isEmpty_cons, decide_eq_true_eq, beq_iff_eq, seqI_0, List.eraseIdx_cons_zero, List.eraseIdx_cons_succ, ixN_40, ixN_41, ixN_42, ixN_43, Nat.reduceAdd])
local macro_rules | `(tactic| walk_at "ne") => `(tactic| first | assumption | exact Ne.symm (by assumption))
local macro_rules | `(tactic| walk_at "mu") => `(tactic| first | exact mset_same | assumption | exact mset_skip (by walk_at "ne") (by walk_at "mu"))
local macro_rules | `(tactic| walk_at "go") => `(tactic| repeat (first | walk_at "pd" | refine ⟨_, seqOf_ref (by walk_at "mu"), ?_⟩ | refine ⟨⟨_, _, lstOf_ref (by walk_at "mu")⟩, ?_⟩ | refine ⟨_, _, lstOf_ref (by walk_at "mu"), ?_⟩ | refine ⟨(show CMul _ _ from Or.inr ⟨by decide, by decide⟩), ?_⟩ | refine ⟨(show CDiv _ _ from ⟨by decide, by decide⟩), ?_⟩))
local macro_rules | `(tactic| walk_at "w") => `(tactic| try walk_at "pd")
def cd (l : List Nat) (i : Nat) : Nat := l.getD i 0
/-- the first n + 1 answers of a row of the table -/
def rowD (f : Nat → Int) (n : Nat) : List D := (List.range n).map fun j => .int (f j)
theorem rowD_len (f : Nat → Int) (n : Nat) : (rowD f n).length = n := by unfold rowD; rw [List.length_map, List.length_range]
theorem rowD_succ (f : Nat → Int) (n : Nat) : rowD f (n + 1) = rowD f n ++ [.int (f n)] := by unfold rowD; rw [List.range_succ, List.map_append]; rfl
theorem rowD_at (f : Nat → Int) {n j : Nat} (h : j < n) : atI (rowD f n) (j : Int) = some (.int (f j)) := by
  rw [atI_getD (by rw [rowD_len]; exact h)]
  unfold rowD; rw [List.getElem_map, List.getElem_range]
theorem rowD_at0 (f : Nat → Int) {n : Nat} (h : 0 < n) : atI (rowD f n) 0 = some (.int (f 0)) := rowD_at f (j := 0) h
theorem rowD_atS (f : Nat → Int) {n j : Nat} (h : j + 1 < n) : atI (rowD f n) ((j : Int) + 1) = some (.int (f (j + 1))) := rowD_at f (j := j + 1) h
theorem rowD_last (f : Nat → Int) (n : Nat) : atI (rowD f (n + 1)) (-1) = some (.int (f n)) := by rw [rowD_succ]; exact atI_last _ _
theorem dD_left1 {α : Type} [DecidableEq α] (xs ys : Nat → α) (gap ch : Int) (i : Nat) : dD xs ys gap ch (i + 1) 0 = dD xs ys gap ch i 0 + gap := by
  conv => lhs; unfold dD
theorem enum_drop (xs : List Nat) (j k : Nat) (h : j < xs.length) : enumD k ((xs.drop j).map fun c => D.str (tx [c])) = .tup [.int (k : Int), .str (tx [xs[j]])] :: enumD (k + 1) ((xs.drop (j + 1)).map fun c => D.str (tx [c])) := by
  rw [List.drop_eq_getElem_cons h, List.map_cons]; rfl
theorem cd_at {xs : List Nat} {i : Nat} (h : i < xs.length) : cd xs i = xs[i] := by
  unfold cd; rw [List.getD_eq_getElem?_getD, List.getElem?_eq_getElem h]; rfl
theorem sg_eq {a b : Nat} : (tx [a] == tx [b]) = decide (a = b) := by
  by_cases h : a = b
  · rw [h]; simp
  · rw [decide_eq_false h]
    refine beq_false_of_ne fun e => h ?_
    have := tx_inj e
    simpa using this
section
variable {P : Program} {w : World} {K : PySem.W.Frag} {mg : Str → Option Value} {base : Heap}
def sp_distance (cB : Addr) : SpX := fun ds m Q Ed => ∃ (sg : List Nat) (v1 v2 : D) (gap ch : Int), ds = [.str (tx sg), v1, v2, .int gap, .int ch] ∧ Rows cB sg [v1, v2] Ed (∀ xs ys, v1 = .str (tx xs) → v2 = .str (tx ys) → Q (.int (dD (cd xs) (cd ys) gap ch xs.length ys.length)) m) m
theorem ok_distance  (T : Txt K mg) (G__check_rows : FnOk P w K mg base (L2.CX P w) (3) T.f__check_rows T.fd__check_rows ["signs", "rows"] (spX K 2 (sp__check_rows T.c_BadRows))) : FnOk P w K mg base (L2.CX P w) (4) T.f_distance T.fd_distance ["signs", "one", "other", "gap", "change"] (spX K 5 (sp_distance T.c_BadRows)) := by
  refine fn_okX T.F_distance sc_distance (fun cdv A outer s H E Ed hr tk =>
(gss_cons (gs_expr (ge_callX G__check_rows tk (hr.mono (by omega)) (by rfl) T.g__check_rows T.F__check_rows.kp T.b__check_rows (ga_cons (gv 0) (ga_cons (ge_tup (ga_cons (gv 1) (ga_cons (gv 2) ga_nil))) ga_nil))))
 (gss_cons (gs_setLc (i := 5) (own := [("many", 8)]) rfl sc_distance.nd rfl rfl (sw_true rfl rfl rfl (by decide +kernel)) (gi_rng1 (by rfl) T.z_range (ga_cons (ge_op op_addL lr_addL (ge_callB call_lenU lc_len (by rfl) T.z_len PySem.boot_len (ga_cons (gv 2) ga_nil)) ge_int) ga_nil)) (blkOk_by (N := N_distance) (sc := defScope s_distance) (by decide +kernel)) (fun _ _ _ _ _ => (gg_name (i := 8) sc_distance.nd rfl (.inl rfl))) (fun _ _ _ _ _ => gts_nil) (fun _ _ _ _ _ => (ge_op op_mulL lr_mulL (gv 3) (gv 8))) (by decide))
 (gss_cons (gs_for (passes_of rfl) rfl (gi_str (gv 1)) (gg_name (i := 6) sc_distance.nd rfl (.inl rfl))
 (gss_cons (gs_set (i := 7) sc_distance.nd rfl (.inl rfl) (ge_lst (ga_cons (ge_op op_addL lr_addL (ge_ix (gv 5) ge_int) (gv 3)) ga_nil)))
 (gss_cons (gs_for (passes_of rfl) rfl (gi_enumS (by rfl) T.z_enumerate (ga_cons (gv 2) ga_nil)) (gg_tup (n := 2) rfl (ggs_cons (gg_name (i := 9) sc_distance.nd rfl (.inl rfl)) (ggs_cons (gg_name (i := 10) sc_distance.nd rfl (.inl rfl)) ggs_nil)))
 (gss_cons (gs_set (i := 11) sc_distance.nd rfl (.inl rfl) (ge_op op_addL lr_addL (ge_ix (gv 5) (gv 9)) (ge_ifE (gt_cmpR (op_eqS hr.units) lr_eq (gv 6) (gv 10) (nomark _)) ge_int (gv 4))))
 (gss_one (gs_expr (ge_bm PySem.F.slot_list_append PySem.F.type_list_append mt_append lm_append (gv 7) (ga_cons (ge_callB (call_min3Nu rfl) lc_min3 (by rfl) T.z_min (by decide +kernel) (ga_cons (gv 11) (ga_cons (ge_op op_addL lr_addL (ge_ix (gv 5) (ge_op op_addL lr_addL (gv 9) ge_int)) (gv 3)) (ga_cons (ge_op op_addL lr_addL (ge_ix (gv 7) (gv 9)) (gv 3)) ga_nil)))) ga_nil))))))
 (gss_one (gs_set (i := 5) sc_distance.nd rfl (.inl rfl) (gv 7))))))
 (gss_one (gs_ret (ge_ix (gv 5) (ge_un un_neg lu_neg ge_int)))))))) (fun ds m Q Ed h _ => ?_)
  obtain ⟨sg, v1, v2, gap, ch, rfl, h⟩ := h
  rw [show startD N_distance [.str (tx sg), v1, v2, .int gap, .int ch] = [some (.str (tx sg)), some (v1), some (v2), some (.int gap), some (.int ch), none, none, none, none, none, none, none] from rfl]
  walk_at "pd"
  rcases h with ⟨hg, q⟩ | ⟨pre, b, post, e, hg, hb, q⟩
  · obtain ⟨xs, rfl, hx1, hx2⟩ := hg v1 (by simp)
    obtain ⟨ys, rfl, hy1, hy2⟩ := hg v2 (by simp)
    refine ⟨sg, _, rfl, by simp, .inl ⟨hg, ?_⟩⟩
    have hyl : ys.length ≤ sizeLine := Nat.le_trans hy2 (by decide)
    walk_at "pd"
    refine ⟨hyl, by omega, by omega, fun p hp => ?_⟩
    rw [show ((ys.length : Int) + 1).toNat = ys.length + 1 by omega]
    refine comp_map (fun d => match d with | .int z => .int (gap * z) | d => d) (fun _ => trivial) (by rw [rangeD_len]; omega) (fun d hd acc R1 h1 => ?_) ?_
    · unfold rangeD at hd
      obtain ⟨z, hz, rfl⟩ := List.mem_map.mp hd
      rw [List.mem_range] at hz
      walk_at "pd"
      exact ⟨.inr ⟨by omega, by omega⟩, h1⟩
    have e0 : (rangeD 0 (ys.length + 1)).map (fun d => match d with | .int z => D.int (gap * z) | d => d) = rowD (dD (cd xs) (cd ys) gap ch 0) (ys.length + 1) := by
      unfold rangeD rowD
      rw [List.map_map]
      refine List.map_congr_left fun z _ => ?_
      rw [dD_zero]
      show D.int (gap * (0 + (z : Int))) = _
      rw [Int.zero_add]
    rw [e0]
    refine loop_inv (fun rem s' m' => ∃ (i : Nat) (pc : Addr) (x6 x7 x8 x9 x10 x11 : Option D), rem = (xs.drop i).map (fun c => .str (tx [c])) ∧ i ≤ xs.length ∧ s' = [some (.str (tx sg)), some (.str (tx xs)), some (.str (tx ys)), some (.int gap), some (.int ch), some (.ref pc), x6, x7, x8, x9, x10, x11] ∧ PD.Sub m m' ∧ m' pc = some (.lst (rowD (dD (cd xs) (cd ys) gap ch i) (ys.length + 1)))) ?_ ?_ ⟨0, p, none, none, none, none, none, none, rfl, by omega, rfl, .new hp, mset_same⟩
    · rintro d rem s' m' R hR ⟨i, pc, x6, x7, x8, x9, x10, x11, e1, hi, rfl, sb, epc⟩
      have hil : i < xs.length := by
        refine Nat.lt_of_le_of_ne hi fun e => ?_
        rw [e, List.drop_length] at e1; cases e1
      rw [List.drop_eq_getElem_cons hil, List.map_cons] at e1
      injection e1 with e1 e2
      subst e1
      refine ⟨trivial, ?_⟩
      walk_at "pd"
      refine ⟨_, seqOf_ref epc, _, rowD_at0 _ (by omega), ?_⟩
      walk_at "pd"
      intro p2 hp2
      have n2 : p2 ≠ pc := fun e => by rw [e, epc] at hp2; cases hp2
      refine loop_inv (fun rem s' m'' => ∃ (j : Nat) (x9 x10 x11 : Option D), rem = enumD j ((ys.drop j).map fun c => .str (tx [c])) ∧ j ≤ ys.length ∧ s' = [some (.str (tx sg)), some (.str (tx xs)), some (.str (tx ys)), some (.int gap), some (.int ch), some (.ref pc), some (.str (tx [xs[i]])), some (.ref p2), x8, x9, x10, x11] ∧ PD.Sub m m'' ∧ m'' pc = some (.lst (rowD (dD (cd xs) (cd ys) gap ch i) (ys.length + 1))) ∧ m'' p2 = some (.lst (rowD (dD (cd xs) (cd ys) gap ch (i + 1)) (j + 1)))) ?_ ?_ ⟨0, x9, x10, x11, rfl, by omega, rfl, sb.new' (sb.free hp2), mset_new hp2 epc, ?_⟩
      · rintro d rem s' m'' R2 hR2 ⟨j, y9, y10, y11, e3, hj, rfl, sb2, ec2, eg2⟩
        have hjl : j < ys.length := by
          refine Nat.lt_of_le_of_ne hj fun e => ?_
          rw [e, List.drop_length] at e3; cases e3
        rw [enum_drop ys j j hjl] at e3
        injection e3 with e3 e4
        subst e3
        refine ⟨trivial, ?_⟩
        walk_at "pd"
        refine ⟨_, seqOf_ref ec2, _, rowD_at _ (by omega), ?_⟩
        by_cases c : xs[i] = ys[j]
        · rw [if_pos (by rw [c])]
          walk_at "pd"
          refine ⟨⟨_, _, lstOf_ref eg2⟩, _, seqOf_ref ec2, _, rowD_atS _ (by omega), ?_⟩
          walk_at "pd"
          refine ⟨_, seqOf_ref eg2, _, rowD_at _ (by omega), ?_⟩
          walk_at "pd"
          refine ⟨_, _, lstOf_ref eg2, by rw [rowD_len]; exact Nat.lt_of_le_of_lt (by omega : _ ≤ 101) (by decide), hR2 _ _ ⟨j + 1, _, _, _, e4, by omega, rfl, sb2.new' (sb.free hp2), by rw [mset_ne n2.symm]; exact ec2, ?_⟩⟩
          rw [mset_same, rowD_succ _ (j + 1), dD_succ]
          unfold sub
          rw [cd_at hil, cd_at hjl, if_pos c]
        · rw [if_neg fun e => c (by simpa using tx_inj e)]
          walk_at "pd"
          refine ⟨⟨_, _, lstOf_ref eg2⟩, _, seqOf_ref ec2, _, rowD_atS _ (by omega), ?_⟩
          walk_at "pd"
          refine ⟨_, seqOf_ref eg2, _, rowD_at _ (by omega), ?_⟩
          walk_at "pd"
          refine ⟨_, _, lstOf_ref eg2, by rw [rowD_len]; exact Nat.lt_of_le_of_lt (by omega : _ ≤ 101) (by decide), hR2 _ _ ⟨j + 1, _, _, _, e4, by omega, rfl, sb2.new' (sb.free hp2), by rw [mset_ne n2.symm]; exact ec2, ?_⟩⟩
          rw [mset_same, rowD_succ _ (j + 1), dD_succ]
          unfold sub
          rw [cd_at hil, cd_at hjl, if_neg c]
      · rintro s' m'' ⟨j, y9, y10, y11, e3, hj, rfl, sb2, ec2, eg2⟩
        refine ⟨trivial, ?_⟩
        have hjl : j = ys.length := by
          refine Nat.le_antisymm hj (Nat.not_lt.mp fun hl => ?_)
          rw [enum_drop ys j j hl] at e3; cases e3
        subst hjl
        walk_at "pd"
        exact hR _ _ ⟨i + 1, p2, _, _, _, _, _, _, e2, by omega, rfl, sb2, eg2⟩
      · rw [mset_same, rowD_succ]
        unfold rowD
        show _ = some (MO.lst [D.int (dD (cd xs) (cd ys) gap ch (i + 1) 0)])
        rw [show dD (cd xs) (cd ys) gap ch (i + 1) 0 = dD (cd xs) (cd ys) gap ch i 0 + gap from dD_left1 _ _ _ _ _]
    · rintro s' m' ⟨i, pc, x6, x7, x8, x9, x10, x11, e1, hi, rfl, sb, epc⟩
      refine ⟨trivial, ?_⟩
      have hil : i = xs.length := by
        refine Nat.le_antisymm hi (Nat.not_lt.mp fun hl => ?_)
        rw [List.drop_eq_getElem_cons hl] at e1; cases e1
      subst hil
      walk_at "pd"
      exact ⟨_, seqOf_ref epc, _, rowD_last _ _, m, sb, q xs ys rfl rfl⟩
  · exact ⟨sg, _, rfl, by simp, .inr ⟨pre, b, post, e, hg, hb, q⟩⟩
end
end K78

set_option Elab.async false
set_option linter.all false
set_option maxRecDepth 100000
set_option maxHeartbeats 4000000
namespace K78
open PySem PySem.Spec PyProof.Rows L2 PD
local macro_rules | `(tactic| walk_at "pd") => `(tactic| simp (config := { decide := true, maxSteps := 400000 }) only [dAbs_i, ten12, tx_app, tx_len, tx_emp, dIx_tx, sgn_tx, cutS_to, cutS_fr, cutS_fr1, dPar, dIRng2, dIEnumS, dIStr, dInSg, dJoin, dSlS, dUpper, dChain, dDNewT, dDGetT, dDPutT, dMin3_i, dMax3_i, dCallX, dRaise, dSeq, dSet, dAsg, dgN, dRet, dRetN, dIfS, dFor, dLoop, dDrop, dNext, dVar, dC, dNil, dCons, dOp, dUn, dTest, dTru, dAnd, dOr, dNot, dAndV, dOrV, dNotV, dIfE, dTup, dLst, dCB, dCall, dCallP, dBM, dBM0, dLc, dComp, dYes, dgTup, dgCons, dgNil, dgSub, dPart, dNoPart, dAug, dIsi, dEq, dNe, wipeD, endsOf,
  dFrz, dFrzV_i, dFrzV_s, dFrzV_b, dFrzV_n, dFrzV_t, dFrzV_l, dFrzV_r, dAddL_i, dAddL_s, dAddL_t, dAddL_rr, dAddL_rl, dAddL_lr, dAddL_ll, dMulL_i, dMulL_s, dMulL_r, dSlL_v, dSlLV_t, dSlLV_l, dSlLV_r, dMinU_1, dMinU_2, dSumL_1, dSetTx_1, dIx_l, dLen_l, dInG_l, truD_rol, tyD_rol, dInt1_b, dISeqV_l, dLtS_i, dLtS_s, ltP_i, ltP_s, lsq_rol, dDNew, dDGet, dDGet2, dDSetd, dDPut, dSub_i, dInt2_i, dNeg_i, dCmp_i, dIsN_n, dNotN_n, dInG_t, dInG_r, dIx_t, dIx_r, dLen_s, dLen_t, dLen_r, dTuple_1, dList_1, dInt1_i, dRev_v, dRevV_t, dRevV_r, dISeq_v, dISeqV_t, dISeqV_r, dIEnum_v, dIEnumV_t, dIEnumV_r, dPop_0, dPop_i, dAppend_1, dExtend_1, dSub3_i, dIRng1_v, dRng1V_i,
  seqOf_tup, seqOf_rol, seqW_tup, eqK_ss, eqK_ii, eqK_bb, eqK_nn, eqK_ts, eqK_st, eqK_ti, eqK_is, eqK_ns, flatD_str, flatD_int, flatD_bl, flatD_non, isT_NoneType_bool, isT_NoneType_int, isT_NoneType_str, isT_NoneType_tuple, isT_NoneType_list, isT_bool_bool, isT_bool_int, isT_bool_str, isT_bool_tuple, isT_bool_list, isT_int_bool, isT_int_int, isT_int_str, isT_int_tuple, isT_int_list, isT_str_bool, isT_str_int, isT_str_str, isT_str_tuple, isT_str_list, isT_tuple_bool, isT_tuple_int, isT_tuple_str, isT_tuple_tuple, isT_tuple_list, isT_list_bool, isT_list_int, isT_list_str, isT_list_tuple, isT_list_list, isNon_non, isNon_bl, isNon_int, isNon_str, isNon_tup, tyD_non, tyD_bl, tyD_int, tyD_str, tyD_tup, truD_bl, truD_int, truD_tup,
  atI_0, atI_1, atI_2, atI_3, atI_4, atI_m1, atI_m2, atI_m3, Option.some.injEq, exists_eq_left', exists_eq_left, beq_self_eq_true, Bool.not_true, Bool.not_false, if_true, if_false, true_and, and_true, Bool.false_eq_true, ↓reduceIte,
  List.getElem?_cons_zero, List.getElem?_cons_succ, List.set_cons_zero, List.set_cons_succ, List.map_cons, List.map_nil, List.length_cons, List.length_nil, mset_same, mset_mset, List.isEmpty_nil, List.isEmpty_cons, decide_eq_true_eq, beq_iff_eq, seqI_0, List.eraseIdx_cons_zero, List.eraseIdx_cons_succ, ixN_40, ixN_41, ixN_42, ixN_43, Nat.reduceAdd])
local macro_rules | `(tactic| walk_at "ne") => `(tactic| first | assumption | exact Ne.symm (by assumption))
local macro_rules | `(tactic| walk_at "mu") => `(tactic| first | exact mset_same | assumption | exact mset_skip (by walk_at "ne") (by walk_at "mu"))
local macro_rules | `(tactic| walk_at "go") => `(tactic| repeat (first | walk_at "pd" | refine ⟨_, seqOf_ref (by walk_at "mu"), ?_⟩ | refine ⟨⟨_, _, lstOf_ref (by walk_at "mu")⟩, ?_⟩ | refine ⟨_, _, lstOf_ref (by walk_at "mu"), ?_⟩ | refine ⟨(show CMul _ _ from Or.inr ⟨by decide, by decide⟩), ?_⟩ | refine ⟨(show CDiv _ _ from ⟨by decide, by decide⟩), ?_⟩))
local macro_rules | `(tactic| walk_at "w") => `(tactic| try walk_at "pd")
theorem rowD_zero (xs ys : Nat → Nat) : ∀ n : Nat, (List.replicate n [D.int 0]).flatten = rowD (dL xs ys 0) n
  | 0 => rfl
  | n + 1 => by rw [List.replicate_succ', List.flatten_append, rowD_zero xs ys n, rowD_succ, dL_zero]; rfl
section
variable {P : Program} {w : World} {K : PySem.W.Frag} {mg : Str → Option Value} {base : Heap}
def sp_longest (cB : Addr) : SpX := fun ds m Q Ed => ∃ (sg : List Nat) (v1 v2 : D), ds = [.str (tx sg), v1, v2] ∧ Rows cB sg [v1, v2] Ed (∀ xs ys, v1 = .str (tx xs) → v2 = .str (tx ys) → Q (.int (dL (cd xs) (cd ys) xs.length ys.length)) m) m
theorem ok_longest  (T : Txt K mg) (G__check_rows : FnOk P w K mg base (L2.CX P w) (3) T.f__check_rows T.fd__check_rows ["signs", "rows"] (spX K 2 (sp__check_rows T.c_BadRows))) : FnOk P w K mg base (L2.CX P w) (4) T.f_longest T.fd_longest ["signs", "one", "other"] (spX K 3 (sp_longest T.c_BadRows)) := by
  refine fn_okX T.F_longest sc_longest (fun cdv A outer s H E Ed hr tk =>
(gss_cons (gs_expr (ge_callX G__check_rows tk (hr.mono (by omega)) (by rfl) T.g__check_rows T.F__check_rows.kp T.b__check_rows (ga_cons (gv 0) (ga_cons (ge_tup (ga_cons (gv 1) (ga_cons (gv 2) ga_nil))) ga_nil))))
 (gss_cons (gs_set (i := 3) sc_longest.nd rfl (.inl rfl) (ge_op op_mulL lr_mulL (ge_lst (ga_cons ge_int ga_nil)) (ge_op op_addL lr_addL (ge_callB call_lenU lc_len (by rfl) T.z_len PySem.boot_len (ga_cons (gv 2) ga_nil)) ge_int)))
 (gss_cons (gs_for (passes_of rfl) rfl (gi_str (gv 1)) (gg_name (i := 4) sc_longest.nd rfl (.inl rfl))
 (gss_cons (gs_set (i := 5) sc_longest.nd rfl (.inl rfl) (ge_lst (ga_cons ge_int ga_nil)))
 (gss_cons (gs_for (passes_of rfl) rfl (gi_enumS (by rfl) T.z_enumerate (ga_cons (gv 2) ga_nil)) (gg_tup (n := 2) rfl (ggs_cons (gg_name (i := 6) sc_longest.nd rfl (.inl rfl)) (ggs_cons (gg_name (i := 7) sc_longest.nd rfl (.inl rfl)) ggs_nil)))
 (gss_cons (gs_set (i := 8) sc_longest.nd rfl (.inl rfl) (ge_op op_addL lr_addL (ge_ix (gv 3) (gv 6)) (ge_ifE (gt_cmpR (op_eqS hr.units) lr_eq (gv 4) (gv 7) (nomark _)) ge_int ge_int)))
 (gss_one (gs_expr (ge_bm PySem.F.slot_list_append PySem.F.type_list_append mt_append lm_append (gv 5) (ga_cons (ge_callB (call_max3Nu rfl) lc_max3 (by rfl) T.z_max (by decide +kernel) (ga_cons (gv 8) (ga_cons (ge_ix (gv 3) (ge_op op_addL lr_addL (gv 6) ge_int)) (ga_cons (ge_ix (gv 5) (gv 6)) ga_nil)))) ga_nil))))))
 (gss_one (gs_set (i := 3) sc_longest.nd rfl (.inl rfl) (gv 5))))))
 (gss_one (gs_ret (ge_ix (gv 3) (ge_un un_neg lu_neg ge_int)))))))) (fun ds m Q Ed h _ => ?_)
  obtain ⟨sg, v1, v2, rfl, h⟩ := h
  rw [show startD N_longest [.str (tx sg), v1, v2] = [some (.str (tx sg)), some (v1), some (v2), none, none, none, none, none, none] from rfl]
  walk_at "pd"
  rcases h with ⟨hg, q⟩ | ⟨pre, b, post, e, hg, hb, q⟩
  · obtain ⟨xs, rfl, hx1, hx2⟩ := hg v1 (by simp)
    obtain ⟨ys, rfl, hy1, hy2⟩ := hg v2 (by simp)
    refine ⟨sg, _, rfl, by simp, .inl ⟨hg, ?_⟩⟩
    have hyl : ys.length ≤ sizeLine := Nat.le_trans hy2 (by decide)
    walk_at "pd"
    intro p hp
    refine ⟨hyl, _, rfl, by omega, by omega, ?_, fun p1 hp1 => ?_⟩
    · rw [show ((ys.length : Int) + 1).toNat = ys.length + 1 by omega, List.length_singleton]
      exact Nat.le_trans (by omega : _ ≤ 101) (by decide)
    rw [show ((ys.length : Int) + 1).toNat = ys.length + 1 by omega, rowD_zero (cd xs) (cd ys)]
    refine loop_inv (fun rem s' m' => ∃ (i : Nat) (pc : Addr) (x6 x7 x8 x9 x10 : Option D), rem = (xs.drop i).map (fun c => .str (tx [c])) ∧ i ≤ xs.length ∧ s' = [some (.str (tx sg)), some (.str (tx xs)), some (.str (tx ys)), some (.ref pc), x6, x7, x8, x9, x10] ∧ PD.Sub m m' ∧ m' pc = some (.lst (rowD (dL (cd xs) (cd ys) i) (ys.length + 1)))) ?_ ?_ ⟨0, p1, none, none, none, none, none, rfl, by omega, rfl, PD.Sub.new' (.new hp) (mset_none hp1).1, mset_same⟩
    · rintro d rem s' m' R hR ⟨i, pc, x6, x7, x8, x9, x10, e1, hi, rfl, sb, epc⟩
      have hil : i < xs.length := by
        refine Nat.lt_of_le_of_ne hi fun e => ?_
        rw [e, List.drop_length] at e1; cases e1
      rw [List.drop_eq_getElem_cons hil, List.map_cons] at e1
      injection e1 with e1 e2
      subst e1
      refine ⟨trivial, ?_⟩
      walk_at "pd"
      intro p2 hp2
      have n2 : p2 ≠ pc := fun e => by rw [e, epc] at hp2; cases hp2
      refine loop_inv (fun rem s' m'' => ∃ (j : Nat) (x9 x10 x11 : Option D), rem = enumD j ((ys.drop j).map fun c => .str (tx [c])) ∧ j ≤ ys.length ∧ s' = [some (.str (tx sg)), some (.str (tx xs)), some (.str (tx ys)), some (.ref pc), some (.str (tx [xs[i]])), some (.ref p2), x9, x10, x11] ∧ PD.Sub m m'' ∧ m'' pc = some (.lst (rowD (dL (cd xs) (cd ys) i) (ys.length + 1))) ∧ m'' p2 = some (.lst (rowD (dL (cd xs) (cd ys) (i + 1)) (j + 1)))) ?_ ?_ ⟨0, x8, x9, x10, rfl, by omega, rfl, sb.new' (sb.free hp2), mset_new hp2 epc, ?_⟩
      · rintro d rem s' m'' R2 hR2 ⟨j, y9, y10, y11, e3, hj, rfl, sb2, ec2, eg2⟩
        have hjl : j < ys.length := by
          refine Nat.lt_of_le_of_ne hj fun e => ?_
          rw [e, List.drop_length] at e3; cases e3
        rw [enum_drop ys j j hjl] at e3
        injection e3 with e3 e4
        subst e3
        refine ⟨trivial, ?_⟩
        walk_at "pd"
        refine ⟨_, seqOf_ref ec2, _, rowD_at _ (by omega), ?_⟩
        by_cases c : xs[i] = ys[j]
        · rw [if_pos (by rw [c])]
          walk_at "pd"
          refine ⟨⟨_, _, lstOf_ref eg2⟩, _, seqOf_ref ec2, _, rowD_atS _ (by omega), _, seqOf_ref eg2, _, rowD_at _ (by omega), ?_⟩
          walk_at "pd"
          refine ⟨_, _, lstOf_ref eg2, by rw [rowD_len]; exact Nat.lt_of_le_of_lt (by omega : _ ≤ 101) (by decide), hR2 _ _ ⟨j + 1, _, _, _, e4, by omega, rfl, sb2.new' (sb.free hp2), by rw [mset_ne n2.symm]; exact ec2, ?_⟩⟩
          rw [mset_same, rowD_succ _ (j + 1), dL_succ, cd_at hil, cd_at hjl, if_pos c]
        · rw [if_neg fun e => c (by simpa using tx_inj e)]
          walk_at "pd"
          refine ⟨⟨_, _, lstOf_ref eg2⟩, _, seqOf_ref ec2, _, rowD_atS _ (by omega), _, seqOf_ref eg2, _, rowD_at _ (by omega), ?_⟩
          walk_at "pd"
          refine ⟨_, _, lstOf_ref eg2, by rw [rowD_len]; exact Nat.lt_of_le_of_lt (by omega : _ ≤ 101) (by decide), hR2 _ _ ⟨j + 1, _, _, _, e4, by omega, rfl, sb2.new' (sb.free hp2), by rw [mset_ne n2.symm]; exact ec2, ?_⟩⟩
          rw [mset_same, rowD_succ _ (j + 1), dL_succ, cd_at hil, cd_at hjl, if_neg c]
      · rintro s' m'' ⟨j, y9, y10, y11, e3, hj, rfl, sb2, ec2, eg2⟩
        refine ⟨trivial, ?_⟩
        have hjl : j = ys.length := by
          refine Nat.le_antisymm hj (Nat.not_lt.mp fun hl => ?_)
          rw [enum_drop ys j j hl] at e3; cases e3
        subst hjl
        walk_at "pd"
        exact hR _ _ ⟨i + 1, p2, _, _, _, _, _, e2, by omega, rfl, sb2, eg2⟩
      · rw [mset_same, rowD_succ]
        unfold rowD
        rw [dL_left]; rfl
    · rintro s' m' ⟨i, pc, x6, x7, x8, x9, x10, e1, hi, rfl, sb, epc⟩
      refine ⟨trivial, ?_⟩
      have hil : i = xs.length := by
        refine Nat.le_antisymm hi (Nat.not_lt.mp fun hl => ?_)
        rw [List.drop_eq_getElem_cons hl] at e1; cases e1
      subst hil
      walk_at "pd"
      exact ⟨_, seqOf_ref epc, _, rowD_last _ _, m, sb, q xs ys rfl rfl⟩
  · exact ⟨sg, _, rfl, by simp, .inr ⟨pre, b, post, e, hg, hb, q⟩⟩
end
end K78

set_option Elab.async false
set_option linter.all false
set_option maxRecDepth 100000
set_option maxHeartbeats 4000000
namespace K78
open PySem PySem.Spec PyProof.Rows L2 PD
open PySem.W (maxD)
local macro_rules | `(tactic| walk_at "pd") => `(tactic| simp (config := { decide := true, maxSteps := 400000 }) only [dAbs_i, ten12, tx_app, tx_len, tx_emp, dIx_tx, sgn_tx, cutS_to, cutS_fr, cutS_fr1, dPar, dIRng2, dIEnumS, dIStr, dInSg, dJoin, dSlS, dUpper, dChain, dDNewT, dDGetT, dDPutT, dMin3_i, dMax3_i, dCallX, dRaise, dSeq, dSet, dAsg, dgN, dRet, dRetN, dIfS, dFor, dLoop, dDrop, dNext, dVar, dC, dNil, dCons, dOp, dUn, dTest, dTru, dAnd, dOr, dNot, dAndV, dOrV, dNotV, dIfE, dTup, dLst, dCB, dCall, dCallP, dBM, dBM0, dLc, dComp, dYes, dgTup, dgCons, dgNil, dgSub, dPart, dNoPart, dAug, dIsi, dEq, dNe, wipeD, endsOf,
  dFrz, dFrzV_i, dFrzV_s, dFrzV_b, dFrzV_n, dFrzV_t, dFrzV_l, dFrzV_r, dAddL_i, dAddL_s, dAddL_t, dAddL_rr, dAddL_rl, dAddL_lr, dAddL_ll, dMulL_i, dMulL_s, dMulL_r, dSlL_v, dSlLV_t, dSlLV_l, dSlLV_r, dMinU_1, dMinU_2, dSumL_1, dSetTx_1, dIx_l, dLen_l, dInG_l, truD_rol, tyD_rol, dInt1_b, dISeqV_l, dLtS_i, dLtS_s, ltP_i, ltP_s, lsq_rol, dDNew, dDGet, dDGet2, dDSetd, dDPut, dSub_i, dInt2_i, dNeg_i, dCmp_i, dIsN_n, dNotN_n, dInG_t, dInG_r, dIx_t, dIx_r, dLen_s, dLen_t, dLen_r, dTuple_1, dList_1, dInt1_i, dRev_v, dRevV_t, dRevV_r, dISeq_v, dISeqV_t, dISeqV_r, dIEnum_v, dIEnumV_t, dIEnumV_r, dPop_0, dPop_i, dAppend_1, dExtend_1, dSub3_i, dIRng1_v, dRng1V_i,
  seqOf_tup, seqOf_rol, seqW_tup, eqK_ss, eqK_ii, eqK_bb, eqK_nn, eqK_ts, eqK_st, eqK_ti, eqK_is, eqK_ns, flatD_str, flatD_int, flatD_bl, flatD_non, isT_NoneType_bool, isT_NoneType_int, isT_NoneType_str, isT_NoneType_tuple, isT_NoneType_list, isT_bool_bool, isT_bool_int, isT_bool_str, isT_bool_tuple, isT_bool_list, isT_int_bool, isT_int_int, isT_int_str, isT_int_tuple, isT_int_list, isT_str_bool, isT_str_int, isT_str_str, isT_str_tuple, isT_str_list, isT_tuple_bool, isT_tuple_int, isT_tuple_str, isT_tuple_tuple, isT_tuple_list, isT_list_bool, isT_list_int, isT_list_str, isT_list_tuple, isT_list_list, isNon_non, isNon_bl, isNon_int, isNon_str, isNon_tup, tyD_non, tyD_bl, tyD_int, tyD_str, tyD_tup, truD_bl, truD_int, truD_tup,
  atI_0, atI_1, atI_2, atI_3, atI_4, atI_m1, atI_m2, atI_m3, Option.some.injEq, exists_eq_left', exists_eq_left, beq_self_eq_true, Bool.not_true, Bool.not_false, if_true, if_false, true_and, and_true, Bool.false_eq_true, ↓reduceIte,
  List.getElem?_cons_zero, List.getElem?_cons_succ, List.set_cons_zero, List.set_cons_succ, List.map_cons, List.map_nil, List.length_cons, List.length_nil, mset_same, mset_mset, List.isEmpty_nil, List.isEmpty_cons, decide_eq_true_eq, beq_iff_eq, seqI_0, List.eraseIdx_cons_zero, List.eraseIdx_cons_succ, ixN_40, ixN_41, ixN_42, ixN_43, Nat.reduceAdd])
local macro_rules | `(tactic| walk_at "ne") => `(tactic| first | assumption | exact Ne.symm (by assumption))
local macro_rules | `(tactic| walk_at "mu") => `(tactic| first | exact mset_same | assumption | exact mset_skip (by walk_at "ne") (by walk_at "mu"))
local macro_rules | `(tactic| walk_at "go") => `(tactic| repeat (first | walk_at "pd" | refine ⟨_, seqOf_ref (by walk_at "mu"), ?_⟩ | refine ⟨⟨_, _, lstOf_ref (by walk_at "mu")⟩, ?_⟩ | refine ⟨_, _, lstOf_ref (by walk_at "mu"), ?_⟩ | refine ⟨(show CMul _ _ from Or.inr ⟨by decide, by decide⟩), ?_⟩ | refine ⟨(show CDiv _ _ from ⟨by decide, by decide⟩), ?_⟩))
local macro_rules | `(tactic| walk_at "w") => `(tactic| try walk_at "pd")
/-! ### dicts -/
section
variable {κ : Type} [DecidableEq κ]
theorem valD_cons {kv : κ × D} {kvs : List (κ × D)} {k : κ} : valD (kv :: kvs) k = if kv.1 = k then some kv.2 else valD kvs k := by
  unfold valD
  rw [List.find?_cons]
  by_cases h : kv.1 = k
  · rw [decide_eq_true h, if_pos h]; rfl
  · rw [decide_eq_false h, if_neg h]
theorem valD_upd {k k' : κ} {d : D} : ∀ kvs : List (κ × D), valD (kvs.map fun kv => if kv.1 = k then (kv.1, d) else kv) k' = if k = k' then (if (kvs.any fun kv => decide (kv.1 = k)) = true then some d else none) else valD kvs k'
  | [] => by by_cases h : k = k' <;> simp [valD, h]
  | kv :: kvs => by
    rw [List.map_cons, valD_cons, valD_upd kvs, List.any_cons]
    by_cases h : kv.1 = k
    · rw [if_pos h, decide_eq_true h, Bool.true_or, if_pos rfl]
      by_cases h2 : k = k'
      · rw [if_pos h2, if_pos (h.trans h2), if_pos h2]
      · rw [if_neg h2, if_neg h2, if_neg (fun e => h2 (h.symm.trans e)), valD_cons, if_neg (fun e => h2 (h.symm.trans e))]
    · rw [if_neg h, decide_eq_false h, Bool.false_or]
      by_cases h2 : k = k'
      · rw [if_pos h2, if_pos h2, if_neg (fun e => h (e.trans h2.symm))]
      · rw [if_neg h2, if_neg h2, valD_cons]
theorem valD_add {k k' : κ} {d : D} : ∀ kvs : List (κ × D), (kvs.any fun kv => decide (kv.1 = k)) = false → valD (kvs ++ [(k, d)]) k' = if k = k' then some d else valD kvs k'
  | [], _ => by rw [List.nil_append, valD_cons]
  | kv :: kvs, h => by
    rw [List.any_cons, Bool.or_eq_false_iff] at h
    have hk : ¬ kv.1 = k := of_decide_eq_false h.1
    rw [List.cons_append, valD_cons, valD_add kvs h.2, valD_cons]
    by_cases h2 : k = k'
    · rw [if_pos h2, if_pos h2, if_neg (fun e => hk (e.trans h2.symm))]
    · rw [if_neg h2, if_neg h2]
theorem valD_put {k k' : κ} {d : D} (kvs : List (κ × D)) : valD (putKD kvs k d) k' = if k = k' then some d else valD kvs k' := by
  unfold putKD
  by_cases h : (kvs.any fun kv => decide (kv.1 = k)) = true
  · rw [if_pos h, valD_upd, if_pos h]
  · rw [if_neg h, valD_add _ ((Bool.not_eq_true _).mp h)]
theorem put_len {k : κ} {d : D} (kvs : List (κ × D)) : (putKD kvs k d).length ≤ kvs.length + 1 := by
  unfold putKD
  split
  · rw [List.length_map]; omega
  · rw [List.length_append]; exact Nat.le_refl _
end
/-! ### the greatest of ints -/
theorem ordL_is (xs : List Int) : OrdL (xs.map .int) where
  dat d hd := by obtain ⟨i, _, rfl⟩ := List.mem_map.mp hd; rfl
  al x hx y hy := by
    obtain ⟨i, _, rfl⟩ := List.mem_map.mp hx
    obtain ⟨j, _, rfl⟩ := List.mem_map.mp hy
    rfl
  dep x hx := by obtain ⟨i, _, rfl⟩ := List.mem_map.mp hx; exact Nat.zero_le _
theorem nn_is (xs : List Int) : ∀ x ∈ xs.map D.int, encP x ≠ .none := fun x hx => by
  obtain ⟨i, _, rfl⟩ := List.mem_map.mp hx
  intro z; cases z
theorem max_is (x : Int) (xs : List Int) (d : D) (h : encP d = maxD (encP (.int x)) ((xs.map D.int).map encP)) (hm : d ∈ D.int x :: xs.map .int) : d = .int (xs.foldl max x) := by
  have e : (xs.map D.int).map encP = xs.map .int := by rw [List.map_map]; rfl
  rw [e, show encP (.int x) = .int x from rfl, PySem.W.maxD_ints] at h
  obtain ⟨i, hi, rfl⟩ : ∃ i ∈ x :: xs, D.int i = d := List.mem_map.mp (show d ∈ (x :: xs).map D.int from hm)
  rw [show encP (.int i) = .int i from rfl] at h
  rw [PyData.int.inj h]
theorem max_int (x : Int) (xs : List Int) {Q : D → Prop} (h : Q (.int (xs.foldl max x))) : ∃ d es, D.int x :: xs.map .int = d :: es ∧ OrdL (d :: es) ∧ (∀ x ∈ d :: es, encP x ≠ .none) ∧ ∀ y ∈ d :: es, encP y = maxD (encP d) (es.map encP) → Q y :=
  ⟨.int x, xs.map .int, rfl, ordL_is (x :: xs), nn_is (x :: xs), fun d hd e => by rw [max_is x xs d e hd]; exact h⟩
def okW (wsD : List D) (t : List Nat) (s p : Nat) : Bool := inF (.str (tx ([cd t s] ++ [cd t p]))) wsD
def kAB (a b : Nat) : List Key := [.inl (a : Int), .inl (b : Int)]
section
variable {P : Program} {w : World} {K : PySem.W.Frag} {mg : Str → Option Value} {base : Heap}
def sp__most_within : SpD := fun ds m Q => ∃ (wsD : List D) (t : List Nat) (s e : Nat) (d : Addr) (kvs : List (List Key × D)), ds = [.tup wsD, .str (tx t), .int (s : Int), .int (e : Int), .ref d] ∧ wsD.all flatD = true ∧ t.length ≤ 100 ∧ s ≤ e ∧ e ≤ t.length ∧ m d = some (.dcT kvs) ∧ (∀ a b, a ≤ b → b ≤ t.length → b - a < e - s → valD kvs (kAB a b) = some (.int (nN (okW wsD t) a b))) ∧ Q (.int (nN (okW wsD t) s e)) m
theorem ok__most_within  (T : Txt K mg)  : FnOk P w K mg base CX0 (1) T.f__most_within T.fd__most_within ["words", "text", "start", "end", "most"] (spL K 5 sp__most_within) := by
  refine fn_ok T.F__most_within sc__most_within (fun cdv A outer s H E hr =>
(gss_cons (gs_if (gt_cmpR (op_eqS hr.units) lr_eq (gv 2) (gv 3) (nomark _))
 (gss_one (gs_ret ge_int))
 gss_nil)
 (gss_cons (gs_set (i := 5) sc__most_within.nd rfl (.inl rfl) (ge_lst (ga_cons (ge_dgetT (lt1 hr.units) (gv 4) (ga_cons (ge_op op_addL lr_addL (gv 2) ge_int) (ga_cons (gv 3) ga_nil)) (fun _ _ => rfl)) ga_nil)))
 (gss_cons (gs_for PassesOwn.never rfl (gi_rng2 (by rfl) T.z_range (ga_cons (ge_op op_addL lr_addL (gv 2) ge_int) (ga_cons (gv 3) ga_nil))) (gg_name (i := 6) sc__most_within.nd rfl (.inl rfl))
 (gss_one (gs_if (gt_cmpR op_inU lr_in (ge_op op_addL lr_addL (ge_ix (gv 1) (gv 2)) (ge_ix (gv 1) (gv 6))) (gv 0) (by rfl))
 (gss_one (gs_expr (ge_bm PySem.F.slot_list_append PySem.F.type_list_append mt_append lm_append (gv 5) (ga_cons (ge_op op_addL lr_addL (ge_op op_addL lr_addL ge_int (ge_dgetT (lt1 hr.units) (gv 4) (ga_cons (ge_op op_addL lr_addL (gv 2) ge_int) (ga_cons (gv 6) ga_nil)) (fun _ _ => rfl))) (ge_dgetT (lt1 hr.units) (gv 4) (ga_cons (ge_op op_addL lr_addL (gv 6) ge_int) (ga_cons (gv 3) ga_nil)) (fun _ _ => rfl))) ga_nil))))
 gss_nil)))
 (gss_one (gs_ret (ge_callB (cr_maxU rfl hr.units) lc_minU (by rfl) T.z_max (by decide +kernel) (ga_cons (gv 5) ga_nil)))))))) (fun ds m Q h => ?_)
  obtain ⟨wsD, t, s, e, d, kvs, rfl, hf, hl, hse, hel, ed, ht, h⟩ := h
  rw [show startD N__most_within [.tup wsD, .str (tx t), .int (s : Int), .int (e : Int), .ref d] = [some (.tup wsD), some (.str (tx t)), some (.int (s : Int)), some (.int (e : Int)), some (.ref d), none, none] from rfl]
  walk_at "pd"
  by_cases c : s = e
  · rw [if_pos (by omega)]
    rw [nN_none _ (by omega)] at h
    exact sub_refl_fin h
  rw [if_neg (by omega)]
  have hlt : s < e := by omega
  have h1 := ht (s + 1) e (by omega) hel (by omega)
  refine ⟨_, _, kAB (s + 1) e, _, rfl, ed, rfl, h1, fun p hp => ?_⟩
  have hpd : p ≠ d := fun z => by rw [z, ed] at hp; cases hp
  refine ⟨⟨by omega, by omega, by omega, by omega⟩, ?_⟩
  have er : rangeD ((s : Int) + 1) ((e : Int) - (s + 1)).toNat = (List.range' (s + 1) (e - s - 1)).map fun p => .int (p : Int) := by
    rw [show ((e : Int) - (s + 1)).toNat = e - s - 1 by omega]
    unfold rangeD
    rw [List.range'_eq_map_range, List.map_map]
    refine List.map_congr_left fun i _ => ?_
    show D.int ((s : Int) + 1 + (i : Int)) = D.int (((s + 1 + i : Nat) : Int))
    congr 1
  rw [er]
  refine loop_inv (fun rem s' m' => ∃ (pre post : List Nat) (x : Option D), List.range' (s + 1) (e - s - 1) = pre ++ post ∧ rem = post.map (fun p => .int (p : Int)) ∧ s' = [some (.tup wsD), some (.str (tx t)), some (.int (s : Int)), some (.int (e : Int)), some (.ref d), some (.ref p), x] ∧ m' = mset m p (.lst (.int (nN (okW wsD t) (s + 1) e) :: ((pre.filter (okW wsD t s)).map fun p => 1 + nN (okW wsD t) (s + 1) p + nN (okW wsD t) (p + 1) e).map .int))) ?_ ?_ ⟨[], _, none, rfl, rfl, rfl, rfl⟩
  · rintro y rem s' m' R hR ⟨pre, post, x, e1, e2, rfl, rfl⟩
    cases post with
    | nil => cases e2
    | cons i post =>
      rw [List.map_cons] at e2
      injection e2 with e2 e3
      subst e2
      have hi : i ∈ List.range' (s + 1) (e - s - 1) := by rw [e1]; simp
      rw [List.mem_range'_1] at hi
      have hpl : pre.length ≤ 100 := by
        have := congrArg List.length e1
        rw [List.length_range', List.length_append] at this
        omega
      have htl : t.length ≤ sizeLine := Nat.le_trans hl (by decide)
      refine ⟨trivial, ?_⟩
      walk_at "pd"
      have hst : s < t.length := by omega
      have hit : i < t.length := by omega
      refine ⟨htl, _, atI_getD hst, htl, _, atI_getD hit, hf, ?_⟩
      have ew : inF (.str (tx ([t[s]] ++ [t[i]]))) wsD = okW wsD t s i := by unfold okW; rw [cd_at hst, cd_at hit]
      rw [ew]
      cases eo : okW wsD t s i with
      | true =>
        rw [if_pos rfl]
        refine ⟨⟨_, _, lstOf_ref mset_same⟩, _, _, kAB (s + 1) i, _, rfl, by rw [mset_ne hpd.symm]; exact ed, rfl, ht (s + 1) i (by omega) (by omega) (by omega), ?_⟩
        walk_at "pd"
        refine ⟨_, _, kAB (i + 1) e, _, rfl, by rw [mset_ne hpd.symm]; exact ed, rfl, ht (i + 1) e (by omega) (by omega) (by omega), ?_⟩
        walk_at "pd"
        refine ⟨_, _, lstOf_ref mset_same, ?_, hR _ _ ⟨pre ++ [i], post, _, by rw [e1]; simp, e3, rfl, ?_⟩⟩
        · rw [List.length_cons, List.length_map, List.length_map]
          have := List.length_filter_le (okW wsD t s) pre
          exact Nat.lt_of_le_of_lt (by omega : _ ≤ 101) (by decide)
        · rw [mset_mset, List.filter_append, List.map_append, List.map_append]
          congr 2
          rw [List.filter_cons, if_pos eo]; rfl
      | false =>
        rw [if_neg Bool.false_ne_true]
        refine hR _ _ ⟨pre ++ [i], post, _, by rw [e1]; simp, e3, rfl, ?_⟩
        rw [List.filter_append, List.filter_cons, if_neg (by rw [eo]; exact Bool.false_ne_true), List.filter_nil, List.append_nil]
  · rintro s' m' ⟨pre, post, x, e1, e2, rfl, rfl⟩
    refine ⟨trivial, ?_⟩
    cases post with
    | cons i post => cases e2
    | nil =>
      rw [List.append_nil] at e1
      walk_at "pd"
      obtain ⟨d1, es, q1, q2, q3, q4⟩ := max_int (nN (okW wsD t) (s + 1) e) ((pre.filter (okW wsD t s)).map fun p => 1 + nN (okW wsD t) (s + 1) p + nN (okW wsD t) (p + 1) e) (Q := fun x => Q x m) (by rw [← e1, ← nN_is _ hlt]; exact h)
      exact ⟨d1, es, by rw [seqOf_ref mset_same, q1], q2, q3, fun x hx ex => ⟨m, .new hp, q4 x hx ex⟩⟩
end
end K78

set_option Elab.async false
set_option linter.all false
set_option maxRecDepth 100000
set_option maxHeartbeats 4000000
namespace K78
open PySem PySem.Spec PyProof.Rows L2 PD
local macro_rules | `(tactic| walk_at "pd") => `(tactic| simp (config := { decide := true, maxSteps := 400000 }) only [dAbs_i, ten12, tx_app, tx_len, tx_emp, dIx_tx, sgn_tx, cutS_to, cutS_fr, cutS_fr1, dPar, dIRng2, dIEnumS, dIStr, dInSg, dJoin, dSlS, dUpper, dChain, dDNewT, dDGetT, dDPutT, dMin3_i, dMax3_i, dCallX, dRaise, dSeq, dSet, dAsg, dgN, dRet, dRetN, dIfS, dFor, dLoop, dDrop, dNext, dVar, dC, dNil, dCons, dOp, dUn, dTest, dTru, dAnd, dOr, dNot, dAndV, dOrV, dNotV, dIfE, dTup, dLst, dCB, dCall, dCallP, dBM, dBM0, dLc, dComp, dYes, dgTup, dgCons, dgNil, dgSub, dPart, dNoPart, dAug, dIsi, dEq, dNe, wipeD, endsOf,
  dFrz, dFrzV_i, dFrzV_s, dFrzV_b, dFrzV_n, dFrzV_t, dFrzV_l, dFrzV_r, dAddL_i, dAddL_s, dAddL_t, dAddL_rr, dAddL_rl, dAddL_lr, dAddL_ll, dMulL_i, dMulL_s, dMulL_r, dSlL_v, dSlLV_t, dSlLV_l, dSlLV_r, dMinU_1, dMinU_2, dSumL_1, dSetTx_1, dIx_l, dLen_l, dInG_l, truD_rol, tyD_rol, dInt1_b, dISeqV_l, dLtS_i, dLtS_s, ltP_i, ltP_s, lsq_rol, dDNew, dDGet, dDGet2, dDSetd, dDPut, dSub_i, dInt2_i, dNeg_i, dCmp_i, dIsN_n, dNotN_n, dInG_t, dInG_r, dIx_t, dIx_r, dLen_s, dLen_t, dLen_r, dTuple_1, dList_1, dInt1_i, dRev_v, dRevV_t, dRevV_r, dISeq_v, dISeqV_t, dISeqV_r, dIEnum_v, dIEnumV_t, dIEnumV_r, dPop_0, dPop_i, dAppend_1, dExtend_1, dSub3_i, dIRng1_v, dRng1V_i,
  seqOf_tup, seqOf_rol, seqW_tup, eqK_ss, eqK_ii, eqK_bb, eqK_nn, eqK_ts, eqK_st, eqK_ti, eqK_is, eqK_ns, flatD_str, flatD_int, flatD_bl, flatD_non, isT_NoneType_bool, isT_NoneType_int, isT_NoneType_str, isT_NoneType_tuple, isT_NoneType_list, isT_bool_bool, isT_bool_int, isT_bool_str, isT_bool_tuple, isT_bool_list, isT_int_bool, isT_int_int, isT_int_str, isT_int_tuple, isT_int_list, isT_str_bool, isT_str_int, isT_str_str, isT_str_tuple, isT_str_list, isT_tuple_bool, isT_tuple_int, isT_tuple_str, isT_tuple_tuple, isT_tuple_list, isT_list_bool, isT_list_int, isT_list_str, isT_list_tuple, isT_list_list, isNon_non, isNon_bl, isNon_int, isNon_str, isNon_tup, tyD_non, tyD_bl, tyD_int, tyD_str, tyD_tup, truD_bl, truD_int, truD_tup,
  atI_0, atI_1, atI_2, atI_3, atI_4, atI_m1, atI_m2, atI_m3, Option.some.injEq, exists_eq_left', exists_eq_left, beq_self_eq_true, Bool.not_true, Bool.not_false, if_true, if_false, true_and, and_true, Bool.false_eq_true, ↓reduceIte,
  List.getElem?_cons_zero, List.getElem?_cons_succ, List.set_cons_zero, List.set_cons_succ, List.map_cons, List.map_nil, List.length_cons, List.length_nil, mset_same, mset_mset, List.isEmpty_nil, List.isEmpty_cons, decide_eq_true_eq, beq_iff_eq, seqI_0, List.eraseIdx_cons_zero, List.eraseIdx_cons_succ, ixN_40, ixN_41, ixN_42, ixN_43, Nat.reduceAdd])
local macro_rules | `(tactic| walk_at "ne") => `(tactic| first | assumption | exact Ne.symm (by assumption))
local macro_rules | `(tactic| walk_at "mu") => `(tactic| first | exact mset_same | assumption | exact mset_skip (by walk_at "ne") (by walk_at "mu"))
local macro_rules | `(tactic| walk_at "go") => `(tactic| repeat (first | walk_at "pd" | refine ⟨_, seqOf_ref (by walk_at "mu"), ?_⟩ | refine ⟨⟨_, _, lstOf_ref (by walk_at "mu")⟩, ?_⟩ | refine ⟨_, _, lstOf_ref (by walk_at "mu"), ?_⟩ | refine ⟨(show CMul _ _ from Or.inr ⟨by decide, by decide⟩), ?_⟩ | refine ⟨(show CDiv _ _ from ⟨by decide, by decide⟩), ?_⟩))
local macro_rules | `(tactic| walk_at "w") => `(tactic| try walk_at "pd")
section
variable {P : Program} {w : World} {K : PySem.W.Frag} {mg : Str → Option Value} {base : Heap}
/-- the table up to a width and a start -/
def Tab (ok : Nat → Nat → Bool) (n wd st : Nat) (kvs : List (List Key × D)) : Prop := kvs.length ≤ wd * 101 + st ∧ ∀ a b, a ≤ b → b ≤ n → (b - a < wd ∨ (b - a = wd ∧ a < st)) → valD kvs (kAB a b) = some (.int (nN ok a b))
theorem kAB_inj {a b c d : Nat} (h : kAB a b = kAB c d) : a = c ∧ b = d := by
  unfold kAB at h
  injection h with h1 h2
  injection h2 with h2 _
  have e1 := Sum.inl.inj h1
  have e2 := Sum.inl.inj h2
  omega
theorem Tab.put {ok : Nat → Nat → Bool} {n wd st : Nat} {kvs : List (List Key × D)} (h : Tab ok n wd st kvs) : Tab ok n wd (st + 1) (putKD kvs (kAB st (st + wd)) (.int (nN ok st (st + wd)))) := by
  refine ⟨Nat.le_trans (put_len _) (by have := h.1; omega), fun a b h1 h2 h3 => ?_⟩
  rw [valD_put]
  by_cases e : kAB st (st + wd) = kAB a b
  · obtain ⟨e1, e2⟩ := kAB_inj e
    rw [if_pos e, ← e1, ← e2]
  · rw [if_neg e]
    refine h.2 a b h1 h2 ?_
    rcases h3 with h3 | ⟨h3, h4⟩
    · exact .inl h3
    · refine .inr ⟨h3, ?_⟩
      by_cases q : a = st
      · exact absurd (by rw [q]; congr 1; omega) e
      · omega
theorem Tab.next {ok : Nat → Nat → Bool} {n wd : Nat} {kvs : List (List Key × D)} (h : Tab ok n wd (n - wd + 1) kvs) (hn : n ≤ 100) (hw : wd ≤ n) : Tab ok n (wd + 1) 0 kvs :=
  ⟨by have := h.1; omega, fun a b h1 h2 h3 => h.2 a b h1 h2 (by omega)⟩
def sp_nested (cB : Addr) : SpX := fun ds m Q Ed => ∃ (sg : List Nat) (wsD : List D) (v : D), ds = [.str (tx sg), .tup wsD, v] ∧ wsD.all flatD = true ∧ Rows cB sg [v] Ed (∀ t, v = .str (tx t) → Q (.int (nN (okW wsD t) 0 t.length)) m) m
theorem ok_nested  (T : Txt K mg) (G__most_within : FnOk P w K mg base CX0 (1) T.f__most_within T.fd__most_within ["words", "text", "start", "end", "most"] (spL K 5 sp__most_within)) (G__check_rows : FnOk P w K mg base (L2.CX P w) (3) T.f__check_rows T.fd__check_rows ["signs", "rows"] (spX K 2 (sp__check_rows T.c_BadRows))) : FnOk P w K mg base (L2.CX P w) (4) T.f_nested T.fd_nested ["signs", "words", "text"] (spX K 3 (sp_nested T.c_BadRows)) := by
  refine fn_okX T.F_nested sc_nested (fun cdv A outer s H E Ed hr tk =>
(gss_cons (gs_expr (ge_callX G__check_rows tk (hr.mono (by omega)) (by rfl) T.g__check_rows T.F__check_rows.kp T.b__check_rows (ga_cons (gv 0) (ga_cons (ge_tup (ga_cons (gv 2) ga_nil)) ga_nil))))
 (gss_cons (gs_set (i := 3) sc_nested.nd rfl (.inl rfl) ge_dnewT)
 (gss_cons (gs_for (passes_of rfl) rfl (gi_rng1 (by rfl) T.z_range (ga_cons (ge_op op_addL lr_addL (ge_callB call_lenU lc_len (by rfl) T.z_len PySem.boot_len (ga_cons (gv 2) ga_nil)) ge_int) ga_nil)) (gg_name (i := 4) sc_nested.nd rfl (.inl rfl))
 (gss_one (gs_for (passes_of rfl) rfl (gi_rng1 (by rfl) T.z_range (ga_cons (ge_op op_addL lr_addL (ge_op op_sub lr_sub (ge_callB call_lenU lc_len (by rfl) T.z_len PySem.boot_len (ga_cons (gv 2) ga_nil)) (gv 4)) ge_int) ga_nil)) (gg_name (i := 5) sc_nested.nd rfl (.inl rfl))
 (gss_one (gs_dputT (lt1 hr.units) (gv 3) (ga_cons (gv 5) (ga_cons (ge_op op_addL lr_addL (gv 5) (gv 4)) ga_nil)) (ge_call G__most_within (hr.mono (by omega)) (by rfl) T.g__most_within T.F__most_within.kp T.b__most_within (ga_cons (gv 1) (ga_cons (gv 2) (ga_cons (gv 5) (ga_cons (ge_frz (ge_op op_addL lr_addL (gv 5) (gv 4))) (ga_cons (gv 3) ga_nil)))))))))))
 (gss_one (gs_ret (ge_dgetT (lt1 hr.units) (gv 3) (ga_cons ge_int (ga_cons (ge_callB call_lenU lc_len (by rfl) T.z_len PySem.boot_len (ga_cons (gv 2) ga_nil)) ga_nil)) (fun _ _ => rfl)))))))) (fun ds m Q Ed h _ => ?_)
  obtain ⟨sg, wsD, v, rfl, hf, h⟩ := h
  rw [show startD N_nested [.str (tx sg), .tup wsD, v] = [some (.str (tx sg)), some (.tup wsD), some (v), none, none, none] from rfl]
  walk_at "pd"
  rcases h with ⟨hg, q⟩ | ⟨pre, b, post, e, hg, hb, q⟩
  · obtain ⟨t, rfl, ht1, ht2⟩ := hg v (by simp)
    have q := q t rfl
    refine ⟨sg, _, rfl, by simp, .inl ⟨hg, ?_⟩⟩
    have htl : t.length ≤ sizeLine := Nat.le_trans ht2 (by decide)
    walk_at "pd"
    intro d hd
    refine ⟨htl, by omega, by omega, ?_⟩
    rw [show ((t.length : Int) + 1).toNat = t.length + 1 by omega]
    refine loop_range (fun wd s' m' => ∃ (kvs : List (List Key × D)) (x y : Option D), s' = [some (.str (tx sg)), some (.tup wsD), some (.str (tx t)), some (.ref d), x, y] ∧ m' = mset m d (.dcT kvs) ∧ Tab (okW wsD t) t.length wd 0 kvs) ?_ ?_ ⟨[], none, none, rfl, rfl, ?_⟩
    · rintro wd s' m' R hwd hR ⟨kvs, x, y, rfl, rfl, T1⟩
      refine ⟨trivial, ?_⟩
      walk_at "pd"
      refine ⟨htl, by omega, by omega, ?_⟩
      rw [show ((t.length : Int) - wd + 1).toNat = t.length - wd + 1 by omega]
      refine loop_range (fun st s' m' => ∃ (kvs : List (List Key × D)) (y : Option D), s' = [some (.str (tx sg)), some (.tup wsD), some (.str (tx t)), some (.ref d), some (.int (wd : Int)), y] ∧ m' = mset m d (.dcT kvs) ∧ Tab (okW wsD t) t.length wd st kvs) ?_ ?_ ⟨kvs, y, rfl, rfl, T1⟩
      · rintro st s' m' R2 hst hR2 ⟨kvs, y, rfl, rfl, T2⟩
        refine ⟨trivial, ?_⟩
        walk_at "pd"
        refine ⟨wsD, t, st, st + wd, d, kvs, ?_, hf, ht2, by omega, by omega, mset_same, fun a b h1 h2 h3 => T2.2 a b h1 h2 (by omega), ?_⟩
        · simp
        walk_at "pd"
        refine ⟨_, _, kAB st (st + wd), rfl, mset_same, ?_, ?_, hR2 _ _ ⟨_, _, rfl, ?_, T2.put⟩⟩
        · unfold kAB; simp [toKeys, toKey]
        · have := T2.1
          exact Nat.lt_of_le_of_lt (by omega : _ ≤ 10303) (by decide)
        · rw [mset_mset]
      · rintro s' m' ⟨kvs, y, rfl, rfl, T2⟩
        exact ⟨trivial, hR _ _ ⟨kvs, _, _, rfl, rfl, T2.next ht2 (by omega)⟩⟩
    · rintro s' m' ⟨kvs, x, y, rfl, rfl, T1⟩
      refine ⟨trivial, ?_⟩
      walk_at "pd"
      refine ⟨htl, _, _, kAB 0 t.length, _, rfl, mset_same, rfl, T1.2 0 t.length (by omega) (by omega) (by omega), m, .new hd, q⟩
    · exact ⟨by simp, fun a b h1 h2 h3 => by omega⟩
  · exact ⟨sg, _, rfl, by simp, .inr ⟨pre, b, post, e, hg, hb, q⟩⟩
end
end K78

set_option Elab.async false
set_option linter.all false
set_option maxRecDepth 100000
set_option maxHeartbeats 4000000
namespace K78
open PySem PySem.Spec PyProof.Rows L2 PD
local macro_rules | `(tactic| walk_at "pd") => `(tactic| simp (config := { decide := true, maxSteps := 400000 }) only [dAbs_i, ten12, tx_app, tx_len, tx_emp, dIx_tx, sgn_tx, cutS_to, cutS_fr, cutS_fr1, dPar, dIRng2, dIEnumS, dIStr, dInSg, dJoin, dSlS, dUpper, dChain, dDNewT, dDGetT, dDPutT, dMin3_i, dMax3_i, dCallX, dRaise, dSeq, dSet, dAsg, dgN, dRet, dRetN, dIfS, dFor, dLoop, dDrop, dNext, dVar, dC, dNil, dCons, dOp, dUn, dTest, dTru, dAnd, dOr, dNot, dAndV, dOrV, dNotV, dIfE, dTup, dLst, dCB, dCall, dCallP, dBM, dBM0, dLc, dComp, dYes, dgTup, dgCons, dgNil, dgSub, dPart, dNoPart, dAug, dIsi, dEq, dNe, wipeD, endsOf,
  dFrz, dFrzV_i, dFrzV_s, dFrzV_b, dFrzV_n, dFrzV_t, dFrzV_l, dFrzV_r, dAddL_i, dAddL_s, dAddL_t, dAddL_rr, dAddL_rl, dAddL_lr, dAddL_ll, dMulL_i, dMulL_s, dMulL_r, dSlL_v, dSlLV_t, dSlLV_l, dSlLV_r, dMinU_1, dMinU_2, dSumL_1, dSetTx_1, dIx_l, dLen_l, dInG_l, truD_rol, tyD_rol, dInt1_b, dISeqV_l, dLtS_i, dLtS_s, ltP_i, ltP_s, lsq_rol, dDNew, dDGet, dDGet2, dDSetd, dDPut, dSub_i, dInt2_i, dNeg_i, dCmp_i, dIsN_n, dNotN_n, dInG_t, dInG_r, dIx_t, dIx_r, dLen_s, dLen_t, dLen_r, dTuple_1, dList_1, dInt1_i, dRev_v, dRevV_t, dRevV_r, dISeq_v, dISeqV_t, dISeqV_r, dIEnum_v, dIEnumV_t, dIEnumV_r, dPop_0, dPop_i, dAppend_1, dExtend_1, dSub3_i, dIRng1_v, dRng1V_i,
  seqOf_tup, seqOf_rol, seqW_tup, eqK_ss, eqK_ii, eqK_bb, eqK_nn, eqK_ts, eqK_st, eqK_ti, eqK_is, eqK_ns, flatD_str, flatD_int, flatD_bl, flatD_non, isT_NoneType_bool, isT_NoneType_int, isT_NoneType_str, isT_NoneType_tuple, isT_NoneType_list, isT_bool_bool, isT_bool_int, isT_bool_str, isT_bool_tuple, isT_bool_list, isT_int_bool, isT_int_int, isT_int_str, isT_int_tuple, isT_int_list, isT_str_bool, isT_str_int, isT_str_str, isT_str_tuple, isT_str_list, isT_tuple_bool, isT_tuple_int, isT_tuple_str, isT_tuple_tuple, isT_tuple_list, isT_list_bool, isT_list_int, isT_list_str, isT_list_tuple, isT_list_list, isNon_non, isNon_bl, isNon_int, isNon_str, isNon_tup, tyD_non, tyD_bl, tyD_int, tyD_str, tyD_tup, truD_bl, truD_int, truD_tup,
  atI_0, atI_1, atI_2, atI_3, atI_4, atI_m1, atI_m2, atI_m3, Option.some.injEq, exists_eq_left', exists_eq_left, beq_self_eq_true, Bool.not_true, Bool.not_false, if_true, if_false, true_and, and_true, Bool.false_eq_true, ↓reduceIte,
  List.getElem?_cons_zero, List.getElem?_cons_succ, List.set_cons_zero, List.set_cons_succ, List.map_cons, List.map_nil, List.length_cons, List.length_nil, mset_same, mset_mset, List.isEmpty_nil, List.isEmpty_cons, decide_eq_true_eq, beq_iff_eq, seqI_0, List.eraseIdx_cons_zero, List.eraseIdx_cons_succ, ixN_40, ixN_41, ixN_42, ixN_43, Nat.reduceAdd])
local macro_rules | `(tactic| walk_at "ne") => `(tactic| first | assumption | exact Ne.symm (by assumption))
local macro_rules | `(tactic| walk_at "mu") => `(tactic| first | exact mset_same | assumption | exact mset_skip (by walk_at "ne") (by walk_at "mu"))
local macro_rules | `(tactic| walk_at "go") => `(tactic| repeat (first | walk_at "pd" | refine ⟨_, seqOf_ref (by walk_at "mu"), ?_⟩ | refine ⟨⟨_, _, lstOf_ref (by walk_at "mu")⟩, ?_⟩ | refine ⟨_, _, lstOf_ref (by walk_at "mu"), ?_⟩ | refine ⟨(show CMul _ _ from Or.inr ⟨by decide, by decide⟩), ?_⟩ | refine ⟨(show CDiv _ _ from ⟨by decide, by decide⟩), ?_⟩))
local macro_rules | `(tactic| walk_at "w") => `(tactic| try walk_at "pd")
def rwD (r : List Nat) : D := .rol (r.map fun (i : Nat) => D.int (i : Int))
theorem rows_count : ∀ n : Nat, (rows n).length = 2 ^ n
  | 0 => rfl
  | n + 1 => by
    show (rows n ++ (rows n).map (· ++ [n])).length = _
    rw [List.length_append, List.length_map, rows_count n, Nat.pow_succ]; omega
theorem pow_le5 {n : Nat} (h : n ≤ 5) : 2 ^ n ≤ 32 := Nat.le_trans (Nat.pow_le_pow_right (by decide) h) (by decide)
section
variable {P : Program} {w : World} {K : PySem.W.Frag} {mg : Str → Option Value} {base : Heap}
def sp__law_rows_of_places : SpD := fun ds m Q => ∃ l : List Nat, ds = [.str (tx l)] ∧ l.length ≤ 5 ∧ Q (.rol ((rows l.length).map rwD)) m
theorem ok__law_rows_of_places  (T : Txt K mg)  : FnOk P w K mg base CX0 (1) T.f__law_rows_of_places T.fd__law_rows_of_places ["_law_text_here"] (spL K 1 sp__law_rows_of_places) := by
  refine fn_ok T.F__law_rows_of_places sc__law_rows_of_places (fun cdv A outer s H E hr =>
(gss_cons (gs_set (i := 1) sc__law_rows_of_places.nd rfl (.inl rfl) (ge_lst (ga_cons (ge_frz (ge_lst ga_nil)) ga_nil)))
 (gss_cons (gs_for PassesOwn.never rfl (gi_rng1 (by rfl) T.z_range (ga_cons (ge_callB call_lenU lc_len (by rfl) T.z_len PySem.boot_len (ga_cons (gv 0) ga_nil)) ga_nil)) (gg_name (i := 2) sc__law_rows_of_places.nd rfl (.inr rfl))
 (gss_one (gs_set (i := 1) sc__law_rows_of_places.nd rfl (.inl rfl) (ge_op op_addL lr_addL (gv 1) (ge_lc (own := [("_law_row", 3)]) rfl sc__law_rows_of_places.nd (gi_seq (gv 1)) (blkOk_by (N := N__law_rows_of_places) (sc := defScope s__law_rows_of_places) (by decide +kernel)) (fun _ _ _ _ _ => (gg_name (i := 3) sc__law_rows_of_places.nd rfl (.inl rfl))) (fun _ _ _ _ _ => gts_nil) (fun _ _ _ _ _ => (ge_frz (ge_op op_addL lr_addL (gv 3) (ge_lst (ga_cons (gv 2) ga_nil))))) (by decide))))))
 (gss_one (gs_ret (ge_frz (gv 1))))))) (fun ds m Q h => ?_)
  obtain ⟨l, rfl, hl, h⟩ := h
  rw [show startD N__law_rows_of_places [.str (tx l)] = [some (.str (tx l)), none, none, none] from rfl]
  walk_at "pd"
  intro p hp
  refine ⟨_, rfl, fun p1 hp1 => ?_⟩
  have m0 : ∀ x o, m x = some o → mdel (mset m p (.lst [])) p x = some o := fun x o e => by
    have hx : x ≠ p := fun z => by rw [z, hp] at e; cases e
    rw [mdel_ne hx, mset_ne hx]; exact e
  have h1 : m p1 = none := by
    cases e : m p1 with
    | none => rfl
    | some o => rw [m0 p1 o e] at hp1; cases hp1
  refine ⟨Nat.le_trans hl (by decide), by omega, by omega, ?_⟩
  rw [Int.toNat_natCast]
  refine loop_range (fun i s' m' => ∃ (pf : Addr) (x y : Option D), s' = [some (.str (tx l)), some (.ref pf), x, y] ∧ PD.Sub m m' ∧ m pf = none ∧ m' pf = some (.lst ((rows i).map rwD))) ?_ ?_ ⟨p1, none, none, rfl, PD.Sub.new' (fun x o e => m0 x o e) h1, h1, mset_same⟩
  · rintro i s' m' R hi hR ⟨pf, x, y, rfl, sb, hpf, epf⟩
    refine ⟨trivial, ?_⟩
    walk_at "pd"
    refine ⟨_, seqOf_ref epf, fun q hq => ?_⟩
    have hqf : q ≠ pf := fun z => by rw [z, epf] at hq; cases hq
    have hqm : m q = none := sb.free hq
    have hcnt : (rows i).length ≤ 32 := by rw [rows_count]; exact pow_le5 (by omega)
    refine comp_inv (fun rem acc m1 => ∃ pre post : List (List Nat), rows i = pre ++ post ∧ rem = post.map rwD ∧ acc = pre.map (fun r => rwD (r ++ [i])) ∧ PD.Sub m m1 ∧ m1 pf = some (.lst ((rows i).map rwD)) ∧ m1 q = some (.lst acc)) ?_ ?_ ⟨[], rows i, rfl, rfl, rfl, sb.new' hqm, mset_new hq epf, mset_same⟩
    · rintro d rem acc m1 R2 hR2 ⟨pre, post, e1, e2, rfl, sb1, ef1, eq1⟩
      cases post with
      | nil => cases e2
      | cons r post =>
        rw [List.map_cons] at e2
        injection e2 with e2 e3
        subst e2
        have hr : r ∈ rows i := by rw [e1]; simp
        have hrl := rows_len hr
        refine ⟨seqOf_ref ef1, ?_⟩
        unfold rwD
        walk_at "pd"
        intro p3 hp3
        refine ⟨_, _, rfl, lsq_ref mset_same, ?_, fun p4 hp4 => ?_⟩
        · rw [List.length_map]; exact Nat.le_trans (by rw [List.length_singleton]; omega : _ ≤ 6) (by decide)
        obtain ⟨n4, n43⟩ := mset_none hp4
        have keep : ∀ x o o3 o4, m1 x = some o → mdel (mset (mset m1 p3 o3) p4 o4) p4 x = some o := fun x o o3 o4 e => by
          have h3 : x ≠ p3 := fun z => by rw [z, hp3] at e; cases e
          have h4 : x ≠ p4 := fun z => by rw [z, n4] at e; cases e
          rw [mdel_ne h4, mset_ne h4, mset_ne h3]; exact e
        refine ⟨_, rfl, keep _ _ _ _ eq1, ?_, hR2 _ _ ⟨pre ++ [r], post, by rw [e1]; simp, e3, ?_, ?_, ?_, ?_⟩⟩
        · have := congrArg List.length e1
          rw [List.length_append, List.length_cons] at this
          rw [List.length_map]
          exact Nat.lt_of_le_of_lt (by omega : _ ≤ 32) (by decide)
        · rw [List.map_append]
          show _ ++ [D.rol _] = _ ++ [D.rol ((r ++ [i]).map _)]
          rw [List.map_append]; rfl
        · exact PD.Sub.new' (fun x o e => keep x o _ _ (sb1 x o e)) hqm
        · rw [mset_ne hqf.symm]; exact keep _ _ _ _ ef1
        · rw [mset_same]
    · rintro acc m1 ⟨pre, post, e1, e2, rfl, sb1, ef1, eq1⟩
      cases post with
      | cons r post => cases e2
      | nil =>
        rw [List.append_nil] at e1
        subst e1
        refine ⟨seqOf_ref ef1, eq1, ?_⟩
        walk_at "pd"
        refine ⟨_, _, lsq_ref ef1, lsq_ref eq1, ?_, fun p3 hp3 => hR _ _ ⟨p3, _, _, rfl, sb1.new' (sb1.free hp3), sb1.free hp3, ?_⟩⟩
        · rw [List.length_map, List.length_map]; exact Nat.le_trans (by omega : _ ≤ 64) (by decide)
        · rw [mset_same]
          show _ = some (MO.lst ((rows i ++ (rows i).map (· ++ [i])).map rwD))
          rw [List.map_append, List.map_map]; rfl
  · rintro s' m' ⟨pf, x, y, rfl, sb, hpf, epf⟩
    refine ⟨trivial, ?_⟩
    walk_at "pd"
    exact ⟨_, epf, m, sb.del hpf, h⟩
end
end K78

set_option Elab.async false
set_option linter.all false
set_option maxRecDepth 100000
set_option maxHeartbeats 4000000
namespace K78
open PySem PySem.Spec PyProof.Rows L2 PD
local macro_rules | `(tactic| walk_at "pd") => `(tactic| simp (config := { decide := true, maxSteps := 400000 }) only [dAbs_i, ten12, tx_app, tx_len, tx_emp, dIx_tx, sgn_tx, cutS_to, cutS_fr, cutS_fr1, dPar, dIRng2, dIEnumS, dIStr, dInSg, dJoin, dSlS, dUpper, dChain, dDNewT, dDGetT, dDPutT, dMin3_i, dMax3_i, dCallX, dRaise, dSeq, dSet, dAsg, dgN, dRet, dRetN, dIfS, dFor, dLoop, dDrop, dNext, dVar, dC, dNil, dCons, dOp, dUn, dTest, dTru, dAnd, dOr, dNot, dAndV, dOrV, dNotV, dIfE, dTup, dLst, dCB, dCall, dCallP, dBM, dBM0, dLc, dComp, dYes, dgTup, dgCons, dgNil, dgSub, dPart, dNoPart, dAug, dIsi, dEq, dNe, wipeD, endsOf,
  dFrz, dFrzV_i, dFrzV_s, dFrzV_b, dFrzV_n, dFrzV_t, dFrzV_l, dFrzV_r, dAddL_i, dAddL_s, dAddL_t, dAddL_rr, dAddL_rl, dAddL_lr, dAddL_ll, dMulL_i, dMulL_s, dMulL_r, dSlL_v, dSlLV_t, dSlLV_l, dSlLV_r, dMinU_1, dMinU_2, dSumL_1, dSetTx_1, dIx_l, dLen_l, dInG_l, truD_rol, tyD_rol, dInt1_b, dISeqV_l, dLtS_i, dLtS_s, ltP_i, ltP_s, lsq_rol, dDNew, dDGet, dDGet2, dDSetd, dDPut, dSub_i, dInt2_i, dNeg_i, dCmp_i, dIsN_n, dNotN_n, dInG_t, dInG_r, dIx_t, dIx_r, dLen_s, dLen_t, dLen_r, dTuple_1, dList_1, dInt1_i, dRev_v, dRevV_t, dRevV_r, dISeq_v, dISeqV_t, dISeqV_r, dIEnum_v, dIEnumV_t, dIEnumV_r, dPop_0, dPop_i, dAppend_1, dExtend_1, dSub3_i, dIRng1_v, dRng1V_i,
  seqOf_tup, seqOf_rol, seqW_tup, eqK_ss, eqK_ii, eqK_bb, eqK_nn, eqK_ts, eqK_st, eqK_ti, eqK_is, eqK_ns, flatD_str, flatD_int, flatD_bl, flatD_non, isT_NoneType_bool, isT_NoneType_int, isT_NoneType_str, isT_NoneType_tuple, isT_NoneType_list, isT_bool_bool, isT_bool_int, isT_bool_str, isT_bool_tuple, isT_bool_list, isT_int_bool, isT_int_int, isT_int_str, isT_int_tuple, isT_int_list, isT_str_bool, isT_str_int, isT_str_str, isT_str_tuple, isT_str_list, isT_tuple_bool, isT_tuple_int, isT_tuple_str, isT_tuple_tuple, isT_tuple_list, isT_list_bool, isT_list_int, isT_list_str, isT_list_tuple, isT_list_list, isNon_non, isNon_bl, isNon_int, isNon_str, isNon_tup, tyD_non, tyD_bl, tyD_int, tyD_str, tyD_tup, truD_bl, truD_int, truD_tup,
  atI_0, atI_1, atI_2, atI_3, atI_4, atI_m1, atI_m2, atI_m3, Option.some.injEq, exists_eq_left', exists_eq_left, beq_self_eq_true, Bool.not_true, Bool.not_false, if_true, if_false, true_and, and_true, Bool.false_eq_true, ↓reduceIte,
  List.getElem?_cons_zero, List.getElem?_cons_succ, List.set_cons_zero, List.set_cons_succ, List.map_cons, List.map_nil, List.length_cons, List.length_nil, mset_same, mset_mset, List.isEmpty_nil, List.isEmpty_cons, decide_eq_true_eq, beq_iff_eq, seqI_0, List.eraseIdx_cons_zero, List.eraseIdx_cons_succ, ixN_40, ixN_41, ixN_42, ixN_43, Nat.reduceAdd])
local macro_rules | `(tactic| walk_at "ne") => `(tactic| first | assumption | exact Ne.symm (by assumption))
local macro_rules | `(tactic| walk_at "mu") => `(tactic| first | exact mset_same | assumption | exact mset_skip (by walk_at "ne") (by walk_at "mu"))
local macro_rules | `(tactic| walk_at "go") => `(tactic| repeat (first | walk_at "pd" | refine ⟨_, seqOf_ref (by walk_at "mu"), ?_⟩ | refine ⟨⟨_, _, lstOf_ref (by walk_at "mu")⟩, ?_⟩ | refine ⟨_, _, lstOf_ref (by walk_at "mu"), ?_⟩ | refine ⟨(show CMul _ _ from Or.inr ⟨by decide, by decide⟩), ?_⟩ | refine ⟨(show CDiv _ _ from ⟨by decide, by decide⟩), ?_⟩))
local macro_rules | `(tactic| walk_at "w") => `(tactic| try walk_at "pd")
theorem range_nat (n : Nat) : rangeD 0 n = (List.range n).map fun (i : Nat) => D.int (i : Int) := by
  unfold rangeD
  refine List.map_congr_left fun i _ => ?_
  rw [Int.zero_add]
theorem zip_range {r q : List Nat} (h : r.length = q.length) : r.zip q = (List.range r.length).map fun k => (cd r k, cd q k) := by
  refine List.ext_getElem (by simp [h]) fun i h1 h2 => ?_
  have hi : i < r.length := by simpa using h2
  rw [List.getElem_zip, List.getElem_map, List.getElem_range, cd_at hi, cd_at (h ▸ hi)]
theorem unl_range (xs ys : Nat → Nat) {r q : List Nat} (h : r.length = q.length) : ((List.range r.length).filter fun k => !decide (xs (cd r k) = ys (cd q k))).length = unl xs ys r q := by
  unfold unl
  rw [zip_range h, List.filter_map, List.length_map]; rfl
theorem at_row {r : List Nat} {k : Nat} (h : k < r.length) : atI (r.map fun (i : Nat) => D.int (i : Int)) (k : Int) = some (.int (cd r k : Int)) := by
  rw [atI_getD (by rw [List.length_map]; exact h), List.getElem_map, cd_at h]
theorem at_cd {xs : List Nat} {k : Nat} (h : k < xs.length) : atI xs (k : Int) = some (cd xs k) := by rw [atI_getD h, cd_at h]
theorem cd_lt {r : List Nat} {n k : Nat} (h : r ∈ rows n) (hk : k < r.length) : cd r k < n := by
  rw [cd_at hk]; exact rows_lt h _ (List.getElem_mem hk)
section
variable {P : Program} {w : World} {K : PySem.W.Frag} {mg : Str → Option Value} {base : Heap}
def sp__law_distance : SpD := fun ds m Q => ∃ (xs ys : List Nat) (gap ch : Int), ds = [.str (tx xs), .str (tx ys), .int gap, .int ch] ∧ xs.length ≤ 5 ∧ ys.length ≤ 5 ∧ Q (.int (dD (cd xs) (cd ys) gap ch xs.length ys.length)) m
theorem ok__law_distance  (T : Txt K mg) (G__law_rows_of_places : FnOk P w K mg base CX0 (1) T.f__law_rows_of_places T.fd__law_rows_of_places ["_law_text_here"] (spL K 1 sp__law_rows_of_places)) : FnOk P w K mg base CX0 (2) T.f__law_distance T.fd__law_distance ["_law_one", "_law_other", "_law_gap", "_law_change"] (spL K 4 sp__law_distance) := by
  refine fn_ok T.F__law_distance sc__law_distance (fun cdv A outer s H E hr =>
(gss_cons (gs_set (i := 4) sc__law_distance.nd rfl (.inl rfl) (ge_op op_mulL lr_mulL (gv 2) (ge_op op_addL lr_addL (ge_callB call_lenU lc_len (by rfl) T.z_len PySem.boot_len (ga_cons (gv 0) ga_nil)) (ge_callB call_lenU lc_len (by rfl) T.z_len PySem.boot_len (ga_cons (gv 1) ga_nil)))))
 (gss_cons (gs_set (i := 5) sc__law_distance.nd rfl (.inl rfl) (ge_call G__law_rows_of_places (hr.mono (by omega)) (by rfl) T.g__law_rows_of_places T.F__law_rows_of_places.kp T.b__law_rows_of_places (ga_cons (gv 0) ga_nil)))
 (gss_cons (gs_set (i := 6) sc__law_distance.nd rfl (.inl rfl) (ge_call G__law_rows_of_places (hr.mono (by omega)) (by rfl) T.g__law_rows_of_places T.F__law_rows_of_places.kp T.b__law_rows_of_places (ga_cons (gv 1) ga_nil)))
 (gss_cons (gs_for PassesOwn.never rfl (gi_seq (gv 5)) (gg_name (i := 7) sc__law_distance.nd rfl (.inr rfl))
 (gss_one (gs_for PassesOwn.never rfl (gi_seq (gv 6)) (gg_name (i := 8) sc__law_distance.nd rfl (.inr rfl))
 (gss_one (gs_if (gt_cmpR (op_eqS hr.units) lr_eq (ge_callB call_lenU lc_len (by rfl) T.z_len PySem.boot_len (ga_cons (gv 7) ga_nil)) (ge_callB call_lenU lc_len (by rfl) T.z_len PySem.boot_len (ga_cons (gv 8) ga_nil)) (nomark _))
 (gss_cons (gs_set (i := 9) sc__law_distance.nd rfl (.inl rfl) (ge_callB call_lenU lc_len (by rfl) T.z_len PySem.boot_len (ga_cons (ge_lc (own := [("_law_k", 10)]) rfl sc__law_distance.nd (gi_rng1 (by rfl) T.z_range (ga_cons (ge_callB call_lenU lc_len (by rfl) T.z_len PySem.boot_len (ga_cons (gv 7) ga_nil)) ga_nil)) (blkOk_by (N := N__law_distance) (sc := defScope s__law_distance) (by decide +kernel)) (fun _ _ _ _ _ => (gg_name (i := 10) sc__law_distance.nd rfl (.inl rfl))) (fun _ _ _ _ _ => (gts_one (gt_cmpR (op_neS hr.units) lr_ne (ge_ix (gv 0) (ge_ix (gv 7) (gv 10))) (ge_ix (gv 1) (ge_ix (gv 8) (gv 10))) (nomark _)))) (fun _ _ _ _ _ => (gv 10)) (by decide)) ga_nil)))
 (gss_one (gs_set (i := 4) sc__law_distance.nd rfl (.inl rfl) (ge_callB (cr_minU rfl hr.units) lc_minU (by rfl) T.z_min (by decide +kernel) (ga_cons (gv 4) (ga_cons (ge_op op_addL lr_addL (ge_op op_mulL lr_mulL (gv 2) (ge_op op_sub lr_sub (ge_op op_addL lr_addL (ge_callB call_lenU lc_len (by rfl) T.z_len PySem.boot_len (ga_cons (gv 0) ga_nil)) (ge_callB call_lenU lc_len (by rfl) T.z_len PySem.boot_len (ga_cons (gv 1) ga_nil))) (ge_op op_mulL lr_mulL ge_int (ge_callB call_lenU lc_len (by rfl) T.z_len PySem.boot_len (ga_cons (gv 7) ga_nil))))) (ge_op op_mulL lr_mulL (gv 3) (gv 9))) ga_nil))))))
 gss_nil)))))
 (gss_one (gs_ret (ge_frz (gv 4))))))))) (fun ds m Q h => ?_)
  obtain ⟨xs, ys, gap, ch, rfl, hx, hy, h⟩ := h
  rw [show startD N__law_distance [.str (tx xs), .str (tx ys), .int gap, .int ch] = [some (.str (tx xs)), some (.str (tx ys)), some (.int gap), some (.int ch), none, none, none, none, none, none, none] from rfl]
  have hxl : xs.length ≤ sizeLine := Nat.le_trans hx (by decide)
  have hyl : ys.length ≤ sizeLine := Nat.le_trans hy (by decide)
  walk_at "pd"
  refine ⟨hxl, hyl, .inr ⟨by omega, by omega⟩, xs, rfl, hx, ?_⟩
  walk_at "pd"
  refine ⟨ys, rfl, hy, ?_⟩
  walk_at "pd"
  have base : dD (cd xs) (cd ys) gap ch xs.length ys.length ≤ gap * ((xs.length : Int) + ys.length) := by
    have := dist_low (cd xs) (cd ys) gap ch xs.length ys.length (rows_nil _) (rows_nil _) rfl
    rw [cost_nil] at this; exact this
  refine loop_inv (fun rem s' m' => ∃ (pre post : List (List Nat)) (b : Int) (x7 x8 x9 x10 : Option D), rows xs.length = pre ++ post ∧ rem = post.map rwD ∧ s' = [some (.str (tx xs)), some (.str (tx ys)), some (.int gap), some (.int ch), some (.int b), some (.rol ((rows xs.length).map rwD)), some (.rol ((rows ys.length).map rwD)), x7, x8, x9, x10] ∧ PD.Sub m m' ∧ dD (cd xs) (cd ys) gap ch xs.length ys.length ≤ b ∧ ∀ r ∈ pre, ∀ q ∈ rows ys.length, r.length = q.length → b ≤ cost (cd xs) (cd ys) gap ch xs.length ys.length r q) ?_ ?_ ⟨[], _, _, none, none, none, none, rfl, rfl, rfl, .refl m, base, fun _ h => (List.not_mem_nil h).elim⟩
  · rintro d rem s' m' R hR ⟨pre, post, b, x7, x8, x9, x10, e1, e2, rfl, sb, hb, hp⟩
    cases post with
    | nil => cases e2
    | cons r post =>
      rw [List.map_cons] at e2
      injection e2 with e2 e3
      subst e2
      have hr : r ∈ rows xs.length := by rw [e1]; simp
      have hrl := rows_len hr
      have hrt := rows_lt hr
      refine ⟨trivial, ?_⟩
      walk_at "pd"
      refine loop_inv (fun rem s' m' => ∃ (pre2 post2 : List (List Nat)) (b : Int) (x8 x9 x10 : Option D), rows ys.length = pre2 ++ post2 ∧ rem = post2.map rwD ∧ s' = [some (.str (tx xs)), some (.str (tx ys)), some (.int gap), some (.int ch), some (.int b), some (.rol ((rows xs.length).map rwD)), some (.rol ((rows ys.length).map rwD)), some (rwD r), x8, x9, x10] ∧ PD.Sub m m' ∧ dD (cd xs) (cd ys) gap ch xs.length ys.length ≤ b ∧ (∀ r ∈ pre, ∀ q ∈ rows ys.length, r.length = q.length → b ≤ cost (cd xs) (cd ys) gap ch xs.length ys.length r q) ∧ ∀ q ∈ pre2, r.length = q.length → b ≤ cost (cd xs) (cd ys) gap ch xs.length ys.length r q) ?_ ?_ ⟨[], _, b, x8, x9, x10, rfl, rfl, rfl, sb, hb, hp, fun _ h => (List.not_mem_nil h).elim⟩
      · rintro d rem s' m' R2 hR2 ⟨pre2, post2, b, y8, y9, y10, f1, f2, rfl, sb, hb, hp1, hp2⟩
        cases post2 with
        | nil => cases f2
        | cons q post2 =>
          rw [List.map_cons] at f2
          injection f2 with f2 f3
          subst f2
          have hq : q ∈ rows ys.length := by rw [f1]; simp
          have hql := rows_len hq
          have hqt := rows_lt hq
          refine ⟨trivial, ?_⟩
          unfold rwD
          walk_at "pd"
          rw [List.length_map, List.length_map]
          by_cases hrq : r.length = q.length
          · rw [if_pos (by omega)]
            refine ⟨by omega, by omega, fun p hp => ?_⟩
            rw [Int.toNat_natCast, range_nat]
            refine comp_pureT (γ := Nat) (fun (k : Nat) => D.int (k : Int)) (fun (k : Nat) => D.int (k : Int)) (fun k => !decide (cd xs (cd r k) = cd ys (cd q k))) (fun _ => trivial) (by rw [List.length_range]; omega) (fun k hk acc R1 R3 k1 k2 => ?_) ?_
            · rw [List.mem_range] at hk
              walk_at "pd"
              refine ⟨_, at_row hk, ?_⟩
              walk_at "pd"
              refine ⟨hxl, _, at_cd (cd_lt hr hk), _, at_row (by omega), ?_⟩
              walk_at "pd"
              refine ⟨hyl, _, at_cd (cd_lt hq (by omega)), ?_⟩
              rw [sg_eq]
              cases e : (!decide (cd xs (cd r k) = cd ys (cd q k))) with
              | true => rw [if_pos rfl]; exact k1 e
              | false => rw [if_neg Bool.false_ne_true]; exact k2 e
            · walk_at "pd"
              have eu := unl_range (cd xs) (cd ys) hrq
              have ul : unl (cd xs) (cd ys) r q ≤ 5 := by
                rw [← eu]
                exact Nat.le_trans (List.length_filter_le _ _) (by rw [List.length_range]; omega)
              refine ⟨_, seqOf_ref mset_same, hxl, hyl, .inl ⟨by omega, by omega⟩, .inr ⟨by omega, by omega⟩, .inr ⟨by rw [List.length_map, eu]; omega, by rw [List.length_map, eu]; omega⟩, ?_⟩
              rw [List.length_map, eu]
              have lo := dist_low (cd xs) (cd ys) gap ch xs.length ys.length hr hq hrq
              have ec : cost (cd xs) (cd ys) gap ch xs.length ys.length r q = gap * ((xs.length : Int) + ys.length - 2 * r.length) + ch * (unl (cd xs) (cd ys) r q : Nat) := rfl
              rw [← ec]
              refine hR2 _ _ ⟨pre2 ++ [q], post2, _, _, _, _, by rw [f1]; simp, f3, rfl, sb.new' (sb.free hp), ?_, fun r' hr' q' hq' hl => ?_, fun q' hq' hl => ?_⟩
              · split <;> omega
              · have := hp1 r' hr' q' hq' hl
                split <;> omega
              · rcases List.mem_append.mp hq' with h' | h'
                · have := hp2 q' h' hl
                  split <;> omega
                · rw [List.mem_singleton.mp h']
                  split <;> omega
          · rw [if_neg (by omega)]
            refine hR2 _ _ ⟨pre2 ++ [q], post2, b, _, _, _, by rw [f1]; simp, f3, rfl, sb, hb, hp1, fun q' hq' hl => ?_⟩
            rcases List.mem_append.mp hq' with h' | h'
            · exact hp2 q' h' hl
            · rw [List.mem_singleton.mp h'] at hl
              exact absurd hl hrq
      · rintro s' m' ⟨pre2, post2, b, y8, y9, y10, f1, f2, rfl, sb, hb, hp, hp2⟩
        refine ⟨trivial, ?_⟩
        cases post2 with
        | cons q post2 => cases f2
        | nil =>
          rw [List.append_nil] at f1
          refine hR _ _ ⟨pre ++ [r], post, b, _, _, _, _, by rw [e1]; simp, e3, rfl, sb, hb, fun r' hr' q hq hl => ?_⟩
          rcases List.mem_append.mp hr' with h' | h'
          · exact hp r' h' q hq hl
          · rw [List.mem_singleton.mp h'] at hl ⊢
            exact hp2 q (f1 ▸ hq) hl
  · rintro s' m' ⟨pre, post, b, x7, x8, x9, x10, e1, e2, rfl, sb, hb, hp⟩
    refine ⟨trivial, ?_⟩
    cases post with
    | cons r post => cases e2
    | nil =>
      rw [List.append_nil] at e1
      obtain ⟨r, q, a1, a2, a3, a4⟩ := dist_att (cd xs) (cd ys) gap ch xs.length ys.length
      have := hp r (e1 ▸ a1) q a2 a3
      have eb : b = dD (cd xs) (cd ys) gap ch xs.length ys.length := by omega
      walk_at "pd"
      rw [eb]
      exact ⟨m, sb, h⟩
end
end K78

set_option Elab.async false
set_option linter.all false
set_option maxRecDepth 100000
set_option maxHeartbeats 4000000
namespace K78
open PySem PySem.Spec PyProof.Rows L2 PD
local macro_rules | `(tactic| walk_at "pd") => `(tactic| simp (config := { decide := true, maxSteps := 400000 }) only [dAbs_i, ten12, tx_app, tx_len, tx_emp, dIx_tx, sgn_tx, cutS_to, cutS_fr, cutS_fr1, dPar, dIRng2, dIEnumS, dIStr, dInSg, dJoin, dSlS, dUpper, dChain, dDNewT, dDGetT, dDPutT, dMin3_i, dMax3_i, dCallX, dRaise, dSeq, dSet, dAsg, dgN, dRet, dRetN, dIfS, dFor, dLoop, dDrop, dNext, dVar, dC, dNil, dCons, dOp, dUn, dTest, dTru, dAnd, dOr, dNot, dAndV, dOrV, dNotV, dIfE, dTup, dLst, dCB, dCall, dCallP, dBM, dBM0, dLc, dComp, dYes, dgTup, dgCons, dgNil, dgSub, dPart, dNoPart, dAug, dIsi, dEq, dNe, wipeD, endsOf,
  dFrz, dFrzV_i, dFrzV_s, dFrzV_b, dFrzV_n, dFrzV_t, dFrzV_l, dFrzV_r, dAddL_i, dAddL_s, dAddL_t, dAddL_rr, dAddL_rl, dAddL_lr, dAddL_ll, dMulL_i, dMulL_s, dMulL_r, dSlL_v, dSlLV_t, dSlLV_l, dSlLV_r, dMinU_1, dMinU_2, dSumL_1, dSetTx_1, dIx_l, dLen_l, dInG_l, truD_rol, tyD_rol, dInt1_b, dISeqV_l, dLtS_i, dLtS_s, ltP_i, ltP_s, lsq_rol, dDNew, dDGet, dDGet2, dDSetd, dDPut, dSub_i, dInt2_i, dNeg_i, dCmp_i, dIsN_n, dNotN_n, dInG_t, dInG_r, dIx_t, dIx_r, dLen_s, dLen_t, dLen_r, dTuple_1, dList_1, dInt1_i, dRev_v, dRevV_t, dRevV_r, dISeq_v, dISeqV_t, dISeqV_r, dIEnum_v, dIEnumV_t, dIEnumV_r, dPop_0, dPop_i, dAppend_1, dExtend_1, dSub3_i, dIRng1_v, dRng1V_i,
  seqOf_tup, seqOf_rol, seqW_tup, eqK_ss, eqK_ii, eqK_bb, eqK_nn, eqK_ts, eqK_st, eqK_ti, eqK_is, eqK_ns, flatD_str, flatD_int, flatD_bl, flatD_non, isT_NoneType_bool, isT_NoneType_int, isT_NoneType_str, isT_NoneType_tuple, isT_NoneType_list, isT_bool_bool, isT_bool_int, isT_bool_str, isT_bool_tuple, isT_bool_list, isT_int_bool, isT_int_int, isT_int_str, isT_int_tuple, isT_int_list, isT_str_bool, isT_str_int, isT_str_str, isT_str_tuple, isT_str_list, isT_tuple_bool, isT_tuple_int, isT_tuple_str, isT_tuple_tuple, isT_tuple_list, isT_list_bool, isT_list_int, isT_list_str, isT_list_tuple, isT_list_list, isNon_non, isNon_bl, isNon_int, isNon_str, isNon_tup, tyD_non, tyD_bl, tyD_int, tyD_str, tyD_tup, truD_bl, truD_int, truD_tup,
  atI_0, atI_1, atI_2, atI_3, atI_4, atI_m1, atI_m2, atI_m3, Option.some.injEq, exists_eq_left', exists_eq_left, beq_self_eq_true, Bool.not_true, Bool.not_false, if_true, if_false, true_and, and_true, Bool.false_eq_true, ↓reduceIte,
  List.getElem?_cons_zero, List.getElem?_cons_succ, List.set_cons_zero, List.set_cons_succ, List.map_cons, List.map_nil, List.length_cons, List.length_nil, mset_same, mset_mset, List.isEmpty_nil, List.isEmpty_cons, decide_eq_true_eq, beq_iff_eq, seqI_0, List.eraseIdx_cons_zero, List.eraseIdx_cons_succ, ixN_40, ixN_41, ixN_42, ixN_43, Nat.reduceAdd])
local macro_rules | `(tactic| walk_at "ne") => `(tactic| first | assumption | exact Ne.symm (by assumption))
local macro_rules | `(tactic| walk_at "mu") => `(tactic| first | exact mset_same | assumption | exact mset_skip (by walk_at "ne") (by walk_at "mu"))
local macro_rules | `(tactic| walk_at "go") => `(tactic| repeat (first | walk_at "pd" | refine ⟨_, seqOf_ref (by walk_at "mu"), ?_⟩ | refine ⟨⟨_, _, lstOf_ref (by walk_at "mu")⟩, ?_⟩ | refine ⟨_, _, lstOf_ref (by walk_at "mu"), ?_⟩ | refine ⟨(show CMul _ _ from Or.inr ⟨by decide, by decide⟩), ?_⟩ | refine ⟨(show CDiv _ _ from ⟨by decide, by decide⟩), ?_⟩))
local macro_rules | `(tactic| walk_at "w") => `(tactic| try walk_at "pd")
theorem inF_tx (l : List Nat) : ∀ ls : List (List Nat), inF (.str (tx l)) (ls.map fun l => .str (tx l)) = decide (l ∈ ls)
  | [] => rfl
  | k :: ls => by
    have ih := inF_tx l ls
    unfold inF at ih ⊢
    rw [List.map_cons, List.any_cons, ih]
    show ((tx k == tx l) || decide (l ∈ ls)) = _
    by_cases h : l = k
    · subst h; simp
    · have : (tx k == tx l) = false := beq_false_of_ne fun e => h (tx_inj e).symm
      rw [this, Bool.false_or]
      simp [h]
theorem sum_sg (f : Nat → Nat) : ∀ q : List Nat, ((q.map fun i => tx [f i]).map (·.length)).sum = q.length
  | [] => rfl
  | i :: q => by rw [List.map_cons, List.map_cons, List.sum_cons, sum_sg f q, tx_len, List.length_singleton, List.length_cons]; omega
theorem join_row (f : Nat → Nat) (q : List Nat) : Txt.join (tx []) (q.map fun i => tx [f i]) = tx (q.map f) := by
  have := join_sg (q.map f)
  rw [List.map_map] at this; exact this
theorem sum_ok (f : Nat → Nat) {q : List Nat} (h : q.length ≤ 100) : ((q.map fun i => tx [f i]).map (·.length)).sum + (q.map fun i => tx [f i]).length * (tx []).length ≤ 16777216 := by
  rw [sum_sg, tx_len, List.length_nil]; omega
section
variable {P : Program} {w : World} {K : PySem.W.Frag} {mg : Str → Option Value} {base : Heap}
def sp__law_longest : SpD := fun ds m Q => ∃ (xs ys : List Nat), ds = [.str (tx xs), .str (tx ys)] ∧ xs.length ≤ 5 ∧ ys.length ≤ 5 ∧ Q (.int (dL (cd xs) (cd ys) xs.length ys.length)) m
theorem ok__law_longest  (T : Txt K mg) (G__law_rows_of_places : FnOk P w K mg base CX0 (1) T.f__law_rows_of_places T.fd__law_rows_of_places ["_law_text_here"] (spL K 1 sp__law_rows_of_places)) : FnOk P w K mg base CX0 (2) T.f__law_longest T.fd__law_longest ["_law_one", "_law_other"] (spL K 2 sp__law_longest) := by
  refine fn_ok T.F__law_longest sc__law_longest (fun cdv A outer s H E hr =>
(gss_cons (gs_setLc (i := 2) (own := [("_law_row", 4)]) rfl sc__law_longest.nd rfl rfl (sw_true rfl rfl rfl (by decide +kernel)) (gi_seq (ge_call G__law_rows_of_places (hr.mono (by omega)) (by rfl) T.g__law_rows_of_places T.F__law_rows_of_places.kp T.b__law_rows_of_places (ga_cons (gv 1) ga_nil))) (blkOk_by (N := N__law_longest) (sc := defScope s__law_longest) (by decide +kernel)) (fun _ _ _ _ _ => (gg_name (i := 4) sc__law_longest.nd rfl (.inl rfl))) (fun _ _ _ _ _ => gts_nil) (fun _ _ _ _ _ => (ge_join ge_str (ge_lc (own := [("_law_at", 5)]) rfl sc__law_longest.nd (gi_seq (gv 4)) (blkOk_by (by rfl)) (fun _ _ _ _ _ => (gg_name (i := 5) sc__law_longest.nd rfl (.inl rfl))) (fun _ _ _ _ _ => gts_nil) (fun _ _ _ _ _ => (ge_ix (gv 1) (gv 5))) (by decide)))) (by decide))
 (gss_cons (gs_set (i := 3) sc__law_longest.nd rfl (.inl rfl) ge_int)
 (gss_cons (gs_for PassesOwn.never rfl (gi_seq (ge_call G__law_rows_of_places (hr.mono (by omega)) (by rfl) T.g__law_rows_of_places T.F__law_rows_of_places.kp T.b__law_rows_of_places (ga_cons (gv 0) ga_nil))) (gg_name (i := 4) sc__law_longest.nd rfl (.inl rfl))
 (gss_one (gs_if (gw_and (gt_cmpR (op_gtS hr.units) lr_gtP (ge_callB call_lenU lc_len (by rfl) T.z_len PySem.boot_len (ga_cons (gv 4) ga_nil)) (gv 3) (nomark _)) (gw_and1 (gt_cmpR op_inU lr_in (ge_join ge_str (ge_lc (own := [("_law_at", 5)]) rfl sc__law_longest.nd (gi_seq (gv 4)) (blkOk_by (N := N__law_longest) (sc := defScope s__law_longest) (by decide +kernel)) (fun _ _ _ _ _ => (gg_name (i := 5) sc__law_longest.nd rfl (.inl rfl))) (fun _ _ _ _ _ => gts_nil) (fun _ _ _ _ _ => (ge_ix (gv 0) (gv 5))) (by decide))) (gv 2) (by rfl)))).gt
 (gss_one (gs_set (i := 3) sc__law_longest.nd rfl (.inl rfl) (ge_callB call_lenU lc_len (by rfl) T.z_len PySem.boot_len (ga_cons (gv 4) ga_nil))))
 gss_nil)))
 (gss_one (gs_ret (gv 3))))))) (fun ds m Q h => ?_)
  obtain ⟨xs, ys, rfl, hx, hy, h⟩ := h
  rw [show startD N__law_longest [.str (tx xs), .str (tx ys)] = [some (.str (tx xs)), some (.str (tx ys)), none, none, none, none] from rfl]
  have hxl : xs.length ≤ sizeLine := Nat.le_trans hx (by decide)
  have hyl : ys.length ≤ sizeLine := Nat.le_trans hy (by decide)
  walk_at "pd"
  refine ⟨ys, rfl, hy, ?_⟩
  walk_at "pd"
  intro p hp
  have hcy : (rows ys.length).length ≤ 32 := by rw [rows_count]; exact pow_le5 hy
  refine comp_inv (fun rem acc m1 => ∃ pre post : List (List Nat), rows ys.length = pre ++ post ∧ rem = post.map rwD ∧ acc = (pre.map fun q => q.map (cd ys)).map (fun l => .str (tx l)) ∧ PD.Sub m m1 ∧ m1 p = some (.lst acc)) ?_ ?_ ⟨[], _, rfl, rfl, rfl, .new hp, mset_same⟩
  · rintro d rem acc m1 R2 hR2 ⟨pre, post, e1, e2, rfl, sb1, eq1⟩
    cases post with
    | nil => cases e2
    | cons q post =>
      rw [List.map_cons] at e2
      injection e2 with e2 e3
      subst e2
      have hq : q ∈ rows ys.length := by rw [e1]; simp
      have hql := rows_len hq
      have hqt := rows_lt hq
      refine ⟨trivial, ?_⟩
      unfold rwD
      walk_at "pd"
      refine ⟨_, rfl, fun p2 hp2 => ?_⟩
      refine comp_pureT (γ := Nat) (fun (i : Nat) => D.int (i : Int)) (fun i => D.str (tx [cd ys i])) (fun _ => true) (fun _ => trivial) (by omega) (fun i hi acc R1 R3 k1 _ => ?_) ?_
      · walk_at "pd"
        exact ⟨hyl, _, at_cd (hqt i hi), k1 rfl⟩
      rw [filter_yes]
      refine ⟨q.map fun i => tx [cd ys i], by rw [seqOf_ref mset_same, List.map_map]; rfl, sum_ok _ (by omega), mset_new hp2 eq1, ?_, ?_⟩
      · have := congrArg List.length e1
        rw [List.length_append, List.length_cons] at this
        rw [List.length_map, List.length_map]
        exact Nat.lt_of_le_of_lt (by omega : _ ≤ 32) (by decide)
      · rw [join_row]
        refine hR2 _ _ ⟨pre ++ [q], post, by rw [e1]; simp, e3, by rw [List.map_append, List.map_append]; rfl, PD.Sub.new' (sb1.new' (sb1.free hp2)) hp, ?_⟩
        exact mset_same
  · rintro acc m1 ⟨pre, post, e1, e2, rfl, sb1, eq1⟩
    cases post with
    | cons r post => cases e2
    | nil =>
      rw [List.append_nil] at e1
      subst e1
      refine ⟨trivial, eq1, xs, rfl, hx, ?_⟩
      walk_at "pd"
      refine loop_inv (fun rem s' m' => ∃ (pre post : List (List Nat)) (b : Nat) (x4 x5 : Option D), rows xs.length = pre ++ post ∧ rem = post.map rwD ∧ s' = [some (.str (tx xs)), some (.str (tx ys)), some (.ref p), some (.int (b : Int)), x4, x5] ∧ PD.Sub m m' ∧ m' p = some (.lst (((rows ys.length).map fun q => q.map (cd ys)).map fun l => .str (tx l))) ∧ (b : Int) ≤ dL (cd xs) (cd ys) xs.length ys.length ∧ ∀ r ∈ pre, ∀ q ∈ rows ys.length, r.map (cd xs) = q.map (cd ys) → r.length ≤ b) ?_ ?_ ⟨[], _, 0, none, none, rfl, rfl, rfl, sb1, eq1, ?_, fun _ h => (List.not_mem_nil h).elim⟩
      · rintro d rem s' m' R hR ⟨pre, post, b, x4, x5, e1, e2, rfl, sb, ep, hb, hpb⟩
        cases post with
        | nil => cases e2
        | cons r post =>
          rw [List.map_cons] at e2
          injection e2 with e2 e3
          subst e2
          have hr : r ∈ rows xs.length := by rw [e1]; simp
          have hrl := rows_len hr
          have hrt := rows_lt hr
          refine ⟨trivial, ?_⟩
          unfold rwD
          walk_at "pd"
          rw [List.length_map]
          by_cases hlt : b < r.length
          · rw [if_pos (by omega)]
            refine ⟨_, rfl, fun p2 hp2 => ?_⟩
            refine comp_pureT (γ := Nat) (fun (i : Nat) => D.int (i : Int)) (fun i => D.str (tx [cd xs i])) (fun _ => true) (fun _ => trivial) (by omega) (fun i hi acc R1 R3 k1 _ => ?_) ?_
            · walk_at "pd"
              exact ⟨hxl, _, at_cd (hrt i hi), k1 rfl⟩
            rw [filter_yes]
            have ep2 := mset_new (o := .lst (r.map fun i => D.str (tx [cd xs i]))) hp2 ep
            refine ⟨r.map fun i => tx [cd xs i], by rw [seqOf_ref mset_same, List.map_map]; rfl, sum_ok _ (by omega), _, seqOf_ref ep2, ?_, ?_⟩
            · rw [List.all_map, List.all_eq_true]; intro q _; rfl
            rw [join_row, inF_tx]
            by_cases c : r.map (cd xs) ∈ (rows ys.length).map fun q => q.map (cd ys)
            · rw [decide_eq_true c, if_pos rfl]
              obtain ⟨q, hq, eq⟩ := List.mem_map.mp c
              refine hR _ _ ⟨pre ++ [r], post, r.length, _, _, by rw [e1]; simp, e3, rfl, sb.new' (sb.free hp2), ep2, long_low _ _ _ _ hr hq eq.symm, fun r' hr' q' hq' h' => ?_⟩
              rcases List.mem_append.mp hr' with hr' | hr'
              · have := hpb r' hr' q' hq' h'; omega
              · rw [List.mem_singleton.mp hr']; exact Nat.le_refl _
            · rw [decide_eq_false c, if_neg Bool.false_ne_true]
              refine hR _ _ ⟨pre ++ [r], post, b, _, _, by rw [e1]; simp, e3, rfl, sb.new' (sb.free hp2), ep2, hb, fun r' hr' q' hq' h' => ?_⟩
              rcases List.mem_append.mp hr' with hr' | hr'
              · exact hpb r' hr' q' hq' h'
              · rw [List.mem_singleton.mp hr'] at h'
                exact absurd (List.mem_map.mpr ⟨q', hq', h'.symm⟩) c
          · rw [if_neg (by omega)]
            refine hR _ _ ⟨pre ++ [r], post, b, _, _, by rw [e1]; simp, e3, rfl, sb, ep, hb, fun r' hr' q' hq' h' => ?_⟩
            rcases List.mem_append.mp hr' with hr' | hr'
            · exact hpb r' hr' q' hq' h'
            · rw [List.mem_singleton.mp hr']; omega
      · rintro s' m' ⟨pre, post, b, x4, x5, e1, e2, rfl, sb, ep, hb, hpb⟩
        refine ⟨trivial, ?_⟩
        cases post with
        | cons r post => cases e2
        | nil =>
          rw [List.append_nil] at e1
          obtain ⟨r, q, a1, a2, a3, a4⟩ := long_att (cd xs) (cd ys) xs.length ys.length
          have := hpb r (e1 ▸ a1) q a2 a3
          have eb : (b : Int) = dL (cd xs) (cd ys) xs.length ys.length := by omega
          walk_at "pd"
          rw [eb]
          exact ⟨m, sb, h⟩
      · have := long_low (cd xs) (cd ys) xs.length ys.length (rows_nil _) (rows_nil _) rfl
        simpa using this
end
end K78

set_option Elab.async false
set_option linter.all false
set_option maxRecDepth 100000
set_option maxHeartbeats 4000000
namespace K78
open PySem PySem.Spec PyProof.Rows L2 PD
local macro_rules | `(tactic| walk_at "pd") => `(tactic| simp (config := { decide := true, maxSteps := 400000 }) only [dAbs_i, ten12, tx_app, tx_len, tx_emp, dIx_tx, sgn_tx, cutS_to, cutS_fr, cutS_fr1, dPar, dIRng2, dIEnumS, dIStr, dInSg, dJoin, dSlS, dUpper, dChain, dDNewT, dDGetT, dDPutT, dMin3_i, dMax3_i, dCallX, dRaise, dSeq, dSet, dAsg, dgN, dRet, dRetN, dIfS, dFor, dLoop, dDrop, dNext, dVar, dC, dNil, dCons, dOp, dUn, dTest, dTru, dAnd, dOr, dNot, dAndV, dOrV, dNotV, dIfE, dTup, dLst, dCB, dCall, dCallP, dBM, dBM0, dLc, dComp, dYes, dgTup, dgCons, dgNil, dgSub, dPart, dNoPart, dAug, dIsi, dEq, dNe, wipeD, endsOf,
  dFrz, dFrzV_i, dFrzV_s, dFrzV_b, dFrzV_n, dFrzV_t, dFrzV_l, dFrzV_r, dAddL_i, dAddL_s, dAddL_t, dAddL_rr, dAddL_rl, dAddL_lr, dAddL_ll, dMulL_i, dMulL_s, dMulL_r, dSlL_v, dSlLV_t, dSlLV_l, dSlLV_r, dMinU_1, dMinU_2, dSumL_1, dSetTx_1, dIx_l, dLen_l, dInG_l, truD_rol, tyD_rol, dInt1_b, dISeqV_l, dLtS_i, dLtS_s, ltP_i, ltP_s, lsq_rol, dDNew, dDGet, dDGet2, dDSetd, dDPut, dSub_i, dInt2_i, dNeg_i, dCmp_i, dIsN_n, dNotN_n, dInG_t, dInG_r, dIx_t, dIx_r, dLen_s, dLen_t, dLen_r, dTuple_1, dList_1, dInt1_i, dRev_v, dRevV_t, dRevV_r, dISeq_v, dISeqV_t, dISeqV_r, dIEnum_v, dIEnumV_t, dIEnumV_r, dPop_0, dPop_i, dAppend_1, dExtend_1, dSub3_i, dIRng1_v, dRng1V_i,
  seqOf_tup, seqOf_rol, seqW_tup, eqK_ss, eqK_ii, eqK_bb, eqK_nn, eqK_ts, eqK_st, eqK_ti, eqK_is, eqK_ns, flatD_str, flatD_int, flatD_bl, flatD_non, isT_NoneType_bool, isT_NoneType_int, isT_NoneType_str, isT_NoneType_tuple, isT_NoneType_list, isT_bool_bool, isT_bool_int, isT_bool_str, isT_bool_tuple, isT_bool_list, isT_int_bool, isT_int_int, isT_int_str, isT_int_tuple, isT_int_list, isT_str_bool, isT_str_int, isT_str_str, isT_str_tuple, isT_str_list, isT_tuple_bool, isT_tuple_int, isT_tuple_str, isT_tuple_tuple, isT_tuple_list, isT_list_bool, isT_list_int, isT_list_str, isT_list_tuple, isT_list_list, isNon_non, isNon_bl, isNon_int, isNon_str, isNon_tup, tyD_non, tyD_bl, tyD_int, tyD_str, tyD_tup, truD_bl, truD_int, truD_tup,
  atI_0, atI_1, atI_2, atI_3, atI_4, atI_m1, atI_m2, atI_m3, Option.some.injEq, exists_eq_left', exists_eq_left, beq_self_eq_true, Bool.not_true, Bool.not_false, if_true, if_false, true_and, and_true, Bool.false_eq_true, ↓reduceIte,
  List.getElem?_cons_zero, List.getElem?_cons_succ, List.set_cons_zero, List.set_cons_succ, List.map_cons, List.map_nil, List.length_cons, List.length_nil, mset_same, mset_mset, List.isEmpty_nil, List.isEmpty_cons, decide_eq_true_eq, beq_iff_eq, seqI_0, List.eraseIdx_cons_zero, List.eraseIdx_cons_succ, ixN_40, ixN_41, ixN_42, ixN_43, Nat.reduceAdd])
local macro_rules | `(tactic| walk_at "ne") => `(tactic| first | assumption | exact Ne.symm (by assumption))
local macro_rules | `(tactic| walk_at "mu") => `(tactic| first | exact mset_same | assumption | exact mset_skip (by walk_at "ne") (by walk_at "mu"))
local macro_rules | `(tactic| walk_at "go") => `(tactic| repeat (first | walk_at "pd" | refine ⟨_, seqOf_ref (by walk_at "mu"), ?_⟩ | refine ⟨⟨_, _, lstOf_ref (by walk_at "mu")⟩, ?_⟩ | refine ⟨_, _, lstOf_ref (by walk_at "mu"), ?_⟩ | refine ⟨(show CMul _ _ from Or.inr ⟨by decide, by decide⟩), ?_⟩ | refine ⟨(show CDiv _ _ from ⟨by decide, by decide⟩), ?_⟩))
local macro_rules | `(tactic| walk_at "w") => `(tactic| try walk_at "pd")
def pD (b : Pr) : D := .tup [.int (b.1 : Int), .int (b.2 : Int)]
def prD (S : List Pr) : D := .rol (S.map pD)
def fb : Nat → Nat
  | 0 => 1
  | r + 1 => fb r * (r + 1)
theorem fb7 {r : Nat} (h : r ≤ 7) : fb r ≤ 5040 := by
  have : r = 0 ∨ r = 1 ∨ r = 2 ∨ r = 3 ∨ r = 4 ∨ r = 5 ∨ r = 6 ∨ r = 7 := by omega
  rcases this with rfl | rfl | rfl | rfl | rfl | rfl | rfl | rfl <;> decide
/-- what grows out of one -/
def grw (ok : Nat → Nat → Bool) (r : Nat) (S : List Pr) : List (List Pr) := S :: ((List.range r).filter (adm ok S r)).map fun l => S ++ [(l, r)]
theorem fam_grw (ok : Nat → Nat → Bool) (r : Nat) : fam ok (r + 1) = (fam ok r).flatMap (grw ok r) := rfl
theorem grw_len (ok : Nat → Nat → Bool) (r : Nat) (S : List Pr) : (grw ok r S).length ≤ r + 1 := by
  unfold grw
  rw [List.length_cons, List.length_map]
  have := List.length_filter_le (adm ok S r) (List.range r)
  rw [List.length_range] at this
  omega
theorem flat_len (ok : Nat → Nat → Bool) (r : Nat) : ∀ l : List (List Pr), (l.flatMap (grw ok r)).length ≤ l.length * (r + 1)
  | [] => by simp
  | S :: l => by
    rw [List.flatMap_cons, List.length_append, List.length_cons, Nat.add_mul, Nat.one_mul]
    have := flat_len ok r l
    have := grw_len ok r S
    omega
theorem fam_count (ok : Nat → Nat → Bool) : ∀ r : Nat, (fam ok r).length ≤ fb r
  | 0 => Nat.le_refl _
  | r + 1 => by
    rw [fam_grw]
    exact Nat.le_trans (flat_len ok r _) (Nat.mul_le_mul_right _ (fam_count ok r))
theorem fam_len (ok : Nat → Nat → Bool) : ∀ {r : Nat} {S : List Pr}, S ∈ fam ok r → S.length ≤ r
  | 0, S, h => by
    have : S = [] := by unfold fam at h; simpa using h
    subst this; exact Nat.le_refl _
  | r + 1, U, h => by
    obtain ⟨S, hS, q⟩ := (fam_succ ok).mp h
    have := fam_len ok hS
    rcases q with rfl | ⟨l, _, _, rfl⟩
    · omega
    · rw [List.length_append, List.length_singleton]; omega
def c1 (l : Nat) (b : Pr) : Bool := inF (.int (l : Int)) [.int (b.1 : Int), .int (b.2 : Int)]
def c2 (l : Nat) (b : Pr) : Bool := decide (b.1 < l) && decide (l < b.2)
theorem c1_is (l : Nat) (b : Pr) : c1 l b = (decide (l = b.1) || decide (l = b.2)) := by
  show (((b.1 : Int) == (l : Int)) || (((b.2 : Int) == (l : Int)) || false)) = _
  rw [Bool.or_false]
  congr 1
  · by_cases h : l = b.1
    · rw [decide_eq_true h, h]; simp
    · rw [decide_eq_false h]; exact beq_false_of_ne (by omega)
  · by_cases h : l = b.2
    · rw [decide_eq_true h, h]; simp
    · rw [decide_eq_false h]; exact beq_false_of_ne (by omega)
theorem len0_all {α : Type} (f : α → Bool) (l : List α) : decide ((l.filter f).length = 0) = l.all fun x => !f x := by
  induction l with
  | nil => rfl
  | cons x l ih =>
    rw [List.filter_cons, List.all_cons, ← ih]
    cases f x <;> simp
theorem adm_c (ok : Nat → Nat → Bool) (S : List Pr) (r l : Nat) : adm ok S r l = (decide ((S.filter (c1 l)).length = 0) && (decide ((S.filter (c2 l)).length = 0) && ok l r)) := by
  unfold adm
  rw [len0_all, len0_all]
  congr 2
  funext b
  rw [c1_is]
theorem fam_max (ok : Nat → Nat → Bool) (n : Nat) : ∃ x xs, (fam ok n).map (fun S => (S.length : Int)) = x :: xs ∧ xs.foldl max x = nN ok 0 n := by
  obtain ⟨t1, S0, hS0, t2⟩ := fam_top ok n
  cases e : (fam ok n).map (fun S => (S.length : Int)) with
  | nil =>
    have := fam_nil ok n
    rw [List.map_eq_nil_iff.mp e] at this; cases this
  | cons x xs =>
    refine ⟨x, xs, rfl, ?_⟩
    obtain ⟨a, b, c⟩ := foldmax xs x
    apply Int.le_antisymm
    · have hm : xs.foldl max x ∈ x :: xs := by
        rcases c with c | c
        · rw [c]; exact List.mem_cons_self ..
        · exact List.mem_cons_of_mem _ c
      rw [← e] at hm
      obtain ⟨S, hS, eS⟩ := List.mem_map.mp hm
      rw [← eS]; exact t1 S hS
    · rw [← t2]
      have hm : (S0.length : Int) ∈ x :: xs := by rw [← e]; exact List.mem_map.mpr ⟨S0, hS0, rfl⟩
      rcases List.mem_cons.mp hm with h | h
      · rw [h]; exact a
      · exact b _ h
section
variable {P : Program} {w : World} {K : PySem.W.Frag} {mg : Str → Option Value} {base : Heap}
def sp__law_nested : SpD := fun ds m Q => ∃ (wsD : List D) (t : List Nat), ds = [.tup wsD, .str (tx t)] ∧ wsD.all flatD = true ∧ t.length ≤ 7 ∧ Q (.int (nN (okW wsD t) 0 t.length)) m
theorem ok__law_nested  (T : Txt K mg)  : FnOk P w K mg base CX0 (1) T.f__law_nested T.fd__law_nested ["_law_words_here", "_law_text_here"] (spL K 2 sp__law_nested) := by
  refine fn_ok T.F__law_nested sc__law_nested (fun cdv A outer s H E hr =>
(gss_cons (gs_set (i := 2) sc__law_nested.nd rfl (.inl rfl) (ge_lst (ga_cons (ge_frz (ge_lst ga_nil)) ga_nil)))
 (gss_cons (gs_for PassesOwn.never rfl (gi_rng1 (by rfl) T.z_range (ga_cons (ge_callB call_lenU lc_len (by rfl) T.z_len PySem.boot_len (ga_cons (gv 1) ga_nil)) ga_nil)) (gg_name (i := 3) sc__law_nested.nd rfl (.inl rfl))
 (gss_cons (gs_set (i := 4) sc__law_nested.nd rfl (.inl rfl) (ge_lst ga_nil))
 (gss_cons (gs_for PassesOwn.never rfl (gi_seq (gv 2)) (gg_name (i := 5) sc__law_nested.nd rfl (.inl rfl))
 (gss_cons (gs_expr (ge_bm PySem.F.slot_list_append PySem.F.type_list_append mt_append lm_append (gv 4) (ga_cons (gv 5) ga_nil)))
 (gss_one (gs_for PassesOwn.never rfl (gi_rng1 (by rfl) T.z_range (ga_cons (gv 3) ga_nil)) (gg_name (i := 6) sc__law_nested.nd rfl (.inr rfl))
 (gss_cons (gs_set (i := 7) sc__law_nested.nd rfl (.inl rfl) (ge_cmpR (op_eqS hr.units) lr_eq (ge_callB call_lenU lc_len (by rfl) T.z_len PySem.boot_len (ga_cons (ge_lc (own := [("_law_pair", 9)]) rfl sc__law_nested.nd (gi_seq (gv 5)) (blkOk_by (N := N__law_nested) (sc := defScope s__law_nested) (by decide +kernel)) (fun _ _ _ _ _ => (gg_name (i := 9) sc__law_nested.nd rfl (.inl rfl))) (fun _ _ _ _ _ => (gts_one (gt_cmpR op_inU lr_in (gv 6) (gv 9) (by rfl)))) (fun _ _ _ _ _ => (gv 9)) (by decide)) ga_nil)) ge_int (nomark _)))
 (gss_cons (gs_setLc (i := 8) (own := [("_law_pair", 9)]) rfl sc__law_nested.nd rfl rfl (sw_true rfl rfl rfl (by decide +kernel)) (gi_seq (gv 5)) (blkOk_by (N := N__law_nested) (sc := defScope s__law_nested) (by decide +kernel)) (fun _ _ _ _ _ => (gg_name (i := 9) sc__law_nested.nd rfl (.inl rfl))) (fun _ _ _ _ _ => (gts_one (gt_chain (op_ltS hr.units) (op_ltS hr.units) lr_ltP lr_ltP (ge_ix (gv 9) ge_int) (gv 6) (ge_ix (gv 9) ge_int)))) (fun _ _ _ _ _ => (gv 9)) (by decide))
 (gss_one (gs_if (gw_and (gt_tru (gv 7)) (gw_and (gt_cmpR (op_eqS hr.units) lr_eq (ge_callB call_lenU lc_len (by rfl) T.z_len PySem.boot_len (ga_cons (gv 8) ga_nil)) ge_int (nomark _)) (gw_and1 (gt_cmpR op_inU lr_in (ge_op op_addL lr_addL (ge_ix (gv 1) (gv 6)) (ge_ix (gv 1) (gv 3))) (gv 0) (by rfl))))).gt
 (gss_one (gs_expr (ge_bm PySem.F.slot_list_append PySem.F.type_list_append mt_append lm_append (gv 4) (ga_cons (ge_frz (ge_op op_addL lr_addL (gv 5) (ge_lst (ga_cons (ge_tup (ga_cons (gv 6) (ga_cons (gv 3) ga_nil))) ga_nil)))) ga_nil))))
 gss_nil))))))))
 (gss_one (gs_set (i := 2) sc__law_nested.nd rfl (.inl rfl) (gv 4))))))
 (gss_one (gs_ret (ge_callB (cr_maxU rfl hr.units) lc_minU (by rfl) T.z_max (by decide +kernel) (ga_cons (ge_lc (own := [("_law_pairs", 5)]) rfl sc__law_nested.nd (gi_seq (gv 2)) (blkOk_by (N := N__law_nested) (sc := defScope s__law_nested) (by decide +kernel)) (fun _ _ _ _ _ => (gg_name (i := 5) sc__law_nested.nd rfl (.inl rfl))) (fun _ _ _ _ _ => gts_nil) (fun _ _ _ _ _ => (ge_callB call_lenU lc_len (by rfl) T.z_len PySem.boot_len (ga_cons (gv 5) ga_nil))) (by decide)) ga_nil))))))) (fun ds m Q h => ?_)
  obtain ⟨wsD, t, rfl, hf, hl, h⟩ := h
  rw [show startD N__law_nested [.tup wsD, .str (tx t)] = [some (.tup wsD), some (.str (tx t)), none, none, none, none, none, none, none, none] from rfl]
  have htl : t.length ≤ sizeLine := Nat.le_trans hl (by decide)
  walk_at "pd"
  intro p hp
  refine ⟨_, rfl, fun p1 hp1 => ?_⟩
  have m0 : ∀ x o, m x = some o → mdel (mset m p (.lst [])) p x = some o := fun x o e => by
    have hx : x ≠ p := fun z => by rw [z, hp] at e; cases e
    rw [mdel_ne hx, mset_ne hx]; exact e
  have h1 : m p1 = none := by
    cases e : m p1 with
    | none => rfl
    | some o => rw [m0 p1 o e] at hp1; cases hp1
  refine ⟨htl, by omega, by omega, ?_⟩
  rw [Int.toNat_natCast]
  refine loop_range (fun r s' m' => ∃ (pf : Addr) (x3 x4 x5 x6 x7 x8 x9 : Option D), s' = [some (.tup wsD), some (.str (tx t)), some (.ref pf), x3, x4, x5, x6, x7, x8, x9] ∧ PD.Sub m m' ∧ m' pf = some (.lst ((fam (okW wsD t) r).map prD))) ?_ ?_ ⟨p1, none, none, none, none, none, none, none, rfl, PD.Sub.new' (fun x o e => m0 x o e) h1, mset_same⟩
  · rintro r s' m' R hr hR ⟨pf, x3, x4, x5, x6, x7, x8, x9, rfl, sb, epf⟩
    refine ⟨trivial, ?_⟩
    walk_at "pd"
    intro pg hpg
    have ngf : pg ≠ pf := fun z => by rw [z, epf] at hpg; cases hpg
    have hgm : m pg = none := sb.free hpg
    refine ⟨_, seqOf_ref (mset_new hpg epf), ?_⟩
    refine loop_inv (fun rem s' m1 => ∃ (pre post : List (List Pr)) (x5 x6 x7 x8 x9 : Option D), fam (okW wsD t) r = pre ++ post ∧ rem = post.map prD ∧ s' = [some (.tup wsD), some (.str (tx t)), some (.ref pf), some (.int (r : Int)), some (.ref pg), x5, x6, x7, x8, x9] ∧ PD.Sub m m1 ∧ m1 pf = some (.lst ((fam (okW wsD t) r).map prD)) ∧ m1 pg = some (.lst ((pre.flatMap (grw (okW wsD t) r)).map prD))) ?_ ?_ ⟨[], _, _, _, _, _, _, rfl, rfl, rfl, sb.new' hgm, mset_new hpg epf, mset_same⟩
    · rintro d rem s' m1 R2 hR2 ⟨pre, post, y5, y6, y7, y8, y9, e1, e2, rfl, sb1, ef1, eg1⟩
      cases post with
      | nil => cases e2
      | cons S post =>
        rw [List.map_cons] at e2
        injection e2 with e2 e3
        subst e2
        have hS : S ∈ fam (okW wsD t) r := by rw [e1]; simp
        have hSl := fam_len _ hS
        have hcnt := Nat.le_trans (fam_count (okW wsD t) r) (fb7 (by omega))
        have hpre : (pre.flatMap (grw (okW wsD t) r)).length ≤ 5040 * 8 := by
          have a := flat_len (okW wsD t) r pre
          have b : pre.length ≤ 5040 := by
            have := congrArg List.length e1
            rw [List.length_append] at this; omega
          exact Nat.le_trans a (Nat.mul_le_mul b (by omega))
        refine ⟨seqOf_ref ef1, ?_⟩
        walk_at "pd"
        refine ⟨⟨_, _, lstOf_ref eg1⟩, _, _, lstOf_ref eg1, ?_, ?_⟩
        · rw [List.length_map]; exact Nat.lt_of_le_of_lt hpre (by decide)
        refine ⟨by omega, by omega, ?_⟩
        rw [Int.toNat_natCast]
        refine loop_range (fun l s' m2 => ∃ (x6 x7 x8 x9 : Option D), s' = [some (.tup wsD), some (.str (tx t)), some (.ref pf), some (.int (r : Int)), some (.ref pg), some (prD S), x6, x7, x8, x9] ∧ PD.Sub m m2 ∧ m2 pf = some (.lst ((fam (okW wsD t) r).map prD)) ∧ m2 pg = some (.lst ((pre.flatMap (grw (okW wsD t) r) ++ S :: ((List.range l).filter (adm (okW wsD t) S r)).map fun l => S ++ [(l, r)]).map prD))) ?_ ?_ ⟨_, _, _, _, rfl, sb1.new' hgm, by rw [mset_ne ngf.symm]; exact ef1, by rw [mset_same, List.map_append]; rfl⟩
        · rintro l s' m2 R3 hlr hR3 ⟨z6, z7, z8, z9, rfl, sb2, ef2, eg2⟩
          refine ⟨trivial, ?_⟩
          unfold prD
          walk_at "pd"
          intro p3 hp3
          refine comp_pureT (γ := Nat) pD pD (c1 l) (fun _ => trivial) (by omega) (fun b hb acc R4 R5 k1 k2 => ?_) ?_
          · unfold pD
            walk_at "pd"
            refine ⟨rfl, ?_⟩
            show if c1 l b = true then _ else _
            cases e : c1 l b with
            | true => rw [if_pos rfl]; exact k1 e
            | false => rw [if_neg Bool.false_ne_true]; exact k2 e
          walk_at "pd"
          refine ⟨_, seqOf_ref mset_same, fun p4 hp4 => ?_⟩
          obtain ⟨n4, n43⟩ := mset_none hp4
          refine comp_pureT (γ := Nat) pD pD (c2 l) (fun _ => trivial) (by omega) (fun b hb acc R4 R5 k1 k2 => ?_) ?_
          · unfold pD
            walk_at "pd"
            have e2' : c2 l b = (decide (b.1 < l) && decide (l < b.2)) := rfl
            by_cases q1 : b.1 < l
            · rw [if_pos (by omega)]
              by_cases q2 : l < b.2
              · rw [if_pos (by omega)]
                exact k1 (by rw [e2', decide_eq_true q1, decide_eq_true q2]; rfl)
              · rw [if_neg (by omega)]
                exact k2 (by rw [e2', decide_eq_false q2, Bool.and_false])
            · rw [if_neg (by omega)]
              exact k2 (by rw [e2', decide_eq_false q1, Bool.false_and])
          walk_at "pd"
          have ha := adm_c (okW wsD t) S r l
          have k4 : ∀ x o, m2 x = some o → mset (mset m2 p3 (.lst ((S.filter (c1 l)).map pD))) p4 (.lst ((S.filter (c2 l)).map pD)) x = some o := fun x o e => mset_new hp4 (mset_new hp3 e)
          have e4 : mset (mset m2 p3 (.lst ((S.filter (c1 l)).map pD))) p4 (.lst ((S.filter (c2 l)).map pD)) p4 = some (.lst ((S.filter (c2 l)).map pD)) := mset_same
          generalize mset (mset m2 p3 (.lst ((S.filter (c1 l)).map pD))) p4 (.lst ((S.filter (c2 l)).map pD)) = M4 at *
          have no : adm (okW wsD t) S r l = false → ∀ u7 u8 u9, R3 [some (.tup wsD), some (.str (tx t)), some (.ref pf), some (.int (r : Int)), some (.ref pg), some (prD S), some (.int (l : Int)), u7, u8, u9] M4 := fun hn u7 u8 u9 => by
            refine hR3 _ _ ⟨_, _, _, _, rfl, fun x o e => k4 _ _ (sb2 x o e), k4 _ _ ef2, ?_⟩
            rw [k4 _ _ eg2, List.range_succ, List.filter_append, List.filter_cons, if_neg (by rw [hn]; exact Bool.false_ne_true), List.filter_nil, List.append_nil]
          rw [List.length_map]
          by_cases a1 : (S.filter (c1 l)).length = 0
          · rw [if_pos (by omega)]
            refine ⟨_, seqOf_ref e4, ?_⟩
            rw [List.length_map]
            by_cases a2 : (S.filter (c2 l)).length = 0
            · rw [if_pos (by omega)]
              have hlt : l < t.length := by omega
              refine ⟨htl, _, at_cd hlt, htl, _, at_cd hr, hf, ?_⟩
              show if okW wsD t l r = true then _ else _
              rw [decide_eq_true a1, decide_eq_true a2, Bool.true_and, Bool.true_and] at ha
              cases eo : okW wsD t l r with
              | true =>
                rw [if_pos rfl]
                refine ⟨⟨_, _, lstOf_ref (k4 _ _ eg2)⟩, fun p5 hp5 => ⟨_, _, rfl, lsq_ref mset_same, ?_, fun p6 hp6 => ⟨_, rfl, ?_⟩⟩⟩
                · rw [List.length_map, List.length_singleton]; exact Nat.le_trans (by omega : _ ≤ 8) (by decide)
                obtain ⟨n6, n65⟩ := mset_none hp6
                have keep : ∀ x o o5 o6, M4 x = some o → mdel (mset (mset M4 p5 o5) p6 o6) p6 x = some o := fun x o o5 o6 e => by
                  have h5 : x ≠ p5 := fun z => by rw [z, hp5] at e; cases e
                  have h6 : x ≠ p6 := fun z => by rw [z, n6] at e; cases e
                  rw [mdel_ne h6, mset_ne h6, mset_ne h5]; exact e
                refine ⟨_, _, lstOf_ref (keep _ _ _ _ (k4 _ _ eg2)), ?_, hR3 _ _ ⟨_, _, _, _, rfl, ?_, ?_, ?_⟩⟩
                · rw [List.length_map, List.length_append, List.length_cons, List.length_map]
                  have := List.length_filter_le (adm (okW wsD t) S r) (List.range l)
                  rw [List.length_range] at this
                  exact Nat.lt_of_le_of_lt (by omega : _ ≤ 5040 * 8 + 8) (by decide)
                · exact PD.Sub.new' (fun x o e => keep _ _ _ _ (k4 _ _ (sb2 x o e))) hgm
                · rw [mset_ne ngf.symm]; exact keep _ _ _ _ (k4 _ _ ef2)
                · have el : D.rol (S.map pD ++ [D.tup [.int (l : Int), .int (r : Int)]]) = prD (S ++ [(l, r)]) := by unfold prD; rw [List.map_append]; rfl
                  rw [mset_same, List.range_succ, List.filter_append, List.filter_cons, if_pos (by rw [ha]; exact eo), List.filter_nil, el]
                  simp only [List.map_append, List.map_cons, List.map_nil, List.append_assoc, List.cons_append]
              | false =>
                rw [if_neg Bool.false_ne_true]
                exact no (by rw [ha]; exact eo) _ _ _
            · rw [if_neg (by omega)]
              exact no (by rw [ha, decide_eq_false a2, Bool.false_and, Bool.and_false]) _ _ _
          · rw [if_neg (by omega)]
            exact no (by rw [ha, decide_eq_false a1, Bool.false_and]) _ _ _
        · rintro s' m2 ⟨z6, z7, z8, z9, rfl, sb2, ef2, eg2⟩
          exact ⟨trivial, hR2 _ _ ⟨pre ++ [S], post, _, _, _, _, _, by rw [e1]; simp, e3, rfl, sb2, ef2, by rw [eg2, List.flatMap_append, List.flatMap_cons, List.flatMap_nil, List.append_nil]; rfl⟩⟩
    · rintro s' m1 ⟨pre, post, y5, y6, y7, y8, y9, e1, e2, rfl, sb1, ef1, eg1⟩
      cases post with
      | cons S post => cases e2
      | nil =>
        rw [List.append_nil] at e1
        refine ⟨seqOf_ref ef1, ?_⟩
        walk_at "pd"
        exact hR _ _ ⟨pg, _, _, _, _, _, _, _, rfl, sb1, by rw [eg1, fam_grw, ← e1]⟩
  · rintro s' m' ⟨pf, x3, x4, x5, x6, x7, x8, x9, rfl, sb, epf⟩
    refine ⟨trivial, ?_⟩
    walk_at "pd"
    refine ⟨_, seqOf_ref epf, fun p2 hp2 => ?_⟩
    have n2 : p2 ≠ pf := fun z => by rw [z, epf] at hp2; cases hp2
    have hc := Nat.le_trans (fam_count (okW wsD t) t.length) (fb7 hl)
    refine comp_pureT (γ := Nat) prD (fun S => .int (S.length : Int)) (fun _ => true) (fun a => seqOf_ref (by rw [mset_ne n2.symm]; exact epf)) (by omega) (fun S hS acc R1 R3 k1 _ => ?_) ?_
    · unfold prD
      walk_at "pd"
      rw [List.length_map]
      exact k1 rfl
    rw [filter_yes]
    obtain ⟨x, xs, e1, e2⟩ := fam_max (okW wsD t) t.length
    have e3 : ((fam (okW wsD t) t.length).map fun S => D.int (S.length : Int)) = D.int x :: xs.map .int := by
      have := congrArg (List.map D.int) e1
      rw [List.map_map] at this; exact this
    rw [e3]
    obtain ⟨d1, es, q1, q2, q3, q4⟩ := max_int x xs (Q := fun x => Q x m) (by rw [e2]; exact h)
    exact ⟨d1, es, by rw [seqOf_ref mset_same, q1], q2, q3, fun x hx ex => ⟨m, sb.new' (sb.free hp2), q4 x hx ex⟩⟩
end
end K78

set_option Elab.async false
set_option linter.all false
set_option maxRecDepth 100000
set_option maxHeartbeats 4000000
namespace K78
open PySem PySem.Spec PyProof.Rows L2 PD
local macro_rules | `(tactic| walk_at "pd") => `(tactic| simp (config := { decide := true, maxSteps := 400000 }) only [dAbs_i, ten12, tx_app, tx_len, tx_emp, dIx_tx, sgn_tx, cutS_to, cutS_fr, cutS_fr1, dPar, dIRng2, dIEnumS, dIStr, dInSg, dJoin, dSlS, dUpper, dChain, dDNewT, dDGetT, dDPutT, dMin3_i, dMax3_i, dCallX, dRaise, dSeq, dSet, dAsg, dgN, dRet, dRetN, dIfS, dFor, dLoop, dDrop, dNext, dVar, dC, dNil, dCons, dOp, dUn, dTest, dTru, dAnd, dOr, dNot, dAndV, dOrV, dNotV, dIfE, dTup, dLst, dCB, dCall, dCallP, dBM, dBM0, dLc, dComp, dYes, dgTup, dgCons, dgNil, dgSub, dPart, dNoPart, dAug, dIsi, dEq, dNe, wipeD, endsOf,
  dFrz, dFrzV_i, dFrzV_s, dFrzV_b, dFrzV_n, dFrzV_t, dFrzV_l, dFrzV_r, dAddL_i, dAddL_s, dAddL_t, dAddL_rr, dAddL_rl, dAddL_lr, dAddL_ll, dMulL_i, dMulL_s, dMulL_r, dSlL_v, dSlLV_t, dSlLV_l, dSlLV_r, dMinU_1, dMinU_2, dSumL_1, dSetTx_1, dIx_l, dLen_l, dInG_l, truD_rol, tyD_rol, dInt1_b, dISeqV_l, dLtS_i, dLtS_s, ltP_i, ltP_s, lsq_rol, dDNew, dDGet, dDGet2, dDSetd, dDPut, dSub_i, dInt2_i, dNeg_i, dCmp_i, dIsN_n, dNotN_n, dInG_t, dInG_r, dIx_t, dIx_r, dLen_s, dLen_t, dLen_r, dTuple_1, dList_1, dInt1_i, dRev_v, dRevV_t, dRevV_r, dISeq_v, dISeqV_t, dISeqV_r, dIEnum_v, dIEnumV_t, dIEnumV_r, dPop_0, dPop_i, dAppend_1, dExtend_1, dSub3_i, dIRng1_v, dRng1V_i,
  seqOf_tup, seqOf_rol, seqW_tup, eqK_ss, eqK_ii, eqK_bb, eqK_nn, eqK_ts, eqK_st, eqK_ti, eqK_is, eqK_ns, flatD_str, flatD_int, flatD_bl, flatD_non, isT_NoneType_bool, isT_NoneType_int, isT_NoneType_str, isT_NoneType_tuple, isT_NoneType_list, isT_bool_bool, isT_bool_int, isT_bool_str, isT_bool_tuple, isT_bool_list, isT_int_bool, isT_int_int, isT_int_str, isT_int_tuple, isT_int_list, isT_str_bool, isT_str_int, isT_str_str, isT_str_tuple, isT_str_list, isT_tuple_bool, isT_tuple_int, isT_tuple_str, isT_tuple_tuple, isT_tuple_list, isT_list_bool, isT_list_int, isT_list_str, isT_list_tuple, isT_list_list, isNon_non, isNon_bl, isNon_int, isNon_str, isNon_tup, tyD_non, tyD_bl, tyD_int, tyD_str, tyD_tup, truD_bl, truD_int, truD_tup,
  atI_0, atI_1, atI_2, atI_3, atI_4, atI_m1, atI_m2, atI_m3, Option.some.injEq, exists_eq_left', exists_eq_left, beq_self_eq_true, Bool.not_true, Bool.not_false, if_true, if_false, true_and, and_true, Bool.false_eq_true, ↓reduceIte,
  List.getElem?_cons_zero, List.getElem?_cons_succ, List.set_cons_zero, List.set_cons_succ, List.map_cons, List.map_nil, List.length_cons, List.length_nil, mset_same, mset_mset, List.isEmpty_nil, List.isEmpty_cons, decide_eq_true_eq, beq_iff_eq, seqI_0, List.eraseIdx_cons_zero, List.eraseIdx_cons_succ, ixN_40, ixN_41, ixN_42, ixN_43, Nat.reduceAdd])
local macro_rules | `(tactic| walk_at "ne") => `(tactic| first | assumption | exact Ne.symm (by assumption))
local macro_rules | `(tactic| walk_at "mu") => `(tactic| first | exact mset_same | assumption | exact mset_skip (by walk_at "ne") (by walk_at "mu"))
local macro_rules | `(tactic| walk_at "go") => `(tactic| repeat (first | walk_at "pd" | refine ⟨_, seqOf_ref (by walk_at "mu"), ?_⟩ | refine ⟨⟨_, _, lstOf_ref (by walk_at "mu")⟩, ?_⟩ | refine ⟨_, _, lstOf_ref (by walk_at "mu"), ?_⟩ | refine ⟨(show CMul _ _ from Or.inr ⟨by decide, by decide⟩), ?_⟩ | refine ⟨(show CDiv _ _ from ⟨by decide, by decide⟩), ?_⟩))
local macro_rules | `(tactic| walk_at "w") => `(tactic| try walk_at "pd")
theorem dD_nonneg (xs ys : Nat → Nat) {gap ch : Int} (hg : 0 ≤ gap) (hc : 0 ≤ ch) (i j : Nat) : 0 ≤ dD xs ys gap ch i j := by
  obtain ⟨r, q, a, b, c, d⟩ := dist_att xs ys gap ch i j
  rw [← d]
  unfold cost
  have l1 := rows_len a
  have l2 := rows_len b
  have h1 : 0 ≤ gap * ((i : Int) + j - 2 * r.length) := Int.mul_nonneg hg (by omega)
  have h2 : 0 ≤ ch * (unl xs ys r q : Int) := Int.mul_nonneg hc (by omega)
  omega
theorem dL_nonneg (xs ys : Nat → Nat) (i j : Nat) : 0 ≤ dL xs ys i j := by
  obtain ⟨r, q, a, b, c, d⟩ := long_att xs ys i j
  omega
theorem nN_nonneg (ok : Nat → Nat → Bool) (n : Nat) : 0 ≤ nN ok 0 n := by
  have := (fam_top ok n).1 [] (fam_nil ok n)
  simpa using this
/-- the rows that are looked at -/
def rowsOf (which : Nat) (v1 v2 : D) : List D := if which < 2 then [v1, v2] else [v1]
/-- a row is bad, the first one at place i -/
def FstBad (sg : List Nat) (vs : List D) (i : Nat) : Prop := ∃ pre b post, vs = pre ++ b :: post ∧ (∀ v ∈ pre, GoodV sg v) ∧ BadV sg b ∧ i = pre.length
def LetOk (which : Nat) (sg : List Nat) (wsD : List D) (v1 v2 : D) (gap ch due : Int) : Prop :=
  (∃ i, FstBad sg (rowsOf which v1 v2) i ∧ due = -1 - (i : Int)) ∨
  ((∀ v ∈ rowsOf which v1 v2, GoodV sg v) ∧ ∀ xs ys, v1 = .str (tx xs) → (which < 2 → v2 = .str (tx ys)) → due = if which = 0 then dD (cd xs) (cd ys) gap ch xs.length ys.length else if which = 1 then dL (cd xs) (cd ys) xs.length ys.length else nN (okW wsD xs) 0 xs.length)
section
variable {P : Program} {w : World} {K : PySem.W.Frag} {mg : Str → Option Value} {base : Heap}
def sp__law_number : SpD := fun ds m Q => ∃ x y : Int, ds = [.int x, .int y] ∧ Q (.bl (x == y)) m
theorem ok__law_number  (T : Txt K mg)  : FnOk P w K mg base CX0 (1) T.f__law_number T.fd__law_number ["_law_found", "_law_due"] (spL K 2 sp__law_number) := by
  refine fn_ok T.F__law_number sc__law_number (fun cdv A outer s H E hr =>
(gss_one (gs_ret (ge_and (ge_isi (T := "int") rfl (by rfl) T.z_isinstance (gv 0) (by rfl) T.z_int (by decide +kernel)) (ge_and (ge_not (ge_isi (T := "bool") rfl (by rfl) T.z_isinstance (gv 0) (by rfl) T.z_bool (by decide +kernel))) (ge_one (ge_cmpR (op_eqS hr.units) lr_eq (gv 0) (gv 1) (nomark _)))))))) (fun ds m Q h => ?_)
  obtain ⟨x, y, rfl, h⟩ := h
  rw [show startD N__law_number [.int x, .int y] = [some (.int x), some (.int y)] from rfl]
  walk_at "pd"
  exact sub_refl_fin h
def sp__law_refused : SpD := fun ds m Q => ∃ (which : Nat) (sg : List Nat) (wsD : List D) (v1 v2 : D) (gap ch : Int) (i : Nat), ds = [.int (which : Int), .str (tx sg), .tup wsD, v1, v2, .tup [.int gap, .int ch]] ∧ which ≤ 2 ∧ wsD.all flatD = true ∧ FstBad sg (rowsOf which v1 v2) i ∧ Q (.tup [.int (i : Int), .bl true]) m
def sp__law_let : SpD := fun ds m Q => ∃ (which : Nat) (sg : List Nat) (wsD : List D) (v1 v2 : D) (gap ch due : Int), ds = [.int (which : Int), .str (tx sg), .tup wsD, v1, v2, .tup [.int gap, .int ch], .int due] ∧ which ≤ 2 ∧ wsD.all flatD = true ∧ 0 ≤ gap ∧ 0 ≤ ch ∧ LetOk which sg wsD v1 v2 gap ch due ∧ Q (.bl true) m
theorem ok__law_let  (T : Txt K mg) (G__law_number : FnOk P w K mg base CX0 (1) T.f__law_number T.fd__law_number ["_law_found", "_law_due"] (spL K 2 sp__law_number)) (G_nested : FnOk P w K mg base (L2.CX P w) (4) T.f_nested T.fd_nested ["signs", "words", "text"] (spX K 3 (sp_nested T.c_BadRows))) (G_longest : FnOk P w K mg base (L2.CX P w) (4) T.f_longest T.fd_longest ["signs", "one", "other"] (spX K 3 (sp_longest T.c_BadRows))) (G_distance : FnOk P w K mg base (L2.CX P w) (4) T.f_distance T.fd_distance ["signs", "one", "other", "gap", "change"] (spX K 5 (sp_distance T.c_BadRows))) (G__law_refused : FnOk P w K mg base CX0 (6) T.f__law_refused T.fd__law_refused ["_law_which", "_law_signs_here", "_law_words_here", "_law_one", "_law_other", "_law_costs_here"] (spL K 6 sp__law_refused)) : FnOk P w K mg base CX0 (7) T.f__law_let T.fd__law_let ["_law_which", "_law_signs_here", "_law_words_here", "_law_one", "_law_other", "_law_costs_here", "_law_due"] (spL K 7 sp__law_let) := by
  refine fn_ok T.F__law_let sc__law_let (fun cdv A outer s H E hr =>
(gss_cons (gs_if (gt_cmpR (op_ltS hr.units) lr_ltP (gv 6) ge_int (nomark _))
 (gss_cons (gs_set (i := 7) sc__law_let.nd rfl (.inl rfl) (ge_call G__law_refused (hr.mono (by omega)) (by rfl) T.g__law_refused T.F__law_refused.kp T.b__law_refused (ga_cons (gv 0) (ga_cons (gv 1) (ga_cons (gv 2) (ga_cons (gv 3) (ga_cons (gv 4) (ga_cons (gv 5) ga_nil))))))))
 (gss_one (gs_ret (ge_and (ge_call G__law_number (hr.mono (by omega)) (by rfl) T.g__law_number T.F__law_number.kp T.b__law_number (ga_cons (ge_ix (gv 7) ge_int) (ga_cons (ge_frz (ge_op op_sub lr_sub (ge_un un_neg lu_neg ge_int) (gv 6))) ga_nil))) (ge_one (ge_ix (gv 7) ge_int))))))
 gss_nil)
 (gss_cons (gs_if (gt_cmpR (op_eqS hr.units) lr_eq (gv 0) ge_int (nomark _))
 (gss_one (gs_ret (ge_call G__law_number (hr.mono (by omega)) (by rfl) T.g__law_number T.F__law_number.kp T.b__law_number (ga_cons (ge_callX G_distance (no_tk) (hr.mono (by omega)) (by rfl) T.g_distance T.F_distance.kp T.b_distance (ga_cons (gv 1) (ga_cons (gv 3) (ga_cons (gv 4) (ga_cons (ge_ix (gv 5) ge_int) (ga_cons (ge_ix (gv 5) ge_int) ga_nil)))))) (ga_cons (gv 6) ga_nil)))))
 gss_nil)
 (gss_cons (gs_if (gt_cmpR (op_eqS hr.units) lr_eq (gv 0) ge_int (nomark _))
 (gss_one (gs_ret (ge_call G__law_number (hr.mono (by omega)) (by rfl) T.g__law_number T.F__law_number.kp T.b__law_number (ga_cons (ge_callX G_longest (no_tk) (hr.mono (by omega)) (by rfl) T.g_longest T.F_longest.kp T.b_longest (ga_cons (gv 1) (ga_cons (gv 3) (ga_cons (gv 4) ga_nil)))) (ga_cons (gv 6) ga_nil)))))
 gss_nil)
 (gss_one (gs_ret (ge_call G__law_number (hr.mono (by omega)) (by rfl) T.g__law_number T.F__law_number.kp T.b__law_number (ga_cons (ge_callX G_nested (no_tk) (hr.mono (by omega)) (by rfl) T.g_nested T.F_nested.kp T.b_nested (ga_cons (gv 1) (ga_cons (gv 2) (ga_cons (gv 3) ga_nil)))) (ga_cons (gv 6) ga_nil))))))))) (fun ds m Q h => ?_)
  obtain ⟨which, sg, wsD, v1, v2, gap, ch, due, rfl, hw, hf, g0, c0, hL, h⟩ := h
  rw [show startD N__law_let [.int (which : Int), .str (tx sg), .tup wsD, v1, v2, .tup [.int gap, .int ch], .int due] = [some (.int (which : Int)), some (.str (tx sg)), some (.tup wsD), some (v1), some (v2), some (.tup [.int gap, .int ch]), some (.int due), none] from rfl]
  walk_at "pd"
  rcases hL with ⟨i, hb, hd⟩ | ⟨hg, hv⟩
  · rw [if_pos (by omega)]
    refine ⟨which, sg, wsD, v1, v2, gap, ch, i, rfl, hw, hf, hb, ?_⟩
    walk_at "pd"
    refine ⟨_, _, rfl, ?_⟩
    have e : ((i : Int) == -1 - due) = true := by rw [hd]; exact beq_iff_eq.mpr (by omega)
    rw [e]
    walk_at "pd"
    exact sub_refl_fin h
  · have done : ∀ z : Int, due = z → sp__law_number [.int z, .int due] m fun v m' => ∃ m'', PD.Sub m'' m' ∧ Q v m'' := fun z e => by
      refine ⟨_, _, rfl, ?_⟩
      have e : (z == due) = true := beq_iff_eq.mpr e.symm
      rw [e]; exact sub_refl_fin h
    by_cases w0 : which = 0
    · have hr : rowsOf which v1 v2 = [v1, v2] := if_pos (by omega)
      rw [hr] at hg
      obtain ⟨xs, e1, _, _⟩ := hg v1 (by simp)
      obtain ⟨ys, e2, _, _⟩ := hg v2 (by simp)
      have hv0 := fun xs ys a b => by have := hv xs ys a fun _ => b; rwa [if_pos w0] at this
      have := hv0 xs ys e1 e2
      have hn := dD_nonneg (cd xs) (cd ys) g0 c0 xs.length ys.length
      rw [if_neg (by omega), if_pos (by omega)]
      exact ⟨sg, v1, v2, gap, ch, rfl, .inl ⟨hg, fun xs ys a b => done _ (hv0 xs ys a b)⟩⟩
    · by_cases w1 : which = 1
      · have hr : rowsOf which v1 v2 = [v1, v2] := if_pos (by omega)
        rw [hr] at hg
        obtain ⟨xs, e1, _, _⟩ := hg v1 (by simp)
        obtain ⟨ys, e2, _, _⟩ := hg v2 (by simp)
        have hv0 := fun xs ys a b => by have := hv xs ys a fun _ => b; rwa [if_neg w0, if_pos w1] at this
        have := hv0 xs ys e1 e2
        have hn := dL_nonneg (cd xs) (cd ys) xs.length ys.length
        rw [if_neg (by omega), if_neg (by omega), if_pos (by omega)]
        exact ⟨sg, v1, v2, rfl, .inl ⟨hg, fun xs ys a b => done _ (hv0 xs ys a b)⟩⟩
      · have hr : rowsOf which v1 v2 = [v1] := if_neg (by omega)
        rw [hr] at hg
        obtain ⟨xs, e1, _, _⟩ := hg v1 (by simp)
        have hv0 := fun xs a => by have := hv xs [] a fun q => absurd q (by omega); rwa [if_neg w0, if_neg w1] at this
        have := hv0 xs e1
        have hn := nN_nonneg (okW wsD xs) xs.length
        rw [if_neg (by omega), if_neg (by omega), if_neg (by omega)]
        exact ⟨sg, wsD, v1, rfl, hf, .inl ⟨hg, fun xs a => done _ (hv0 xs a)⟩⟩
end
end K78

set_option Elab.async false
set_option linter.all false
set_option maxRecDepth 100000
set_option maxHeartbeats 4000000
namespace K78
open PySem PySem.Spec PyProof.Rows L2 PD
local macro_rules | `(tactic| walk_at "pd") => `(tactic| simp (config := { decide := true, maxSteps := 400000 }) only [dAbs_i, ten12, tx_app, tx_len, tx_emp, dIx_tx, sgn_tx, cutS_to, cutS_fr, cutS_fr1, dPar, dIRng2, dIEnumS, dIStr, dInSg, dJoin, dSlS, dUpper, dChain, dDNewT, dDGetT, dDPutT, dMin3_i, dMax3_i, dCallX, dRaise, dSeq, dSet, dAsg, dgN, dRet, dRetN, dIfS, dFor, dLoop, dDrop, dNext, dVar, dC, dNil, dCons, dOp, dUn, dTest, dTru, dAnd, dOr, dNot, dAndV, dOrV, dNotV, dIfE, dTup, dLst, dCB, dCall, dCallP, dBM, dBM0, dLc, dComp, dYes, dgTup, dgCons, dgNil, dgSub, dPart, dNoPart, dAug, dIsi, dEq, dNe, wipeD, endsOf,
  dFrz, dFrzV_i, dFrzV_s, dFrzV_b, dFrzV_n, dFrzV_t, dFrzV_l, dFrzV_r, dAddL_i, dAddL_s, dAddL_t, dAddL_rr, dAddL_rl, dAddL_lr, dAddL_ll, dMulL_i, dMulL_s, dMulL_r, dSlL_v, dSlLV_t, dSlLV_l, dSlLV_r, dMinU_1, dMinU_2, dSumL_1, dSetTx_1, dIx_l, dLen_l, dInG_l, truD_rol, tyD_rol, dInt1_b, dISeqV_l, dLtS_i, dLtS_s, ltP_i, ltP_s, lsq_rol, dDNew, dDGet, dDGet2, dDSetd, dDPut, dSub_i, dInt2_i, dNeg_i, dCmp_i, dIsN_n, dNotN_n, dInG_t, dInG_r, dIx_t, dIx_r, dLen_s, dLen_t, dLen_r, dTuple_1, dList_1, dInt1_i, dRev_v, dRevV_t, dRevV_r, dISeq_v, dISeqV_t, dISeqV_r, dIEnum_v, dIEnumV_t, dIEnumV_r, dPop_0, dPop_i, dAppend_1, dExtend_1, dSub3_i, dIRng1_v, dRng1V_i,
  seqOf_tup, seqOf_rol, seqW_tup, eqK_ss, eqK_ii, eqK_bb, eqK_nn, eqK_ts, eqK_st, eqK_ti, eqK_is, eqK_ns, flatD_str, flatD_int, flatD_bl, flatD_non, isT_NoneType_bool, isT_NoneType_int, isT_NoneType_str, isT_NoneType_tuple, isT_NoneType_list, isT_bool_bool, isT_bool_int, isT_bool_str, isT_bool_tuple, isT_bool_list, isT_int_bool, isT_int_int, isT_int_str, isT_int_tuple, isT_int_list, isT_str_bool, isT_str_int, isT_str_str, isT_str_tuple, isT_str_list, isT_tuple_bool, isT_tuple_int, isT_tuple_str, isT_tuple_tuple, isT_tuple_list, isT_list_bool, isT_list_int, isT_list_str, isT_list_tuple, isT_list_list, isNon_non, isNon_bl, isNon_int, isNon_str, isNon_tup, tyD_non, tyD_bl, tyD_int, tyD_str, tyD_tup, truD_bl, truD_int, truD_tup,
  atI_0, atI_1, atI_2, atI_3, atI_4, atI_m1, atI_m2, atI_m3, Option.some.injEq, exists_eq_left', exists_eq_left, beq_self_eq_true, Bool.not_true, Bool.not_false, if_true, if_false, true_and, and_true, Bool.false_eq_true, ↓reduceIte,
  List.getElem?_cons_zero, List.getElem?_cons_succ, List.set_cons_zero, List.set_cons_succ, List.map_cons, List.map_nil, List.length_cons, List.length_nil, mset_same, mset_mset, List.isEmpty_nil, List.isEmpty_cons, decide_eq_true_eq, beq_iff_eq, seqI_0, List.eraseIdx_cons_zero, List.eraseIdx_cons_succ, ixN_40, ixN_41, ixN_42, ixN_43, Nat.reduceAdd])
local macro_rules | `(tactic| walk_at "ne") => `(tactic| first | assumption | exact Ne.symm (by assumption))
local macro_rules | `(tactic| walk_at "mu") => `(tactic| first | exact mset_same | assumption | exact mset_skip (by walk_at "ne") (by walk_at "mu"))
local macro_rules | `(tactic| walk_at "go") => `(tactic| repeat (first | walk_at "pd" | refine ⟨_, seqOf_ref (by walk_at "mu"), ?_⟩ | refine ⟨⟨_, _, lstOf_ref (by walk_at "mu")⟩, ?_⟩ | refine ⟨_, _, lstOf_ref (by walk_at "mu"), ?_⟩ | refine ⟨(show CMul _ _ from Or.inr ⟨by decide, by decide⟩), ?_⟩ | refine ⟨(show CDiv _ _ from ⟨by decide, by decide⟩), ?_⟩))
local macro_rules | `(tactic| walk_at "w") => `(tactic| try walk_at "pd")
section
variable {P : Program} {w : World} {K : PySem.W.Frag} {mg : Str → Option Value} {base : Heap}
def sp__law_long : SpD := fun ds m Q => ∃ (a g : Addr) (sg : List Nat) (gap ch : Int), ds = [.ref a, .str (tx sg), .tup [.int gap, .int ch]] ∧ SgOk sg ∧ 0 ≤ gap ∧ 0 ≤ ch ∧ Tp m a g ∧ ∀ m', Q (.bl true) m'
def sp_law : SpD := fun ds m Q => ∃ ns : List Int, ds = [.rol (ns.map .int)] ∧ ns.length ≤ 63 ∧ ∀ m', Q (.bl true) m'
def wsD (ws : List (Nat × Nat)) : List D := ws.map fun p => .str (tx [p.1, p.2])
theorem wsD_flat (ws : List (Nat × Nat)) : (wsD ws).all flatD = true := by unfold wsD; rw [List.all_map, List.all_eq_true]; intro q _; rfl
theorem good_of {sg l : List Nat} (h : ∀ c ∈ l, c ∈ sg) (hl : l.length ≤ 100) : GoodV sg (.str (tx l)) := ⟨l, rfl, h, hl⟩
theorem dtx {a b : List Nat} (h : D.str (tx a) = D.str (tx b)) : a = b := tx_inj (by injection h)
theorem fst0 {sg : List Nat} {w : Nat} {v1 v2 : D} (h : BadV sg v1) : FstBad sg (rowsOf w v1 v2) 0 := by
  unfold rowsOf
  split
  · exact ⟨[], v1, _, rfl, fun _ h => (List.not_mem_nil h).elim, h, rfl⟩
  · exact ⟨[], v1, _, rfl, fun _ h => (List.not_mem_nil h).elim, h, rfl⟩
theorem fst1 {sg : List Nat} {w : Nat} {v1 v2 : D} (hw : w < 2) (g : GoodV sg v1) (h : BadV sg v2) : FstBad sg (rowsOf w v1 v2) 1 := by
  unfold rowsOf
  rw [if_pos hw]
  exact ⟨[v1], v2, [], rfl, fun v hv => by rw [List.mem_singleton.mp hv]; exact g, h, rfl⟩
theorem ok_law  (T : Txt K mg) (G__law_let : FnOk P w K mg base CX0 (7) T.f__law_let T.fd__law_let ["_law_which", "_law_signs_here", "_law_words_here", "_law_one", "_law_other", "_law_costs_here", "_law_due"] (spL K 7 sp__law_let)) (G__law_draw : FnOk P w K mg base CX0 (1) T.f__law_draw T.fd__law_draw ["_law_tape_here", "_law_many"] (spL K 2 sp__law_draw)) (G__law_long : FnOk P w K mg base CX0 (8) T.f__law_long T.fd__law_long ["_law_tape_here", "_law_signs_here", "_law_costs_here"] (spL K 3 sp__law_long)) (G__law_bad : FnOk P w K mg base CX0 (3) T.f__law_bad T.fd__law_bad ["_law_tape_here", "_law_signs_here"] (spL K 2 sp__law_bad)) (G__law_nested : FnOk P w K mg base CX0 (1) T.f__law_nested T.fd__law_nested ["_law_words_here", "_law_text_here"] (spL K 2 sp__law_nested)) (G__law_text : FnOk P w K mg base CX0 (2) T.f__law_text T.fd__law_text ["_law_tape_here", "_law_signs_here", "_law_most"] (spL K 3 sp__law_text)) (G__law_longest : FnOk P w K mg base CX0 (2) T.f__law_longest T.fd__law_longest ["_law_one", "_law_other"] (spL K 2 sp__law_longest)) (G__law_distance : FnOk P w K mg base CX0 (2) T.f__law_distance T.fd__law_distance ["_law_one", "_law_other", "_law_gap", "_law_change"] (spL K 4 sp__law_distance)) (G__law_costs : FnOk P w K mg base CX0 (2) T.f__law_costs T.fd__law_costs ["_law_tape_here"] (spL K 1 sp__law_costs)) (G__law_words : FnOk P w K mg base CX0 (2) T.f__law_words T.fd__law_words ["_law_tape_here", "_law_signs_here"] (spL K 2 sp__law_words)) (G__law_signs : FnOk P w K mg base CX0 (2) T.f__law_signs T.fd__law_signs ["_law_tape_here"] (spL K 1 sp__law_signs)) (G__law_tape : FnOk P w K mg base CX0 (1) T.f__law_tape T.fd__law_tape ["_law_script"] (spL K 1 sp__law_tape)) : FnOk P w K mg base CX0 (9) T.f_law T.fd_law ["_law_script"] (spL K 1 sp_law) := by
  refine fn_ok T.F_law sc_law (fun cdv A outer s H E hr =>
(gss_cons (gs_set (i := 1) sc_law.nd rfl (.inl rfl) (ge_call G__law_tape (hr.mono (by omega)) (by rfl) T.g__law_tape T.F__law_tape.kp T.b__law_tape (ga_cons (gv 0) ga_nil)))
 (gss_cons (gs_set (i := 2) sc_law.nd rfl (.inl rfl) (ge_call G__law_signs (hr.mono (by omega)) (by rfl) T.g__law_signs T.F__law_signs.kp T.b__law_signs (ga_cons (gv 1) ga_nil)))
 (gss_cons (gs_set (i := 3) sc_law.nd rfl (.inl rfl) (ge_ifE (gt_cmpR (op_eqS hr.units) lr_eq (ge_call G__law_draw (hr.mono (by omega)) (by rfl) T.g__law_draw T.F__law_draw.kp T.b__law_draw (ga_cons (gv 1) (ga_cons ge_int ga_nil))) ge_int (nomark _)) ge_int ge_int))
 (gss_cons (gs_set (i := 4) sc_law.nd rfl (.inl rfl) (ge_call G__law_text (hr.mono (by omega)) (by rfl) T.g__law_text T.F__law_text.kp T.b__law_text (ga_cons (gv 1) (ga_cons (gv 2) (ga_cons (gv 3) ga_nil)))))
 (gss_cons (gs_set (i := 5) sc_law.nd rfl (.inl rfl) (ge_call G__law_text (hr.mono (by omega)) (by rfl) T.g__law_text T.F__law_text.kp T.b__law_text (ga_cons (gv 1) (ga_cons (gv 2) (ga_cons (gv 3) ga_nil)))))
 (gss_cons (gs_set (i := 6) sc_law.nd rfl (.inl rfl) (ge_call G__law_words (hr.mono (by omega)) (by rfl) T.g__law_words T.F__law_words.kp T.b__law_words (ga_cons (gv 1) (ga_cons (gv 2) ga_nil))))
 (gss_cons (gs_for PassesOwn.never rfl (gi_rng1 (by rfl) T.z_range (ga_cons ge_int ga_nil)) (gg_name (i := 7) sc_law.nd rfl (.inl rfl))
 (gss_cons (gs_set (i := 14) sc_law.nd rfl (.inl rfl) (ge_call G__law_costs (hr.mono (by omega)) (by rfl) T.g__law_costs T.F__law_costs.kp T.b__law_costs (ga_cons (gv 1) ga_nil)))
 (gss_cons (gs_if (gt_not (gt_val (ge_call G__law_let (hr.mono (by omega)) (by rfl) T.g__law_let T.F__law_let.kp T.b__law_let (ga_cons ge_int (ga_cons (gv 2) (ga_cons (gv 6) (ga_cons (gv 4) (ga_cons (gv 5) (ga_cons (gv 14) (ga_cons (ge_call G__law_distance (hr.mono (by omega)) (by rfl) T.g__law_distance T.F__law_distance.kp T.b__law_distance (ga_cons (gv 4) (ga_cons (gv 5) (ga_cons (ge_ix (gv 14) ge_int) (ga_cons (ge_ix (gv 14) ge_int) ga_nil))))) ga_nil))))))))))
 (gss_one (gs_ret ge_bl))
 gss_nil)
 (gss_one (gs_par (i := 4) (j := 5) rfl sc_law.nd rfl rfl (by decide) rfl rfl (ga_cons (gv 5) (ga_cons (gv 4) ga_nil)))))))
 (gss_cons (gs_if (gt_not (gt_val (ge_call G__law_let (hr.mono (by omega)) (by rfl) T.g__law_let T.F__law_let.kp T.b__law_let (ga_cons ge_int (ga_cons (gv 2) (ga_cons (gv 6) (ga_cons (gv 4) (ga_cons (gv 5) (ga_cons (gv 14) (ga_cons (ge_call G__law_longest (hr.mono (by omega)) (by rfl) T.g__law_longest T.F__law_longest.kp T.b__law_longest (ga_cons (gv 4) (ga_cons (gv 5) ga_nil))) ga_nil))))))))))
 (gss_one (gs_ret ge_bl))
 gss_nil)
 (gss_cons (gs_if (gt_not (gt_val (ge_call G__law_let (hr.mono (by omega)) (by rfl) T.g__law_let T.F__law_let.kp T.b__law_let (ga_cons ge_int (ga_cons (gv 2) (ga_cons (gv 6) (ga_cons (gv 4) (ga_cons (gv 5) (ga_cons (ge_tup (ga_cons ge_int (ga_cons ge_int ga_nil))) (ga_cons (ge_frz (ge_op op_sub lr_sub (ge_op op_addL lr_addL (ge_callB call_lenU lc_len (by rfl) T.z_len PySem.boot_len (ga_cons (gv 4) ga_nil)) (ge_callB call_lenU lc_len (by rfl) T.z_len PySem.boot_len (ga_cons (gv 5) ga_nil))) (ge_op op_mulL lr_mulL ge_int (ge_call G__law_longest (hr.mono (by omega)) (by rfl) T.g__law_longest T.F__law_longest.kp T.b__law_longest (ga_cons (gv 4) (ga_cons (gv 5) ga_nil)))))) ga_nil))))))))))
 (gss_one (gs_ret ge_bl))
 gss_nil)
 (gss_cons (gs_set (i := 8) sc_law.nd rfl (.inr rfl) (ge_call G__law_text (hr.mono (by omega)) (by rfl) T.g__law_text T.F__law_text.kp T.b__law_text (ga_cons (gv 1) (ga_cons (gv 2) (ga_cons ge_int ga_nil)))))
 (gss_cons (gs_set (i := 9) sc_law.nd rfl (.inl rfl) (ge_join ge_str (ge_lc (own := [("_law_at", 16)]) rfl sc_law.nd (gi_rng1 (by rfl) T.z_range (ga_cons (ge_callB call_lenU lc_len (by rfl) T.z_len PySem.boot_len (ga_cons (gv 8) ga_nil)) ga_nil)) (blkOk_by (N := N_law) (sc := defScope s_law) (by decide +kernel)) (fun _ _ _ _ _ => (gg_name (i := 16) sc_law.nd rfl (.inl rfl))) (fun _ _ _ _ _ => gts_nil) (fun _ _ _ _ _ => (ge_ix (gv 8) (ge_op op_sub lr_sub (ge_op op_sub lr_sub (ge_callB call_lenU lc_len (by rfl) T.z_len PySem.boot_len (ga_cons (gv 8) ga_nil)) ge_int) (gv 16)))) (by decide))))
 (gss_cons (gs_for PassesOwn.never rfl (gi_seq (ge_tup (ga_cons (gv 8) (ga_cons (gv 9) ga_nil)))) (gg_name (i := 10) sc_law.nd rfl (.inl rfl))
 (gss_one (gs_if (gt_not (gt_val (ge_call G__law_let (hr.mono (by omega)) (by rfl) T.g__law_let T.F__law_let.kp T.b__law_let (ga_cons ge_int (ga_cons (gv 2) (ga_cons (gv 6) (ga_cons (gv 10) (ga_cons ge_str (ga_cons (gv 14) (ga_cons (ge_call G__law_nested (hr.mono (by omega)) (by rfl) T.g__law_nested T.F__law_nested.kp T.b__law_nested (ga_cons (gv 6) (ga_cons (gv 10) ga_nil))) ga_nil))))))))))
 (gss_one (gs_ret ge_bl))
 gss_nil)))
 (gss_cons (gs_set (i := 11) sc_law.nd rfl (.inl rfl) (ge_call G__law_bad (hr.mono (by omega)) (by rfl) T.g__law_bad T.F__law_bad.kp T.b__law_bad (ga_cons (gv 1) (ga_cons (gv 2) ga_nil))))
 (gss_cons (gs_set (i := 12) sc_law.nd rfl (.inl rfl) (ge_call G__law_draw (hr.mono (by omega)) (by rfl) T.g__law_draw T.F__law_draw.kp T.b__law_draw (ga_cons (gv 1) (ga_cons ge_int ga_nil))))
 (gss_cons (gs_set (i := 13) sc_law.nd rfl (.inl rfl) (ge_call G__law_draw (hr.mono (by omega)) (by rfl) T.g__law_draw T.F__law_draw.kp T.b__law_draw (ga_cons (gv 1) (ga_cons ge_int ga_nil))))
 (gss_cons (gs_if (gw_or (gt_cmpR (op_eqS hr.units) lr_eq (gv 12) ge_int (nomark _)) (gw_or1 (gt_cmpR (op_eqS hr.units) lr_eq (gv 13) ge_int (nomark _)))).gt
 (gss_one (gs_set (i := 15) sc_law.nd rfl (.inl rfl) (ge_call G__law_let (hr.mono (by omega)) (by rfl) T.g__law_let T.F__law_let.kp T.b__law_let (ga_cons (gv 12) (ga_cons (gv 2) (ga_cons (gv 6) (ga_cons (gv 11) (ga_cons (gv 5) (ga_cons (gv 14) (ga_cons (ge_un un_neg lu_neg ge_int) ga_nil))))))))))
 (gss_one (gs_if (gt_cmpR (op_eqS hr.units) lr_eq (gv 13) ge_int (nomark _))
 (gss_one (gs_set (i := 15) sc_law.nd rfl (.inl rfl) (ge_call G__law_let (hr.mono (by omega)) (by rfl) T.g__law_let T.F__law_let.kp T.b__law_let (ga_cons (gv 12) (ga_cons (gv 2) (ga_cons (gv 6) (ga_cons (gv 4) (ga_cons (gv 11) (ga_cons (gv 14) (ga_cons (ge_un un_neg lu_neg ge_int) ga_nil))))))))))
 (gss_one (gs_set (i := 15) sc_law.nd rfl (.inl rfl) (ge_call G__law_let (hr.mono (by omega)) (by rfl) T.g__law_let T.F__law_let.kp T.b__law_let (ga_cons (gv 12) (ga_cons (gv 2) (ga_cons (gv 6) (ga_cons (gv 11) (ga_cons (ge_call G__law_bad (hr.mono (by omega)) (by rfl) T.g__law_bad T.F__law_bad.kp T.b__law_bad (ga_cons (gv 1) (ga_cons (gv 2) ga_nil))) (ga_cons (gv 14) (ga_cons (ge_un un_neg lu_neg ge_int) ga_nil)))))))))))))
 (gss_cons (gs_if (gt_not (gt_tru (gv 15)))
 (gss_one (gs_ret ge_bl))
 gss_nil)
 (gss_cons (gs_if (gt_cmpR (op_eqS hr.units) lr_eq (ge_call G__law_draw (hr.mono (by omega)) (by rfl) T.g__law_draw T.F__law_draw.kp T.b__law_draw (ga_cons (gv 1) (ga_cons ge_int ga_nil))) ge_int (nomark _))
 (gss_one (gs_ret (ge_call G__law_long (hr.mono (by omega)) (by rfl) T.g__law_long T.F__law_long.kp T.b__law_long (ga_cons (gv 1) (ga_cons (gv 2) (ga_cons (gv 14) ga_nil))))))
 gss_nil)
 (gss_one (gs_ret (ge_and (ge_call G__law_let (hr.mono (by omega)) (by rfl) T.g__law_let T.F__law_let.kp T.b__law_let (ga_cons ge_int (ga_cons (gv 2) (ga_cons (gv 6) (ga_cons (gv 4) (ga_cons (gv 4) (ga_cons (gv 14) (ga_cons (ge_callB call_lenU lc_len (by rfl) T.z_len PySem.boot_len (ga_cons (gv 4) ga_nil)) ga_nil)))))))) (ge_one (ge_call G__law_let (hr.mono (by omega)) (by rfl) T.g__law_let T.F__law_let.kp T.b__law_let (ga_cons ge_int (ga_cons (gv 2) (ga_cons (gv 6) (ga_cons ge_str (ga_cons ge_str (ga_cons (gv 14) (ga_cons ge_int ga_nil))))))))))))))))))))))))))))))) (fun ds m Q h => ?_)
  obtain ⟨ns, rfl, hl, h⟩ := h
  rw [show startD N_law [.rol (ns.map .int)] = [some (.rol (ns.map .int)), none, none, none, none, none, none, none, none, none, none, none, none, none, none, none, none] from rfl]
  walk_at "pd"
  refine ⟨ns, rfl, hl, fun a g m1 _ _ _ S0 => ?_⟩
  walk_at "pd"
  refine ⟨a, g, rfl, S0, fun sg m2 g2 ok O2 S2 => ?_⟩
  walk_at "pd"
  refine ⟨_, _, _, rfl, by omega, by omega, S2, fun r3 m3 g3 r3_0 r3_1 O3 S3 => ?_⟩
  walk_at "pd"
  have both : ∀ {xs ys : List Nat}, xs.length ≤ 7 → ys.length ≤ 7 → (∀ c ∈ xs, c ∈ sg) → (∀ c ∈ ys, c ∈ sg) → ∀ v ∈ [D.str (tx xs), D.str (tx ys)], GoodV sg v := fun {xs ys} h1 h2 h3 h4 v hv => by
    simp only [List.mem_cons, List.not_mem_nil, or_false] at hv
    rcases hv with rfl | rfl
    · exact good_of h3 (by omega)
    · exact good_of h4 (by omega)
  have one : ∀ {xs : List Nat}, xs.length ≤ 7 → (∀ c ∈ xs, c ∈ sg) → ∀ v ∈ [D.str (tx xs)], GoodV sg v := fun {xs} h1 h3 v hv => by
    rw [List.mem_singleton.mp hv]; exact good_of h3 (by omega)
  split
  all_goals
    first
      | refine ⟨a, _, sg, 5, rfl, by decide, ok.1, ok.2.1, S3, fun l1 m4 g4 h4 c4 O4 S4 => ?_⟩
      | refine ⟨a, _, sg, 4, rfl, by decide, ok.1, ok.2.1, S3, fun l1 m4 g4 h4 c4 O4 S4 => ?_⟩
    walk_at "pd"
    first
      | refine ⟨a, _, sg, 5, rfl, by decide, ok.1, ok.2.1, S4, fun l2 m5 g5 h5 c5 O5 S5 => ?_⟩
      | refine ⟨a, _, sg, 4, rfl, by decide, ok.1, ok.2.1, S4, fun l2 m5 g5 h5 c5 O5 S5 => ?_⟩
    have h4 : l1.length ≤ 5 := by omega
    have h5 : l2.length ≤ 5 := by omega
    walk_at "pd"
    refine ⟨a, _, sg, rfl, ok.1, ok.2.1, S5, fun ws m6 g6 h6 O6 S6 => ?_⟩
    walk_at "pd"
    refine loop_range (n := 2) (fun i s' m' => ∃ (xs ys : List Nat) (g' : Addr) (x3 x7 x8 x9 x10 x11 x12 x13 x14 x15 x16 : Option D), s' = [some (.rol (ns.map .int)), some (.ref a), some (.str (tx sg)), x3, some (.str (tx xs)), some (.str (tx ys)), some (.tup (wsD ws)), x7, x8, x9, x10, x11, x12, x13, x14, x15, x16] ∧ xs.length ≤ 5 ∧ ys.length ≤ 5 ∧ (∀ c ∈ xs, c ∈ sg) ∧ (∀ c ∈ ys, c ∈ sg) ∧ Tp m' a g' ∧ (0 < i → ∃ gap ch : Int, x14 = some (.tup [.int gap, .int ch]) ∧ 0 ≤ gap ∧ 0 ≤ ch)) ?_ ?_ ⟨l1, l2, g6, _, _, _, _, _, _, _, _, _, _, _, rfl, h4, h5, c4, c5, S6, fun z => absurd z (by decide)⟩
    · rintro i s' m' R hi hR ⟨xs, ys, g', x3, x7, x8, x9, x10, x11, x12, x13, x14, x15, x16, rfl, hx, hy, cx, cy, T1, hc⟩
      refine ⟨trivial, ?_⟩
      walk_at "pd"
      refine ⟨a, _, rfl, T1, fun gap ch m7 g7 n1 n2 O7 S7 => ?_⟩
      walk_at "pd"
      refine ⟨xs, ys, gap, ch, rfl, hx, hy, ?_⟩
      walk_at "pd"
      refine ⟨0, sg, wsD ws, _, _, gap, ch, _, rfl, by decide, wsD_flat ws, n1, n2, .inr ⟨both (by omega) (by omega) cx cy, fun xs' ys' e1 e2 => by rw [if_pos rfl, dtx e1, dtx (e2 (by decide))]⟩, ?_⟩
      walk_at "pd"
      exact hR _ _ ⟨ys, xs, g7, _, _, _, _, _, _, _, _, _, _, _, rfl, hy, hx, cy, cx, S7, fun _ => ⟨gap, ch, rfl, n1, n2⟩⟩
    · rintro s' m' ⟨xs, ys, g', x3, x7, x8, x9, x10, x11, x12, x13, x14, x15, x16, rfl, hx, hy, cx, cy, T1, hc⟩
      obtain ⟨gap, ch, rfl, n1, n2⟩ := hc (by decide)
      refine ⟨trivial, ?_⟩
      walk_at "pd"
      refine ⟨xs, ys, rfl, hx, hy, ?_⟩
      walk_at "pd"
      refine ⟨1, sg, wsD ws, _, _, gap, ch, _, rfl, by decide, wsD_flat ws, n1, n2, .inr ⟨both (by omega) (by omega) cx cy, fun xs' ys' e1 e2 => by rw [if_neg (by decide), if_pos rfl, dtx e1, dtx (e2 (by decide))]⟩, ?_⟩
      walk_at "pd"
      have hxl : xs.length ≤ sizeLine := Nat.le_trans hx (by decide)
      have hyl : ys.length ≤ sizeLine := Nat.le_trans hy (by decide)
      refine ⟨hxl, hyl, xs, ys, rfl, hx, hy, ?_⟩
      walk_at "pd"
      refine ⟨.inl ⟨by omega, by omega⟩, ?_⟩
      refine ⟨0, sg, wsD ws, _, _, 1, 2, _, rfl, by decide, wsD_flat ws, by decide, by decide, .inr ⟨both (by omega) (by omega) cx cy, fun xs' ys' e1 e2 => by rw [if_pos rfl, dtx e1, dtx (e2 (by decide)), dD_dL]⟩, ?_⟩
      walk_at "pd"
      refine ⟨a, _, sg, 7, rfl, by decide, ok.1, ok.2.1, T1, fun l8 m8 g8 h8 c8 O8 S8 => ?_⟩
      have h8l : l8.length ≤ sizeLine := Nat.le_trans h8 (by decide)
      walk_at "pd"
      refine ⟨_, rfl, h8l, by omega, by omega, fun p hp => ?_⟩
      rw [Int.toNat_natCast, range_nat]
      refine comp_pureT (γ := Nat) (fun (k : Nat) => D.int (k : Int)) (fun k => D.str (tx [cd l8 (l8.length - 1 - k)])) (fun _ => true) (fun _ => trivial) (by rw [List.length_range]; omega) (fun k hk acc R1 R3 k1 _ => ?_) ?_
      · rw [List.mem_range] at hk
        walk_at "pd"
        have e : (l8.length : Int) - 1 - k = ((l8.length - 1 - k : Nat) : Int) := by omega
        rw [e]
        exact ⟨h8l, h8l, _, at_cd (by omega), k1 rfl⟩
      rw [filter_yes]
      have S9 := S8.new (o := .lst ((List.range l8.length).map fun k => D.str (tx [cd l8 (l8.length - 1 - k)]))) hp
      have e9 : mset m8 p (.lst ((List.range l8.length).map fun k => D.str (tx [cd l8 (l8.length - 1 - k)]))) p = some (.lst ((List.range l8.length).map fun k => D.str (tx [cd l8 (l8.length - 1 - k)]))) := mset_same
      generalize mset m8 p (.lst ((List.range l8.length).map fun k => D.str (tx [cd l8 (l8.length - 1 - k)]))) = m9 at *
      refine ⟨(List.range l8.length).map fun k => tx [cd l8 (l8.length - 1 - k)], by rw [seqOf_ref e9, List.map_map]; rfl, sum_ok (fun k => cd l8 (l8.length - 1 - k)) (by rw [List.length_range]; omega), ?_⟩
      rw [join_row (fun k => cd l8 (l8.length - 1 - k))]
      have cb : ∀ c ∈ (List.range l8.length).map (fun k => cd l8 (l8.length - 1 - k)), c ∈ sg := fun c hc => by
        obtain ⟨k, hk, rfl⟩ := List.mem_map.mp hc
        rw [List.mem_range] at hk
        rw [cd_at (by omega)]
        exact c8 _ (List.getElem_mem _)
      have hb : ((List.range l8.length).map (fun k => cd l8 (l8.length - 1 - k))).length ≤ 7 := by rw [List.length_map, List.length_range]; exact h8
      generalize (List.range l8.length).map (fun k => cd l8 (l8.length - 1 - k)) = back at *
      refine ⟨wsD ws, l8, rfl, wsD_flat ws, h8, ?_⟩
      walk_at "pd"
      refine ⟨2, sg, wsD ws, _, _, gap, ch, _, rfl, by decide, wsD_flat ws, n1, n2, .inr ⟨one h8 c8, fun xs' ys' e1 _ => by rw [if_neg (by decide), if_neg (by decide), dtx e1]⟩, ?_⟩
      walk_at "pd"
      refine ⟨wsD ws, back, rfl, wsD_flat ws, hb, ?_⟩
      walk_at "pd"
      refine ⟨2, sg, wsD ws, _, _, gap, ch, _, rfl, by decide, wsD_flat ws, n1, n2, .inr ⟨one hb cb, fun xs' ys' e1 _ => by rw [if_neg (by decide), if_neg (by decide), dtx e1]⟩, ?_⟩
      walk_at "pd"
      refine ⟨a, _, sg, rfl, ok, S9, fun bad m10 g10 bv O10 S10 => ?_⟩
      walk_at "pd"
      refine ⟨_, _, _, rfl, by omega, by omega, S10, fun r11 m11 g11 r11_0 r11_1 O11 S11 => ?_⟩
      walk_at "pd"
      refine ⟨_, _, _, rfl, by omega, by omega, S11, fun r12 m12 g12 r12_0 r12_1 O12 S12 => ?_⟩
      walk_at "pd"
      obtain ⟨wh, rfl⟩ := Int.eq_ofNat_of_zero_le r11_0
      by_cases w2 : (wh : Int) = 2
      · rw [if_pos w2]
        refine ⟨wh, sg, wsD ws, _, _, gap, ch, _, rfl, by omega, wsD_flat ws, n1, n2, .inl ⟨0, fst0 bv, by decide⟩, ?_⟩
        walk_at "pd"
        refine ⟨_, _, _, rfl, by omega, by omega, S12, fun r21 m21 g21 r21_0 r21_1 O21 S21 => ?_⟩
        walk_at "pd"
        split
        · exact ⟨a, _, sg, gap, ch, rfl, ok, n1, n2, S21, fun m' => sub_refl_fin (h m')⟩
        · refine ⟨hxl, 1, sg, wsD ws, _, _, gap, ch, _, rfl, by decide, wsD_flat ws, n1, n2, .inr ⟨both (by omega) (by omega) cx cx, fun xs' ys' e1 e2 => ?_⟩, ?_⟩
          · rw [if_neg (by decide), if_pos rfl, ← dtx e1, ← dtx (e2 (by decide))]
            exact (long_all (cd xs) (cd xs) (rows_all xs.length) rfl).symm
          walk_at "pd"
          refine ⟨2, sg, wsD ws, _, _, gap, ch, _, rfl, by decide, wsD_flat ws, n1, n2, .inr ⟨one (xs := []) (by decide) (fun _ h => (List.not_mem_nil h).elim), fun xs' ys' e1 _ => ?_⟩, sub_refl_fin (h _)⟩
          rw [if_neg (by decide), if_neg (by decide), ← dtx e1]
          exact (nN_none (okW (wsD ws) []) (by decide)).symm
      · rw [if_neg w2]
        by_cases z0 : r12 = 0
        · rw [if_pos z0]
          refine ⟨wh, sg, wsD ws, _, _, gap, ch, _, rfl, by omega, wsD_flat ws, n1, n2, .inl ⟨0, fst0 bv, by decide⟩, ?_⟩
          walk_at "pd"
          refine ⟨_, _, _, rfl, by omega, by omega, S12, fun r22 m22 g22 r22_0 r22_1 O22 S22 => ?_⟩
          walk_at "pd"
          split
          · exact ⟨a, _, sg, gap, ch, rfl, ok, n1, n2, S22, fun m' => sub_refl_fin (h m')⟩
          · refine ⟨hxl, 1, sg, wsD ws, _, _, gap, ch, _, rfl, by decide, wsD_flat ws, n1, n2, .inr ⟨both (by omega) (by omega) cx cx, fun xs' ys' e1 e2 => ?_⟩, ?_⟩
            · rw [if_neg (by decide), if_pos rfl, ← dtx e1, ← dtx (e2 (by decide))]
              exact (long_all (cd xs) (cd xs) (rows_all xs.length) rfl).symm
            walk_at "pd"
            refine ⟨2, sg, wsD ws, _, _, gap, ch, _, rfl, by decide, wsD_flat ws, n1, n2, .inr ⟨one (xs := []) (by decide) (fun _ h => (List.not_mem_nil h).elim), fun xs' ys' e1 _ => ?_⟩, sub_refl_fin (h _)⟩
            rw [if_neg (by decide), if_neg (by decide), ← dtx e1]
            exact (nN_none (okW (wsD ws) []) (by decide)).symm
        · rw [if_neg z0]
          by_cases z1 : r12 = 1
          · rw [if_pos z1]
            refine ⟨wh, sg, wsD ws, _, _, gap, ch, _, rfl, by omega, wsD_flat ws, n1, n2, .inl ⟨1, fst1 (by omega) (good_of cx (by omega)) bv, by decide⟩, ?_⟩
            walk_at "pd"
            refine ⟨_, _, _, rfl, by omega, by omega, S12, fun r23 m23 g23 r23_0 r23_1 O23 S23 => ?_⟩
            walk_at "pd"
            split
            · exact ⟨a, _, sg, gap, ch, rfl, ok, n1, n2, S23, fun m' => sub_refl_fin (h m')⟩
            · refine ⟨hxl, 1, sg, wsD ws, _, _, gap, ch, _, rfl, by decide, wsD_flat ws, n1, n2, .inr ⟨both (by omega) (by omega) cx cx, fun xs' ys' e1 e2 => ?_⟩, ?_⟩
              · rw [if_neg (by decide), if_pos rfl, ← dtx e1, ← dtx (e2 (by decide))]
                exact (long_all (cd xs) (cd xs) (rows_all xs.length) rfl).symm
              walk_at "pd"
              refine ⟨2, sg, wsD ws, _, _, gap, ch, _, rfl, by decide, wsD_flat ws, n1, n2, .inr ⟨one (xs := []) (by decide) (fun _ h => (List.not_mem_nil h).elim), fun xs' ys' e1 _ => ?_⟩, sub_refl_fin (h _)⟩
              rw [if_neg (by decide), if_neg (by decide), ← dtx e1]
              exact (nN_none (okW (wsD ws) []) (by decide)).symm
          · rw [if_neg z1]
            refine ⟨a, _, sg, rfl, ok, S12, fun bad2 m13 g13 bv2 O13 S13 => ?_⟩
            walk_at "pd"
            refine ⟨wh, sg, wsD ws, _, _, gap, ch, _, rfl, by omega, wsD_flat ws, n1, n2, .inl ⟨0, fst0 bv, by decide⟩, ?_⟩
            walk_at "pd"
            refine ⟨_, _, _, rfl, by omega, by omega, S13, fun r24 m24 g24 r24_0 r24_1 O24 S24 => ?_⟩
            walk_at "pd"
            split
            · exact ⟨a, _, sg, gap, ch, rfl, ok, n1, n2, S24, fun m' => sub_refl_fin (h m')⟩
            · refine ⟨hxl, 1, sg, wsD ws, _, _, gap, ch, _, rfl, by decide, wsD_flat ws, n1, n2, .inr ⟨both (by omega) (by omega) cx cx, fun xs' ys' e1 e2 => ?_⟩, ?_⟩
              · rw [if_neg (by decide), if_pos rfl, ← dtx e1, ← dtx (e2 (by decide))]
                exact (long_all (cd xs) (cd xs) (rows_all xs.length) rfl).symm
              walk_at "pd"
              refine ⟨2, sg, wsD ws, _, _, gap, ch, _, rfl, by decide, wsD_flat ws, n1, n2, .inr ⟨one (xs := []) (by decide) (fun _ h => (List.not_mem_nil h).elim), fun xs' ys' e1 _ => ?_⟩, sub_refl_fin (h _)⟩
              rw [if_neg (by decide), if_neg (by decide), ← dtx e1]
              exact (nN_none (okW (wsD ws) []) (by decide)).symm
end
end K78

set_option Elab.async false
set_option linter.all false
set_option maxRecDepth 100000
set_option maxHeartbeats 4000000
namespace K78
open PySem PySem.Spec PyProof.Rows L2 PD
theorem dD_congr {xs ys xs' ys' : Nat → Nat} (gap ch : Int) : ∀ i j : Nat, (∀ k, k < i → xs k = xs' k) → (∀ k, k < j → ys k = ys' k) → dD xs ys gap ch i j = dD xs' ys' gap ch i j
  | 0, j, _, _ => by rw [dD_zero, dD_zero]
  | i + 1, 0, _, _ => by rw [dD_left, dD_left]
  | i + 1, j + 1, h1, h2 => by
    have a1 : ∀ k, k < i → xs k = xs' k := fun k hk => h1 k (by omega)
    have a2 : ∀ k, k < j → ys k = ys' k := fun k hk => h2 k (by omega)
    rw [dD_succ, dD_succ, dD_congr gap ch i j a1 a2, dD_congr gap ch i (j + 1) a1 h2, dD_congr gap ch (i + 1) j h1 a2]
    unfold sub
    rw [h1 i (by omega), h2 j (by omega)]
theorem cd_rep {n c i : Nat} (h : i < n) : cd (List.replicate n c) i = c := by
  rw [cd_at (by rw [List.length_replicate]; exact h), List.getElem_replicate]
theorem dD_rep {c d : Nat} (hne : c ≠ d) (gap ch : Int) (i j : Nat) : dD (cd (List.replicate i c)) (cd (List.replicate j d)) gap ch i j = min (gap * ((i : Int) + j)) (gap * (((i : Int) - j).natAbs : Int) + ch * (min (i : Int) j)) := by
  rw [dD_congr (xs' := fun _ => c) (ys' := fun _ => d) gap ch i j (fun k hk => cd_rep hk) fun k hk => cd_rep hk]
  exact dist_unlike gap ch (fun _ _ => hne) i j
theorem range_cd (l : List Nat) : (List.range l.length).map (cd l) = l := by
  refine List.ext_getElem (by simp) fun i h1 h2 => ?_
  rw [List.getElem_map, List.getElem_range, cd_at h2]
/-- the program's own words for it -/
theorem due_is (gap ch : Int) (i j : Nat) : (if (gap * (if (i : Int) - j < 0 then -((i : Int) - j) else (i : Int) - j) + ch * (if (j : Int) < i then (j : Int) else i)) < gap * ((i : Int) + j) then gap * (if (i : Int) - j < 0 then -((i : Int) - j) else (i : Int) - j) + ch * (if (j : Int) < i then (j : Int) else i) else gap * ((i : Int) + j)) = min (gap * ((i : Int) + j)) (gap * (((i : Int) - j).natAbs : Int) + ch * (min (i : Int) j)) := by
  have e1 : (if (i : Int) - j < 0 then -((i : Int) - j) else (i : Int) - j) = (((i : Int) - j).natAbs : Int) := by split <;> omega
  have e2 : (if (j : Int) < i then (j : Int) else i) = min (i : Int) j := by split <;> omega
  rw [e1, e2]
  split <;> omega
theorem due_sym (gap ch : Int) (i j : Nat) : min (gap * ((i : Int) + j)) (gap * (((i : Int) - j).natAbs : Int) + ch * (min (i : Int) j)) = min (gap * ((j : Int) + i)) (gap * (((j : Int) - i).natAbs : Int) + ch * (min (j : Int) i)) := by
  rw [show ((i : Int) + j) = (j : Int) + i by omega, show (((i : Int) - j).natAbs : Int) = (((j : Int) - i).natAbs : Int) by omega, show min (i : Int) j = min (j : Int) i by omega]
/-! ### c0 x times, c1 y times, c0 z times -/
def tri (c d x y z : Nat) : List Nat := List.replicate x c ++ List.replicate y d ++ List.replicate z c
theorem tri_len (c d x y z : Nat) : (tri c d x y z).length = x + y + z := by unfold tri; simp [Nat.add_assoc]
theorem tri_at {c d x y z i : Nat} (h : i < x + y + z) : cd (tri c d x y z) i = if i < x then c else if i < x + y then d else c := by
  rw [cd_at (by rw [tri_len]; exact h)]
  unfold tri
  by_cases h1 : i < x
  · rw [if_pos h1, List.getElem_append_left (by simp; omega), List.getElem_append_left (by simp; omega), List.getElem_replicate]
  · rw [if_neg h1]
    by_cases h2 : i < x + y
    · rw [if_pos h2, List.getElem_append_left (by simp; omega), List.getElem_append_right (by simp; omega), List.getElem_replicate]
    · rw [if_neg h2, List.getElem_append_right (by simp; omega), List.getElem_replicate]
theorem tri_out {c d x y z i : Nat} (h : ¬ i < x + y + z) : cd (tri c d x y z) i = 0 := by
  unfold cd
  rw [List.getD_eq_getElem?_getD, List.getElem?_eq_none (by rw [tri_len]; omega)]; rfl
theorem ok_one (c d : Nat) (t : List Nat) (s p : Nat) : okW [.str (tx [c, d])] t s p = decide (cd t s = c ∧ cd t p = d) := by
  unfold okW
  have := inF_tx ([cd t s] ++ [cd t p]) [[c, d]]
  rw [List.map_cons, List.map_nil] at this
  rw [this]
  simp
theorem sum_lt (x : Nat) : ∀ (n s : Nat), ((List.range' s n).map fun i => if i < x then 1 else 0).sum ≤ x - s
  | 0, s => by simp
  | n + 1, s => by
    rw [List.range'_succ, List.map_cons, List.sum_cons]
    have := sum_lt x n (s + 1)
    split <;> omega
theorem sum_in (x y : Nat) : ∀ (n s : Nat), ((List.range' s n).map fun i => if x ≤ i ∧ i < x + y then 1 else 0).sum ≤ x + y - max s x
  | 0, s => by simp
  | n + 1, s => by
    rw [List.range'_succ, List.map_cons, List.sum_cons]
    have := sum_in x y n (s + 1)
    split <;> omega
theorem tri_nest {c d x y z : Nat} (hne : c ≠ d) (hc : c ≠ 0) (hd : d ≠ 0) : nN (okW [.str (tx [c, d])] (tri c d x y z)) 0 (tri c d x y z).length = min (x : Int) y := by
  have hok : ∀ s p, s < p → okW [.str (tx [c, d])] (tri c d x y z) s p = true → s < x ∧ x ≤ p ∧ p < x + y := fun s p hsp h => by
    rw [ok_one] at h
    obtain ⟨h1, h2⟩ := of_decide_eq_true h
    have b2 : p < x + y + z := by
      refine Decidable.byContradiction fun q => ?_
      rw [tri_out q] at h2; exact hd h2.symm
    rw [tri_at b2] at h2
    rw [tri_at (by omega)] at h1
    have q2 : x ≤ p ∧ p < x + y := by
      by_cases a : p < x
      · rw [if_pos a] at h2; exact absurd h2 hne
      · rw [if_neg a] at h2
        by_cases b : p < x + y
        · exact ⟨by omega, b⟩
        · rw [if_neg b] at h2; exact absurd h2 hne
    refine ⟨?_, q2⟩
    refine Decidable.byContradiction fun a => ?_
    rw [if_neg a, if_pos (by omega)] at h1
    exact hne h1.symm
  rw [tri_len]
  apply Int.le_antisymm
  · have a := nN_left (okW [.str (tx [c, d])] (tri c d x y z)) (fun i => if i < x then 1 else 0) (fun s p hsp h => if_pos (hok s p hsp h).1) (x + y + z) 0 (x + y + z) (by omega)
    have b := nN_right (okW [.str (tx [c, d])] (tri c d x y z)) (fun i => if x ≤ i ∧ i < x + y then 1 else 0) (fun s p hsp h => if_pos (hok s p hsp h).2) (x + y + z) 0 (x + y + z) (by omega)
    have a2 := sum_lt x (x + y + z - 0) 0
    have b2 := sum_in x y (x + y + z - 0) 0
    omega
  · have v : Va (okW [.str (tx [c, d])] (tri c d x y z)) 0 (x + y + z) ((List.range (min x y)).map fun i => (x - 1 - i, x + i)) := by
      refine ⟨fun b hb => ?_, ?_⟩
      · obtain ⟨i, hi, rfl⟩ := List.mem_map.mp hb
        rw [List.mem_range] at hi
        refine ⟨by omega, by dsimp only; omega, by dsimp only; omega, ?_⟩
        rw [ok_one, decide_eq_true_eq, tri_at (by dsimp only; omega), tri_at (by dsimp only; omega)]
        dsimp only
        rw [if_pos (by omega), if_neg (by omega), if_pos (by omega)]
        exact ⟨rfl, rfl⟩
      · rw [List.pairwise_map]
        refine List.Pairwise.imp_of_mem (fun {i j} hi hj hij => ?_) (List.pairwise_lt_range)
        rw [List.mem_range] at hi hj
        unfold Cp; dsimp only; omega
    have := nest_low _ (x + y + z) 0 (x + y + z) _ (by omega) v
    rw [List.length_map, List.length_range] at this
    omega
theorem repS_tx (c : Nat) (n : Nat) : repS (tx [c]) n = tx (List.replicate n c) := by
  have go : ∀ (n : Nat) (acc : List Nat), (List.replicate n (tx [c]).cps).foldl (· ++ ·) acc.toArray = (acc ++ List.replicate n c).toArray := fun n => by
    induction n with
    | zero => intro acc; simp
    | succ n ih =>
      intro acc
      rw [List.replicate_succ, List.foldl_cons]
      have e : acc.toArray ++ (tx [c]).cps = (acc ++ [c]).toArray := by unfold tx; simp
      rw [e, ih (acc ++ [c]), List.append_assoc, List.replicate_succ]; rfl
  have := go n []
  unfold repS
  rw [List.nil_append] at this
  rw [show (#[] : Array Nat) = ([] : List Nat).toArray from rfl, this]; rfl
end K78

set_option Elab.async false
set_option linter.all false
set_option maxRecDepth 100000
set_option maxHeartbeats 4000000
namespace K78
open PySem PySem.Spec PyProof.Rows L2 PD
local macro_rules | `(tactic| walk_at "pd") => `(tactic| simp (config := { decide := true, maxSteps := 400000 }) only [dAbs_i, ten12, tx_app, tx_len, tx_emp, dIx_tx, sgn_tx, cutS_to, cutS_fr, cutS_fr1, dPar, dIRng2, dIEnumS, dIStr, dInSg, dJoin, dSlS, dUpper, dChain, dDNewT, dDGetT, dDPutT, dMin3_i, dMax3_i, dCallX, dRaise, dSeq, dSet, dAsg, dgN, dRet, dRetN, dIfS, dFor, dLoop, dDrop, dNext, dVar, dC, dNil, dCons, dOp, dUn, dTest, dTru, dAnd, dOr, dNot, dAndV, dOrV, dNotV, dIfE, dTup, dLst, dCB, dCall, dCallP, dBM, dBM0, dLc, dComp, dYes, dgTup, dgCons, dgNil, dgSub, dPart, dNoPart, dAug, dIsi, dEq, dNe, wipeD, endsOf,
  dFrz, dFrzV_i, dFrzV_s, dFrzV_b, dFrzV_n, dFrzV_t, dFrzV_l, dFrzV_r, dAddL_i, dAddL_s, dAddL_t, dAddL_rr, dAddL_rl, dAddL_lr, dAddL_ll, dMulL_i, dMulL_s, dMulL_r, dSlL_v, dSlLV_t, dSlLV_l, dSlLV_r, dMinU_1, dMinU_2, dSumL_1, dSetTx_1, dIx_l, dLen_l, dInG_l, truD_rol, tyD_rol, dInt1_b, dISeqV_l, dLtS_i, dLtS_s, ltP_i, ltP_s, lsq_rol, dDNew, dDGet, dDGet2, dDSetd, dDPut, dSub_i, dInt2_i, dNeg_i, dCmp_i, dIsN_n, dNotN_n, dInG_t, dInG_r, dIx_t, dIx_r, dLen_s, dLen_t, dLen_r, dTuple_1, dList_1, dInt1_i, dRev_v, dRevV_t, dRevV_r, dISeq_v, dISeqV_t, dISeqV_r, dIEnum_v, dIEnumV_t, dIEnumV_r, dPop_0, dPop_i, dAppend_1, dExtend_1, dSub3_i, dIRng1_v, dRng1V_i,
  seqOf_tup, seqOf_rol, seqW_tup, eqK_ss, eqK_ii, eqK_bb, eqK_nn, eqK_ts, eqK_st, eqK_ti, eqK_is, eqK_ns, flatD_str, flatD_int, flatD_bl, flatD_non, isT_NoneType_bool, isT_NoneType_int, isT_NoneType_str, isT_NoneType_tuple, isT_NoneType_list, isT_bool_bool, isT_bool_int, isT_bool_str, isT_bool_tuple, isT_bool_list, isT_int_bool, isT_int_int, isT_int_str, isT_int_tuple, isT_int_list, isT_str_bool, isT_str_int, isT_str_str, isT_str_tuple, isT_str_list, isT_tuple_bool, isT_tuple_int, isT_tuple_str, isT_tuple_tuple, isT_tuple_list, isT_list_bool, isT_list_int, isT_list_str, isT_list_tuple, isT_list_list, isNon_non, isNon_bl, isNon_int, isNon_str, isNon_tup, tyD_non, tyD_bl, tyD_int, tyD_str, tyD_tup, truD_bl, truD_int, truD_tup,
  atI_0, atI_1, atI_2, atI_3, atI_4, atI_m1, atI_m2, atI_m3, Option.some.injEq, exists_eq_left', exists_eq_left, beq_self_eq_true, Bool.not_true, Bool.not_false, if_true, if_false, true_and, and_true, Bool.false_eq_true, ↓reduceIte,
  List.getElem?_cons_zero, List.getElem?_cons_succ, List.set_cons_zero, List.set_cons_succ, List.map_cons, List.map_nil, List.length_cons, List.length_nil, mset_same, mset_mset, List.isEmpty_nil, List.isEmpty_cons, decide_eq_true_eq, beq_iff_eq, seqI_0, List.eraseIdx_cons_zero, List.eraseIdx_cons_succ, ixN_40, ixN_41, ixN_42, ixN_43, Nat.reduceAdd])
local macro_rules | `(tactic| walk_at "ne") => `(tactic| first | assumption | exact Ne.symm (by assumption))
local macro_rules | `(tactic| walk_at "mu") => `(tactic| first | exact mset_same | assumption | exact mset_skip (by walk_at "ne") (by walk_at "mu"))
local macro_rules | `(tactic| walk_at "go") => `(tactic| repeat (first | walk_at "pd" | refine ⟨_, seqOf_ref (by walk_at "mu"), ?_⟩ | refine ⟨⟨_, _, lstOf_ref (by walk_at "mu")⟩, ?_⟩ | refine ⟨_, _, lstOf_ref (by walk_at "mu"), ?_⟩ | refine ⟨(show CMul _ _ from Or.inr ⟨by decide, by decide⟩), ?_⟩ | refine ⟨(show CDiv _ _ from ⟨by decide, by decide⟩), ?_⟩))
local macro_rules | `(tactic| walk_at "w") => `(tactic| try walk_at "pd")
section
variable {P : Program} {w : World} {K : PySem.W.Frag} {mg : Str → Option Value} {base : Heap}
theorem ok__law_long  (T : Txt K mg) (G__law_let : FnOk P w K mg base CX0 (7) T.f__law_let T.fd__law_let ["_law_which", "_law_signs_here", "_law_words_here", "_law_one", "_law_other", "_law_costs_here", "_law_due"] (spL K 7 sp__law_let)) (G__law_draw : FnOk P w K mg base CX0 (1) T.f__law_draw T.fd__law_draw ["_law_tape_here", "_law_many"] (spL K 2 sp__law_draw)) : FnOk P w K mg base CX0 (8) T.f__law_long T.fd__law_long ["_law_tape_here", "_law_signs_here", "_law_costs_here"] (spL K 3 sp__law_long) := by
  refine fn_ok T.F__law_long sc__law_long (fun cdv A outer s H E hr =>
(gss_cons (gs_if (gt_cmpR (op_ltS hr.units) lr_ltP (ge_callB call_lenU lc_len (by rfl) T.z_len PySem.boot_len (ga_cons (gv 1) ga_nil)) ge_int (nomark _))
 (gss_one (gs_ret ge_bl))
 gss_nil)
 (gss_cons (gs_set (i := 3) sc__law_long.nd rfl (.inl rfl) (ge_op op_addL lr_addL ge_int (ge_call G__law_draw (hr.mono (by omega)) (by rfl) T.g__law_draw T.F__law_draw.kp T.b__law_draw (ga_cons (gv 0) (ga_cons ge_int ga_nil)))))
 (gss_cons (gs_set (i := 4) sc__law_long.nd rfl (.inl rfl) (ge_call G__law_draw (hr.mono (by omega)) (by rfl) T.g__law_draw T.F__law_draw.kp T.b__law_draw (ga_cons (gv 0) (ga_cons ge_int ga_nil))))
 (gss_cons (gs_set (i := 5) sc__law_long.nd rfl (.inl rfl) (ge_op op_mulL lr_mulL (ge_ix (gv 1) ge_int) (gv 3)))
 (gss_cons (gs_set (i := 6) sc__law_long.nd rfl (.inl rfl) (ge_op op_mulL lr_mulL (ge_ix (gv 1) ge_int) (gv 4)))
 (gss_cons (gs_set (i := 7) sc__law_long.nd rfl (.inl rfl) (ge_callB (cr_minU rfl hr.units) lc_minU (by rfl) T.z_min (by decide +kernel) (ga_cons (ge_op op_mulL lr_mulL (ge_ix (gv 2) ge_int) (ge_op op_addL lr_addL (gv 3) (gv 4))) (ga_cons (ge_op op_addL lr_addL (ge_op op_mulL lr_mulL (ge_ix (gv 2) ge_int) (ge_callB call_abs lc_abs (by rfl) T.z_abs (by decide +kernel) (ga_cons (ge_op op_sub lr_sub (gv 3) (gv 4)) ga_nil))) (ge_op op_mulL lr_mulL (ge_ix (gv 2) ge_int) (ge_callB (cr_minU rfl hr.units) lc_minU (by rfl) T.z_min (by decide +kernel) (ga_cons (gv 3) (ga_cons (gv 4) ga_nil))))) ga_nil))))
 (gss_cons (gs_if (gw_or (gt_not (gt_val (ge_call G__law_let (hr.mono (by omega)) (by rfl) T.g__law_let T.F__law_let.kp T.b__law_let (ga_cons ge_int (ga_cons (gv 1) (ga_cons (ge_tup ga_nil) (ga_cons (ge_frz (gv 5)) (ga_cons (ge_frz (gv 6)) (ga_cons (gv 2) (ga_cons (gv 7) ga_nil)))))))))) (gw_or1 (gt_not (gt_val (ge_call G__law_let (hr.mono (by omega)) (by rfl) T.g__law_let T.F__law_let.kp T.b__law_let (ga_cons ge_int (ga_cons (gv 1) (ga_cons (ge_tup ga_nil) (ga_cons (ge_frz (gv 6)) (ga_cons (ge_frz (gv 5)) (ga_cons (gv 2) (ga_cons (gv 7) ga_nil)))))))))))).gt
 (gss_one (gs_ret ge_bl))
 gss_nil)
 (gss_cons (gs_set (i := 8) sc__law_long.nd rfl (.inl rfl) (ge_join ge_str (ge_lc (own := [("_law_k", 12)]) rfl sc__law_long.nd (gi_rng1 (by rfl) T.z_range (ga_cons (gv 3) ga_nil)) (blkOk_by (N := N__law_long) (sc := defScope s__law_long) (by decide +kernel)) (fun _ _ _ _ _ => (gg_name (i := 12) sc__law_long.nd rfl (.inl rfl))) (fun _ _ _ _ _ => gts_nil) (fun _ _ _ _ _ => (ge_ix (gv 1) (ge_call G__law_draw (hr.mono (by omega)) (by rfl) T.g__law_draw T.F__law_draw.kp T.b__law_draw (ga_cons (gv 0) (ga_cons (ge_callB call_lenU lc_len (by rfl) T.z_len PySem.boot_len (ga_cons (gv 1) ga_nil)) ga_nil))))) (by decide))))
 (gss_cons (gs_set (i := 9) sc__law_long.nd rfl (.inl rfl) (ge_join ge_str (ge_lc (own := [("_law_sign", 13)]) rfl sc__law_long.nd (gi_str (gv 8)) (blkOk_by (N := N__law_long) (sc := defScope s__law_long) (by decide +kernel)) (fun _ _ _ _ _ => (gg_name (i := 13) sc__law_long.nd rfl (.inl rfl))) (fun _ _ _ _ _ => (gts_one (gt_cmpR (op_gtS hr.units) lr_gtP (ge_call G__law_draw (hr.mono (by omega)) (by rfl) T.g__law_draw T.F__law_draw.kp T.b__law_draw (ga_cons (gv 0) (ga_cons ge_int ga_nil))) ge_int (nomark _)))) (fun _ _ _ _ _ => (gv 13)) (by decide))))
 (gss_cons (gs_if (gt_not (gt_val (ge_call G__law_let (hr.mono (by omega)) (by rfl) T.g__law_let T.F__law_let.kp T.b__law_let (ga_cons ge_int (ga_cons (gv 1) (ga_cons (ge_tup ga_nil) (ga_cons (ge_frz (gv 8)) (ga_cons (gv 9) (ga_cons (gv 2) (ga_cons (ge_callB call_lenU lc_len (by rfl) T.z_len PySem.boot_len (ga_cons (gv 9) ga_nil)) ga_nil))))))))))
 (gss_one (gs_ret ge_bl))
 gss_nil)
 (gss_cons (gs_set (i := 10) sc__law_long.nd rfl (.inl rfl) (ge_tup (ga_cons (ge_op op_addL lr_addL ge_int (ge_call G__law_draw (hr.mono (by omega)) (by rfl) T.g__law_draw T.F__law_draw.kp T.b__law_draw (ga_cons (gv 0) (ga_cons ge_int ga_nil)))) (ga_cons (ge_op op_addL lr_addL ge_int (ge_call G__law_draw (hr.mono (by omega)) (by rfl) T.g__law_draw T.F__law_draw.kp T.b__law_draw (ga_cons (gv 0) (ga_cons ge_int ga_nil)))) (ga_cons (ge_call G__law_draw (hr.mono (by omega)) (by rfl) T.g__law_draw T.F__law_draw.kp T.b__law_draw (ga_cons (gv 0) (ga_cons ge_int ga_nil))) ga_nil)))))
 (gss_cons (gs_set (i := 11) sc__law_long.nd rfl (.inl rfl) (ge_tup (ga_cons (ge_op op_addL lr_addL (ge_ix (gv 1) ge_int) (ge_ix (gv 1) ge_int)) ga_nil)))
 (gss_cons (gs_set (i := 8) sc__law_long.nd rfl (.inl rfl) (ge_op op_addL lr_addL (ge_op op_addL lr_addL (ge_op op_mulL lr_mulL (ge_ix (gv 1) ge_int) (ge_ix (gv 10) ge_int)) (ge_op op_mulL lr_mulL (ge_ix (gv 1) ge_int) (ge_ix (gv 10) ge_int))) (ge_op op_mulL lr_mulL (ge_ix (gv 1) ge_int) (ge_ix (gv 10) ge_int))))
 (gss_one (gs_ret (ge_call G__law_let (hr.mono (by omega)) (by rfl) T.g__law_let T.F__law_let.kp T.b__law_let (ga_cons ge_int (ga_cons (gv 1) (ga_cons (gv 11) (ga_cons (ge_frz (gv 8)) (ga_cons ge_str (ga_cons (gv 2) (ga_cons (ge_callB (cr_minU rfl hr.units) lc_minU (by rfl) T.z_min (by decide +kernel) (ga_cons (ge_ix (gv 10) ge_int) (ga_cons (ge_ix (gv 10) ge_int) ga_nil))) ga_nil)))))))))))))))))))))))) (fun ds m Q h => ?_)
  obtain ⟨a, g, sg, gap, ch, rfl, ok, n1, n2, S0, h⟩ := h
  rw [show startD N__law_long [.ref a, .str (tx sg), .tup [.int gap, .int ch]] = [some (.ref a), some (.str (tx sg)), some (.tup [.int gap, .int ch]), none, none, none, none, none, none, none, none, none, none, none] from rfl]
  have hsz : sg.length ≤ sizeLine := Nat.le_trans ok.2.1 (by decide)
  walk_at "pd"
  refine ⟨hsz, ?_⟩
  by_cases h2 : sg.length < 2
  · rw [if_pos (by omega)]; exact sub_refl_fin (h m)
  rw [if_neg (by omega)]
  have h1 : 1 < sg.length := by omega
  have hs0 : 0 < sg.length := by omega
  have a0 : atI sg 0 = some (sg[0]'hs0) := atI_getD (i := 0) hs0
  have a1 : atI sg 1 = some (sg[1]'h1) := atI_getD (i := 1) h1
  have hne : sg[0]'hs0 ≠ sg[1]'h1 := fun e => by
    have := (List.getElem_inj ok.nodup).mp e
    omega
  have z0 : sg[0]'hs0 ≠ 0 := fun e => absurd (ok.abc (List.getElem_mem hs0)) (by rw [e]; decide +kernel)
  have z1 : sg[1]'h1 ≠ 0 := fun e => absurd (ok.abc (List.getElem_mem h1)) (by rw [e]; decide +kernel)
  have w0 := List.getElem_mem hs0
  have w1 := List.getElem_mem h1
  generalize sg[0]'hs0 = c0 at *
  generalize sg[1]'h1 = c1 at *
  refine ⟨_, _, _, rfl, by omega, by omega, S0, fun r1 m1 g1 r1_0 r1_1 O1 S1 => ?_⟩
  obtain ⟨i1, rfl⟩ := Int.eq_ofNat_of_zero_le r1_0
  walk_at "pd"
  refine ⟨_, _, _, rfl, by omega, by omega, S1, fun r2 m2 g2 r2_0 r2_1 O2 S2 => ?_⟩
  obtain ⟨few, rfl⟩ := Int.eq_ofNat_of_zero_le r2_0
  obtain ⟨many, hm⟩ : ∃ many : Nat, (6 : Int) + i1 = many := Int.eq_ofNat_of_zero_le (by omega)
  walk_at "pd"
  rw [hm]
  have hm1 : many ≤ 16 := by omega
  have hf1 : few ≤ 16 := by omega
  refine ⟨hsz, _, a0, ?_⟩
  refine ⟨by omega, by omega, hsz, _, a1, by omega, by omega, .inr ⟨by omega, by omega⟩, .inr ⟨by split <;> omega, by split <;> omega⟩, .inr ⟨by split <;> omega, by split <;> omega⟩, ?_⟩
  rw [Int.toNat_natCast, Int.toNat_natCast, repS_tx, repS_tx, due_is gap ch many few]
  have rep : ∀ {c n : Nat}, n ≤ 16 → c ∈ sg → GoodV sg (.str (tx (List.replicate n c))) := fun {c n} hn hc => good_of (fun x hx => by rw [List.eq_of_mem_replicate hx]; exact hc) (by rw [List.length_replicate]; omega)
  have two : ∀ {v w : D}, GoodV sg v → GoodV sg w → ∀ u ∈ [v, w], GoodV sg u := fun {v w} a b u hu => by
    simp only [List.mem_cons, List.not_mem_nil, or_false] at hu
    rcases hu with rfl | rfl
    · exact a
    · exact b
  refine ⟨0, sg, [], _, _, gap, ch, _, rfl, by decide, rfl, n1, n2, .inr ⟨two (rep hm1 w0) (rep hf1 w1), fun xs' ys' e1 e2 => ?_⟩, ?_⟩
  · rw [if_pos rfl, ← dtx e1, ← dtx (e2 (by decide)), List.length_replicate, List.length_replicate, dD_rep hne]
  walk_at "pd"
  refine ⟨0, sg, [], _, _, gap, ch, _, rfl, by decide, rfl, n1, n2, .inr ⟨two (rep hf1 w1) (rep hm1 w0), fun xs' ys' e1 e2 => ?_⟩, ?_⟩
  · rw [if_pos rfl, ← dtx e1, ← dtx (e2 (by decide)), List.length_replicate, List.length_replicate, dD_rep hne.symm, due_sym]
  walk_at "pd"
  refine ⟨_, rfl, by omega, by omega, fun p hp => ?_⟩
  refine comp_drawn (j := 10) hs0 ok.2.1 (by omega) (Off2.refl a _ m2) S2 hp fun t m3 g3 t1 t2 O3 S3 ep => ?_
  refine ⟨t.map fun c => tx [c], by rw [seqOf_ref ep, List.map_map]; rfl, sum_ok (fun c => c) (by omega), ?_⟩
  rw [join_sg]
  walk_at "pd"
  refine ⟨_, rfl, fun p2 hp2 => ?_⟩
  have na2 := S3.ne hp2
  refine comp_inv (fun rem acc m' => ∃ (pre post l : List Nat) (g' : Addr), t = pre ++ post ∧ rem = post.map (fun c => .str (tx [c])) ∧ acc = l.map (fun c => .str (tx [c])) ∧ (∃ r ∈ rows pre.length, r.map (cd t) = l) ∧ Tp m' a g' ∧ p2 ≠ g' ∧ m' p2 = some (.lst acc)) ?_ ?_ ⟨[], t, [], g3, rfl, rfl, rfl, ⟨[], rows_nil _, rfl⟩, S3.new hp2, na2.2, mset_same⟩
  · rintro d rem acc m4 R hR ⟨pre, post, l, g', e1, e2, rfl, ⟨r, hr, er⟩, T4, np, ep4⟩
    cases post with
    | nil => cases e2
    | cons c post =>
      rw [List.map_cons] at e2
      injection e2 with e2 e3
      subst e2
      have hpt : pre.length < t.length := by rw [e1, List.length_append, List.length_cons]; omega
      have hct : cd t pre.length = c := by
        rw [cd_at hpt]
        simp [e1]
      have hll : l.length ≤ 16 := by
        have := congrArg List.length er
        rw [List.length_map] at this
        have := rows_len hr
        omega
      refine ⟨trivial, ?_⟩
      walk_at "pd"
      refine ⟨_, _, _, rfl, by omega, by omega, T4, fun r5 m5 g5 r5_0 r5_1 O5 S5 => ?_⟩
      have ep5 := O5.kp _ _ na2.1 np ep4
      have np5 : p2 ≠ g5 := O5.ng np ⟨_, ep4⟩
      walk_at "pd"
      split
      · refine ⟨ep5, ?_, hR _ _ ⟨pre ++ [c], post, l ++ [c], g5, by rw [e1]; simp, e3, by rw [List.map_append]; rfl, ⟨r ++ [pre.length], ?_, ?_⟩, S5.setp na2.1 np5, np5, mset_same⟩⟩
        · rw [List.length_map]; exact Nat.lt_of_le_of_lt hll (by decide)
        · rw [List.length_append, List.length_singleton]; exact rows_succ.mpr (.inr ⟨r, hr, rfl⟩)
        · rw [List.map_append, er, List.map_cons, List.map_nil, hct]
      · refine hR _ _ ⟨pre ++ [c], post, l, g5, by rw [e1]; simp, e3, rfl, ⟨r, ?_, er⟩, S5, np5, ep5⟩
        rw [List.length_append, List.length_singleton]; exact rows_succ.mpr (.inl hr)
  · rintro acc m4 ⟨pre, post, l, g', e1, e2, rfl, ⟨r, hr, er⟩, T4, np, ep4⟩
    cases post with
    | cons c post => cases e2
    | nil =>
      rw [List.append_nil] at e1
      subst e1
      have hrl := rows_len hr
      have hll : l.length ≤ 16 := by
        have := congrArg List.length er
        rw [List.length_map] at this
        omega
      have hls : ∀ c ∈ l, c ∈ sg := fun c hc => by
        rw [← er] at hc
        obtain ⟨k, hk, rfl⟩ := List.mem_map.mp hc
        rw [cd_at (rows_lt hr k hk)]
        exact t2 _ (List.getElem_mem _)
      refine ⟨trivial, ep4, l.map fun c => tx [c], by rw [seqOf_ref ep4, List.map_map]; rfl, sum_ok (fun c => c) (by omega), ?_⟩
      rw [join_sg]
      walk_at "pd"
      have hlz : l.length ≤ sizeLine := Nat.le_trans hll (by decide)
      refine ⟨hlz, 1, sg, [], _, _, gap, ch, _, rfl, by decide, rfl, n1, n2, .inr ⟨two (good_of t2 (by omega)) (good_of hls (by omega)), fun xs' ys' e1 e2 => ?_⟩, ?_⟩
      · rw [if_neg (by decide), if_pos rfl, ← dtx e1, ← dtx (e2 (by decide))]
        exact (long_all (cd t) (cd l) hr (by rw [er, range_cd])).symm
      walk_at "pd"
      refine ⟨_, _, _, rfl, by omega, by omega, T4, fun r6 m6 g6 r6_0 r6_1 O6 S6 => ?_⟩
      obtain ⟨i6, rfl⟩ := Int.eq_ofNat_of_zero_le r6_0
      walk_at "pd"
      refine ⟨_, _, _, rfl, by omega, by omega, S6, fun r7 m7 g7 r7_0 r7_1 O7 S7 => ?_⟩
      obtain ⟨i7, rfl⟩ := Int.eq_ofNat_of_zero_le r7_0
      walk_at "pd"
      refine ⟨_, _, _, rfl, by omega, by omega, S7, fun r8 m8 g8 r8_0 r8_1 O8 S8 => ?_⟩
      obtain ⟨z, rfl⟩ := Int.eq_ofNat_of_zero_le r8_0
      obtain ⟨x, hx⟩ : ∃ x : Nat, (1 : Int) + i6 = x := Int.eq_ofNat_of_zero_le (by omega)
      obtain ⟨y, hy⟩ : ∃ y : Nat, (1 : Int) + i7 = y := Int.eq_ofNat_of_zero_le (by omega)
      walk_at "pd"
      rw [hx, hy]
      have hx1 : x ≤ 6 := by omega
      have hy1 : y ≤ 6 := by omega
      have hz1 : z ≤ 4 := by omega
      refine ⟨hsz, _, a0, hsz, _, a1, ?_⟩
      refine ⟨hsz, _, a0, by omega, by omega, hsz, _, a1, by omega, by omega, ?_⟩
      rw [Int.toNat_natCast, Int.toNat_natCast, repS_tx, repS_tx]
      refine ⟨?_, hsz, _, a0, by omega, by omega, ?_⟩
      · rw [tx_len, tx_len, List.length_replicate, List.length_replicate]; exact Nat.le_trans (by omega : _ ≤ 12) (by decide)
      rw [Int.toNat_natCast, repS_tx, tx_app, tx_app]
      have ht : tri c0 c1 x y z = List.replicate x c0 ++ List.replicate y c1 ++ List.replicate z c0 := rfl
      refine ⟨?_, ?_⟩
      · rw [tx_len, tx_len, List.length_append, List.length_replicate, List.length_replicate, List.length_replicate]; exact Nat.le_trans (by omega : _ ≤ 16) (by decide)
      rw [← ht]
      refine ⟨2, sg, [.str (tx [c0, c1])], _, _, gap, ch, _, rfl, by decide, rfl, n1, n2, .inr ⟨?_, fun xs' ys' e1 _ => ?_⟩, sub_refl_fin (h m8)⟩
      · intro v hv
        have hv : v = .str (tx (tri c0 c1 x y z)) := List.mem_singleton.mp hv
        rw [hv]
        refine good_of (fun c hc => ?_) (by rw [tri_len]; omega)
        unfold tri at hc
        rcases List.mem_append.mp hc with hc | hc
        · rcases List.mem_append.mp hc with hc | hc
          · rw [List.eq_of_mem_replicate hc]; exact w0
          · rw [List.eq_of_mem_replicate hc]; exact w1
        · rw [List.eq_of_mem_replicate hc]; exact w0
      · have em : (if (y : Int) < x then (y : Int) else x) = min (x : Int) y := by split <;> omega
        rw [em, if_neg (show ¬ (2 : Nat) = 0 by decide), if_neg (show ¬ (2 : Nat) = 1 by decide), ← dtx e1, tri_nest hne z0 z1]
end
end K78

set_option Elab.async false
set_option linter.all false
set_option maxRecDepth 100000
set_option maxHeartbeats 4000000
/-! a suite that reads its error: its int field, its classes. The error's dict stands in the store as what it is. -/
namespace PD
open PySem PySem.Spec PyProof.Rows L2
def dXf (a : Addr) (d : Option Addr) (n : Str) (de : DE) : DE := fun s m Q => de s m fun x m1 => x = .ref a ∧ ∃ (dd : Addr) (vs : List (Str × V)) (i : Int), d = some dd ∧ m1 dd = some (.oth (.xd vs)) ∧ vs.lookup n = some (.int i) ∧ Q (.int i) m1
def dIsE (a : Addr) (d : Option Addr) (b : Bool) (de : DE) : DE := fun s m Q => de s m fun x m1 => x = .ref a ∧ ∃ (dd : Addr) (vs : List (Str × V)), d = some dd ∧ m1 dd = some (.oth (.xd vs)) ∧ Q (.bl b) m1
section
variable {X : Cx} {a C : Addr} {oe : Obj} {d : Option Addr} {pn : List (Addr × Obj)}
theorem ge_xf {e : Expr} {de : DE} {pos : Pos} {n : Str} (XF : XfC X.K C) (hno : PySem.W.findIn X.K (.ref C) n = some none) (hz : Zc (.ref C) d oe) (hf : ∃ vs, oe.data = .fields vs) (he : GE (X.suite a ((a, oe) :: pn)) e de) (hab : attributeBase e n X.env (eval e X.env) = eval e X.env := by rfl) :
    GE (X.suite a ((a, oe) :: pn)) (.Attribute e n pos) (dXf a d n de) := by
  obtain ⟨te, p, l⟩ := he.ex
  refine .of ⟨_, pe_xf XF hno hz hf p hab, fun s H sd m Qd Q rs rm h k => ?_⟩
  refine l s H sd m _ _ rs rm h fun v H1 dv m1 t1 rm1 r1 ⟨e1, dd, vs, i, e2, e3, e4, h1⟩ => ?_
  subst e1
  cases r1
  exact ⟨rfl, rfl, dd, vs, .int i, e2, rm1 dd _ e3, e4, k _ H1 _ m1 t1 rm1 (.int i) h1⟩
theorem ge_isE {e : Expr} {de : DE} {p q pos : Pos} {y : Str} {c : V} {cv : Value} {b : Bool} (EC : ExcC X.K C) (hc : (PySem.W.clsIn X.K C).isSome = true) (hz : Zc (.ref C) d oe) (hf : ∃ vs, oe.data = .fields vs) (hg : Gl X "isinstance") (ma9 : X.mg "isinstance" = none)
    (he : GE (X.suite a ((a, oe) :: pn)) e de) (hy : PE (X.suite a ((a, oe) :: pn)) (.Name y q) (tC c)) (hcv : ∀ u, RelV c u → u = cv) (hk : PySem.W.kitOne X.K (.ref C) cv = some b)
    (hs1 : starEach [e, .Name y q] X.env = (false, eval e X.env) :: starEach [.Name y q] X.env := by rfl) (hs2 : starEach [.Name y q] X.env = (false, eval (.Name y q) X.env) :: starEach [] X.env := by rfl)
    (hpl : (backTo pos (starEach [.Name y q] X.env)).any (·.1) = false := by rfl) (hv : bootBuiltins "isinstance" = some (.builtin "isinstance") := by decide +kernel) :
    GE (X.suite a ((a, oe) :: pn)) (.Call (.Name "isinstance" p) [e, .Name y q] [] pos) (dIsE a d b de) := by
  obtain ⟨te, pt, l⟩ := he.ex
  refine .of ⟨_, pe_callB (call_isEd EC hc hz hf) hg ma9 hv (pa_cons pt (pa_cons hy pa_nil hs2) hs1) (by decide) (by decide) hs1 hpl, fun s H sd m Qd Q rs rm h k => ?_⟩
  refine l s H sd m _ _ rs rm h fun v H1 dv m1 t1 rm1 r1 ⟨e1, dd, vs, e2, e3, h1⟩ => ?_
  subst e1
  cases r1
  exact ⟨c, cv, b, dd, vs, rfl, hcv, hk, e2, rm1 dd _ e3, k _ H1 _ m1 t1 rm1 (.bl b) h1⟩
end
end PD

set_option Elab.async false
set_option linter.all false
set_option maxRecDepth 100000
set_option maxHeartbeats 4000000
namespace K78
open PySem PySem.Spec PyProof.Rows L2 PD
local macro_rules | `(tactic| walk_at "pd") => `(tactic| simp (config := { decide := true, maxSteps := 400000 }) only [dAbs_i, ten12, tx_app, tx_len, tx_emp, dIx_tx, sgn_tx, cutS_to, cutS_fr, cutS_fr1, dPar, dIRng2, dIEnumS, dIStr, dInSg, dJoin, dSlS, dUpper, dChain, dDNewT, dDGetT, dDPutT, dMin3_i, dMax3_i, dCallX, dRaise, dSeq, dSet, dAsg, dgN, dRet, dRetN, dIfS, dFor, dLoop, dDrop, dNext, dVar, dC, dNil, dCons, dOp, dUn, dTest, dTru, dAnd, dOr, dNot, dAndV, dOrV, dNotV, dIfE, dTup, dLst, dCB, dCall, dCallP, dBM, dBM0, dLc, dComp, dYes, dgTup, dgCons, dgNil, dgSub, dPart, dNoPart, dAug, dIsi, dEq, dNe, wipeD, endsOf,
  dFrz, dFrzV_i, dFrzV_s, dFrzV_b, dFrzV_n, dFrzV_t, dFrzV_l, dFrzV_r, dAddL_i, dAddL_s, dAddL_t, dAddL_rr, dAddL_rl, dAddL_lr, dAddL_ll, dMulL_i, dMulL_s, dMulL_r, dSlL_v, dSlLV_t, dSlLV_l, dSlLV_r, dMinU_1, dMinU_2, dSumL_1, dSetTx_1, dIx_l, dLen_l, dInG_l, truD_rol, tyD_rol, dInt1_b, dISeqV_l, dLtS_i, dLtS_s, ltP_i, ltP_s, lsq_rol, dDNew, dDGet, dDGet2, dDSetd, dDPut, dSub_i, dInt2_i, dNeg_i, dCmp_i, dIsN_n, dNotN_n, dInG_t, dInG_r, dIx_t, dIx_r, dLen_s, dLen_t, dLen_r, dTuple_1, dList_1, dInt1_i, dRev_v, dRevV_t, dRevV_r, dISeq_v, dISeqV_t, dISeqV_r, dIEnum_v, dIEnumV_t, dIEnumV_r, dPop_0, dPop_i, dAppend_1, dExtend_1, dSub3_i, dIRng1_v, dRng1V_i,
  seqOf_tup, seqOf_rol, seqW_tup, eqK_ss, eqK_ii, eqK_bb, eqK_nn, eqK_ts, eqK_st, eqK_ti, eqK_is, eqK_ns, flatD_str, flatD_int, flatD_bl, flatD_non, isT_NoneType_bool, isT_NoneType_int, isT_NoneType_str, isT_NoneType_tuple, isT_NoneType_list, isT_bool_bool, isT_bool_int, isT_bool_str, isT_bool_tuple, isT_bool_list, isT_int_bool, isT_int_int, isT_int_str, isT_int_tuple, isT_int_list, isT_str_bool, isT_str_int, isT_str_str, isT_str_tuple, isT_str_list, isT_tuple_bool, isT_tuple_int, isT_tuple_str, isT_tuple_tuple, isT_tuple_list, isT_list_bool, isT_list_int, isT_list_str, isT_list_tuple, isT_list_list, isNon_non, isNon_bl, isNon_int, isNon_str, isNon_tup, tyD_non, tyD_bl, tyD_int, tyD_str, tyD_tup, truD_bl, truD_int, truD_tup,
  atI_0, atI_1, atI_2, atI_3, atI_4, atI_m1, atI_m2, atI_m3, Option.some.injEq, exists_eq_left', exists_eq_left, beq_self_eq_true, Bool.not_true, Bool.not_false, if_true, if_false, true_and, and_true, Bool.false_eq_true, ↓reduceIte,
  List.getElem?_cons_zero, List.getElem?_cons_succ, List.set_cons_zero, List.set_cons_succ, List.map_cons, List.map_nil, List.length_cons, List.length_nil, mset_same, mset_mset, List.isEmpty_nil, List.isEmpty_cons, decide_eq_true_eq, beq_iff_eq, seqI_0, List.eraseIdx_cons_zero, List.eraseIdx_cons_succ, ixN_40, ixN_41, ixN_42, ixN_43, Nat.reduceAdd])
local macro_rules | `(tactic| walk_at "ne") => `(tactic| first | assumption | exact Ne.symm (by assumption))
local macro_rules | `(tactic| walk_at "mu") => `(tactic| first | exact mset_same | assumption | exact mset_skip (by walk_at "ne") (by walk_at "mu"))
local macro_rules | `(tactic| walk_at "go") => `(tactic| repeat (first | walk_at "pd" | refine ⟨_, seqOf_ref (by walk_at "mu"), ?_⟩ | refine ⟨⟨_, _, lstOf_ref (by walk_at "mu")⟩, ?_⟩ | refine ⟨_, _, lstOf_ref (by walk_at "mu"), ?_⟩ | refine ⟨(show CMul _ _ from Or.inr ⟨by decide, by decide⟩), ?_⟩ | refine ⟨(show CDiv _ _ from ⟨by decide, by decide⟩), ?_⟩))
local macro_rules | `(tactic| walk_at "w") => `(tactic| try walk_at "pd")
/-- what the classes of errors are to one another -/
structure Er (K : PySem.W.Frag) (mg : Str → Option Value) (T : Txt K mg) where
  cR : Addr
  cL : Addr
  cC : Addr
  gR : mg "RunError" = some (.ref cR)
  gL : mg "LookError" = some (.ref cL)
  gC : mg "ChooseError" = some (.ref cC)
  zV : mg "ValueError" = none
  kR : PySem.W.kitOne K (.ref T.c_BadRows) (.ref cR) = some true
  kV : PySem.W.kitOne K (.ref T.c_BadRows) (.type "ValueError") = some true
  kL : PySem.W.kitOne K (.ref T.c_BadRows) (.ref cL) = some false
  ex : PySem.W.exmOne K (.ref T.c_BadRows) (.ref T.c_BadRows) = some true
  ec : ExcC K T.c_BadRows
  xf : XfC K T.c_BadRows
  ci : (PySem.W.clsIn K T.c_BadRows).isSome = true
section
variable {P : Program} {w : World} {K : PySem.W.Frag} {mg : Str → Option Value} {base : Heap}
def dH (a : Addr) (d : Option Addr) : DS := dRet (dTup (dCons (dXf a d "row" (dVar 6)) (dCons (dAndV (dIsE a d true (dVar 6)) (dAndV (dIsE a d true (dVar 6)) (dNotV (dIsE a d false (dVar 6))))) dNil)))
theorem ok__law_refused (T : Txt K mg) (E9 : Er K mg T) (G_distance : FnOk P w K mg base (L2.CX P w) 4 T.f_distance T.fd_distance ["signs", "one", "other", "gap", "change"] (spX K 5 (sp_distance T.c_BadRows))) (G_longest : FnOk P w K mg base (L2.CX P w) 4 T.f_longest T.fd_longest ["signs", "one", "other"] (spX K 3 (sp_longest T.c_BadRows))) (G_nested : FnOk P w K mg base (L2.CX P w) 4 T.f_nested T.fd_nested ["signs", "words", "text"] (spX K 3 (sp_nested T.c_BadRows))) :
    FnOk P w K mg base CX0 6 T.f__law_refused T.fd__law_refused ["_law_which", "_law_signs_here", "_law_words_here", "_law_one", "_law_other", "_law_costs_here"] (spL K 6 sp__law_refused) := by
  refine fn_okT (tr := liftS K (dRet (dTup (dCons (dC (.int 8)) (dCons (dC (.bl true)) dNil))))) T.F__law_refused sc__law_refused rfl (fun cdv A outer s H E pn xe Ed hr tk =>
(gss_one (gs_if (gt_cmpR (op_eqS hr.units) lr_eq (gv 0) ge_int (nomark _))
 (gss_one (gs_expr (ge_callPX G_distance tk (hr.mono (by omega)) (by rfl) T.g_distance T.F_distance.kp T.kp_distance_4_3_2_1_0 (gk_cons (ge_ix (gv 5) ge_int) (gk_cons (ge_ix (gv 5) ge_int) (gk_cons (gv 4) (gk_cons (gv 3) (gk_cons (gv 1) gk_nil))))))))
 (gss_one (gs_if (gt_cmpR (op_eqS hr.units) lr_eq (gv 0) ge_int (nomark _))
 (gss_one (gs_expr (ge_callPX G_longest tk (hr.mono (by omega)) (by rfl) T.g_longest T.F_longest.kp T.kp_longest_2_1_0 (gk_cons (gv 4) (gk_cons (gv 3) (gk_cons (gv 1) gk_nil))))))
 (gss_one (gs_expr (ge_callPX G_nested tk (hr.mono (by omega)) (by rfl) T.g_nested T.F_nested.kp T.kp_nested_2_1_0 (gk_cons (gv 3) (gk_cons (gv 2) (gk_cons (gv 1) gk_nil))))))))))) (fun cdv A outer s H E hr => ?_)
  refine ⟨[(.ref T.c_BadRows, some 6, fun a cls d D σ H1 => cls = .ref T.c_BadRows ∧ (TX H H1 → σ.length = 7 → liftS K (dH a d) D σ H1)), (.ref E9.cC, none, fun _ _ _ => liftS K (dRet (dTup (dCons (dC (.int 7)) (dCons (dC (.bl false)) dNil)))))], ?_, ?_, ?_⟩
  · refine .as sc__law_refused.nd rfl rfl ⟨rfl, by decide, .inl T.gc_BadRows⟩ (fun a oe cls d pn hz hf => ?_) (.one ⟨rfl, by decide, .inl E9.gC⟩ (fun a oe cls d pn hz hf => pss_lift (gss_one (gs_ret (ge_tup (ga_cons ge_int (ga_cons ge_bl ga_nil)))))) .nil)
    by_cases hc : cls = .ref T.c_BadRows
    · subst hc
      refine (fun p => ⟨fun pins s σ H D I h => p.run pins s σ H D I (h.2 (tx_inv I) I.len)⟩ : PSs _ _ (liftS K (dH a d)) → PSs _ _ _) ?_
      exact pss_lift (d := dH a d) (gss_one (gs_ret (ge_tup (ga_cons (ge_xf E9.xf (T.no_BadRows "row" (by simp)) hz hf (gv 6)) (ga_cons (ge_and (ge_isE E9.ec E9.ci hz hf rfl T.z_isinstance (gv 6) (pe_glob (v := .ref E9.cR) rfl E9.gR rfl) (fun u h => h) E9.kR) (ge_and (ge_isE E9.ec E9.ci hz hf rfl T.z_isinstance (gv 6) (pe_bltn (v := .ty "ValueError") rfl E9.zV rfl rfl) (fun u h => h) E9.kV) (ge_one (ge_not (ge_isE E9.ec E9.ci hz hf rfl T.z_isinstance (gv 6) (pe_glob (v := .ref E9.cL) rfl E9.gL rfl) (fun u h => h) E9.kL))))) ga_nil)))))
    · exact ⟨fun pins s σ H D I h => absurd h.1 hc⟩
  · exact pss_lift (gss_one (gs_ret (ge_tup (ga_cons ge_int (ga_cons ge_bl ga_nil)))))
  · intro ds m Qd D h hk Ed hE
    obtain ⟨which, sg, wsD, v1, v2, gap, ch, i, rfl, hw, hf, hb, h⟩ := h
    have eE : Ed (.ref T.c_BadRows) [(("row" : Str), PD.D.int (i : Int))] m := by
      refine hE _ _ _ fun d σ H1 rm fr => ⟨true, E9.ex, fun _ a ha => ⟨rfl, fun tx hl => ?_⟩, fun z => by cases z⟩
      obtain ⟨dd, vs, rfl, hdd, q1, q2⟩ := fr
      have ev : vs = [(("row" : Str), V.int (i : Int))] := by
        match vs, q1, q2 with
        | [(n, v)], q1, .cons r .nil =>
          cases r
          have : n = ("row" : Str) := by simpa using q1
          rw [this]
      subst ev
      have rm2 : RM K H1 (mset m dd (.oth (.xd [(("row" : Str), V.int (i : Int))]))) := fun x o e => by
        by_cases h : x = dd
        · subst h
          rw [mset_same] at e
          cases e
          exact hdd
        · rw [mset_ne h] at e
          exact rm x o e
      have hsl : 6 < σ.length := by rw [List.length_set] at hl; omega
      refine ⟨[none, none, none, none, none, none, some (.ref a)], mset m dd (.oth (.xd [(("row" : Str), V.int (i : Int))])), { nx := fun _ _ => False, rt := fun v m' => v = .tup [.int (i : Int), .bl true] ∧ m' = mset m dd (.oth (.xd [(("row" : Str), V.int (i : Int))])) }, ⟨by rw [hl]; rfl, fun j e he => ?_⟩, rm2, ?_, ?_, ?_, ?_, ?_⟩
      · match j, he with
        | 6, he =>
          cases he
          exact ⟨.ref a, by rw [List.getElem?_set_self hsl], .ref a⟩
        | j + 7, he => cases he
      · unfold dH dXf dIsE
        walk_at "pd"
        exact ⟨dd, _, i, rfl, mset_same, rfl, dd, _, rfl, mset_same, dd, _, rfl, mset_same, dd, _, rfl, mset_same, rfl⟩
      · intro _ _ _ _ _ _ _ h; exact h.elim
      · rintro v H2 dv m2 t2 rm3 rv ⟨e1, e2⟩
        subst e1 e2
        refine hk v H2 _ m (tx.trans t2) (fun x o e => ?_) rv h
        by_cases hx : x = dd
        · subst hx
          have h1 := rm x o e
          cases o with
          | lst ds => obtain ⟨_, h1, _⟩ := h1; rw [hdd] at h1; cases h1
          | dct kvs => obtain ⟨_, h1, _⟩ := h1; rw [hdd] at h1; cases h1
          | dcT kvs => obtain ⟨_, h1, _⟩ := h1; rw [hdd] at h1; cases h1
          | ins C fs => obtain ⟨_, _, h1, _⟩ := h1; rw [hdd] at h1; cases h1
          | sset P w S n =>
            have h1 : H1 x = some (SetK P w x S n) := h1
            rw [hdd] at h1; cases h1
          | oth u =>
            have h1 : H1 x = some u := h1
            rw [hdd] at h1
            cases h1
            exact rm3 x _ mset_same
        · exact rm3 x o (by rw [mset_ne hx]; exact e)
      · intro _ _ _ _ _ _ _ h; exact h.elim
      · intro _ _ _ _ _ _ _ h; exact h.elim
    rw [show startD N__law_refused [PD.D.int (which : Int), .str (tx sg), .tup wsD, v1, v2, .tup [.int gap, .int ch]] = [some (PD.D.int (which : Int)), some (.str (tx sg)), some (.tup wsD), some v1, some v2, some (.tup [.int gap, .int ch]), none] from rfl]
    walk_at "pd"
    unfold dCallPX
    obtain ⟨pre, b, post, e, p1, p2, rfl⟩ := hb
    by_cases w0 : which = 0
    · rw [if_pos (by omega)]
      walk_at "pd"
      have e : [v1, v2] = pre ++ b :: post := by rw [← e]; exact (if_pos (by omega)).symm
      exact ⟨sg, v1, v2, gap, ch, rfl, .inr ⟨pre, b, post, e, p1, p2, eE⟩⟩
    · rw [if_neg (by omega)]
      by_cases w1 : which = 1
      · rw [if_pos (by omega)]
        walk_at "pd"
        have e : [v1, v2] = pre ++ b :: post := by rw [← e]; exact (if_pos (by omega)).symm
        exact ⟨sg, v1, v2, rfl, .inr ⟨pre, b, post, e, p1, p2, eE⟩⟩
      · rw [if_neg (by omega)]
        walk_at "pd"
        have e : [v1] = pre ++ b :: post := by rw [← e]; exact (if_neg (by omega)).symm
        exact ⟨sg, wsD, v1, rfl, hf, .inr ⟨pre, b, post, e, p1, p2, eE⟩⟩
end
end K78

set_option Elab.async false
set_option linter.all false
set_option maxRecDepth 100000
set_option maxHeartbeats 4000000
namespace K78
open PySem PySem.Spec PyProof.Rows L2 PD
section
variable {P : Program} {w : World} {K : PySem.W.Frag} {mg : Str → Option Value} {base : Heap}
theorem law_all (T : Txt K mg) (E9 : Er K mg T) : FnOk P w K mg base CX0 9 T.f_law T.fd_law ["_law_script"] (spL K 1 sp_law) := by
  have G_has_only : FnOk P w K mg base CX0 1 T.f_has_only T.fd_has_only ["word", "characters"] (spL K 2 sp_has_only) := ok_has_only T
  have G__check_rows : FnOk P w K mg base (L2.CX P w) 3 T.f__check_rows T.fd__check_rows ["signs", "rows"] (spX K 2 (sp__check_rows T.c_BadRows)) := ok__check_rows T G_has_only
  have G_distance : FnOk P w K mg base (L2.CX P w) 4 T.f_distance T.fd_distance ["signs", "one", "other", "gap", "change"] (spX K 5 (sp_distance T.c_BadRows)) := ok_distance T G__check_rows
  have G_longest : FnOk P w K mg base (L2.CX P w) 4 T.f_longest T.fd_longest ["signs", "one", "other"] (spX K 3 (sp_longest T.c_BadRows)) := ok_longest T G__check_rows
  have G__most_within : FnOk P w K mg base CX0 1 T.f__most_within T.fd__most_within ["words", "text", "start", "end", "most"] (spL K 5 sp__most_within) := ok__most_within T
  have G_nested : FnOk P w K mg base (L2.CX P w) 4 T.f_nested T.fd_nested ["signs", "words", "text"] (spX K 3 (sp_nested T.c_BadRows)) := ok_nested T G__most_within G__check_rows
  have G__law_tape : FnOk P w K mg base CX0 1 T.f__law_tape T.fd__law_tape ["_law_script"] (spL K 1 sp__law_tape) := ok__law_tape T
  have G__law_draw : FnOk P w K mg base CX0 1 T.f__law_draw T.fd__law_draw ["_law_tape_here", "_law_many"] (spL K 2 sp__law_draw) := ok__law_draw T
  have G__law_signs : FnOk P w K mg base CX0 2 T.f__law_signs T.fd__law_signs ["_law_tape_here"] (spL K 1 sp__law_signs) := ok__law_signs T G__law_draw
  have G__law_text : FnOk P w K mg base CX0 2 T.f__law_text T.fd__law_text ["_law_tape_here", "_law_signs_here", "_law_most"] (spL K 3 sp__law_text) := ok__law_text T G__law_draw
  have G__law_costs : FnOk P w K mg base CX0 2 T.f__law_costs T.fd__law_costs ["_law_tape_here"] (spL K 1 sp__law_costs) := ok__law_costs T G__law_draw
  have G__law_rows_of_places : FnOk P w K mg base CX0 1 T.f__law_rows_of_places T.fd__law_rows_of_places ["_law_text_here"] (spL K 1 sp__law_rows_of_places) := ok__law_rows_of_places T
  have G__law_distance : FnOk P w K mg base CX0 2 T.f__law_distance T.fd__law_distance ["_law_one", "_law_other", "_law_gap", "_law_change"] (spL K 4 sp__law_distance) := ok__law_distance T G__law_rows_of_places
  have G__law_longest : FnOk P w K mg base CX0 2 T.f__law_longest T.fd__law_longest ["_law_one", "_law_other"] (spL K 2 sp__law_longest) := ok__law_longest T G__law_rows_of_places
  have G__law_nested : FnOk P w K mg base CX0 1 T.f__law_nested T.fd__law_nested ["_law_words_here", "_law_text_here"] (spL K 2 sp__law_nested) := ok__law_nested T
  have G__law_words : FnOk P w K mg base CX0 2 T.f__law_words T.fd__law_words ["_law_tape_here", "_law_signs_here"] (spL K 2 sp__law_words) := ok__law_words T G__law_draw
  have G__law_number : FnOk P w K mg base CX0 1 T.f__law_number T.fd__law_number ["_law_found", "_law_due"] (spL K 2 sp__law_number) := ok__law_number T
  have G__law_bad : FnOk P w K mg base CX0 3 T.f__law_bad T.fd__law_bad ["_law_tape_here", "_law_signs_here"] (spL K 2 sp__law_bad) := ok__law_bad T G__law_draw G__law_text
  have G__law_refused : FnOk P w K mg base CX0 6 T.f__law_refused T.fd__law_refused ["_law_which", "_law_signs_here", "_law_words_here", "_law_one", "_law_other", "_law_costs_here"] (spL K 6 sp__law_refused) := ok__law_refused T E9 G_distance G_longest G_nested
  have G__law_let : FnOk P w K mg base CX0 7 T.f__law_let T.fd__law_let ["_law_which", "_law_signs_here", "_law_words_here", "_law_one", "_law_other", "_law_costs_here", "_law_due"] (spL K 7 sp__law_let) := ok__law_let T G__law_number G_nested G_longest G_distance G__law_refused
  have G__law_long : FnOk P w K mg base CX0 8 T.f__law_long T.fd__law_long ["_law_tape_here", "_law_signs_here", "_law_costs_here"] (spL K 3 sp__law_long) := ok__law_long T G__law_let G__law_draw
  have G_law : FnOk P w K mg base CX0 9 T.f_law T.fd_law ["_law_script"] (spL K 1 sp_law) := ok_law T G__law_let G__law_draw G__law_long G__law_bad G__law_nested G__law_text G__law_longest G__law_distance G__law_costs G__law_words G__law_signs G__law_tape
  exact G_law
end
end K78
namespace K78
open PySem PySem.Spec PyProof.Rows L2 PD
theorem kitCls_ref {K : PySem.W.Frag} {t : Value} {S : Addr} {b : Option Bool} (h2 : PySem.W.isClsIn K S = true) (h3 : PySem.W.typeIn K (.ref S) = some (.type "type")) (h4 : PySem.W.subIn K t (.ref S) = b) : PySem.W.kitCls K t (.ref S) = b := by
  have e2 : ((PySem.W.clsIn K S).isSome && PySem.W.typeIn K (.ref S) == some (.type "type")) = true := by
    have h2' : (PySem.W.clsIn K S).isSome = true := h2
    rw [h2', h3] <;> rfl
  show (if ((PySem.W.clsIn K S).isSome && PySem.W.typeIn K (.ref S) == some (.type "type")) = true then PySem.W.subIn K t (.ref S) else none) = b
  rw [if_pos e2]; exact h4
theorem exm_self {K : PySem.W.Frag} {S : Addr} (h1 : PySem.W.subIn K (.ref S) (.type "BaseException") = some true) (h2 : PySem.W.isClsIn K S = true) (h3 : PySem.W.typeIn K (.ref S) = some (.type "type")) (h4 : PySem.W.subIn K (.ref S) (.ref S) = some true) : PySem.W.exmOne K (.ref S) (.ref S) = some true := by
  have e1 : (PySem.W.subIn K (.ref S) (.type "BaseException") == some true) = true := by rw [h1] <;> rfl
  unfold PySem.W.exmOne
  rw [if_pos e1]
  exact kitCls_ref h2 h3 h4
theorem kit_ref {K : PySem.W.Frag} {D S : Addr} {b : Bool} (h2 : PySem.W.isClsIn K S = true) (h3 : PySem.W.typeIn K (.ref S) = some (.type "type")) (h4 : PySem.W.subIn K (.ref D) (.ref S) = some b) (hs : PySem.W.subIn K (.ref D) (.ref D) = some true) : PySem.W.kitOne K (.ref D) (.ref S) = some b := by
  unfold PySem.W.kitOne
  split
  · rename_i h
    have e : (Value.ref D) = .ref S := by simpa using h
    injection e with e
    subst e
    rw [hs] at h4; exact h4
  · exact kitCls_ref h2 h3 h4
theorem kit_ty {K : PySem.W.Frag} {D : Addr} {b : Bool} (h4 : PySem.W.subIn K (.ref D) (.type "ValueError") = some b) : PySem.W.kitOne K (.ref D) (.type "ValueError") = some b := by
  unfold PySem.W.kitOne
  rw [if_neg (by simp)]
  exact h4
end K78

set_option Elab.async false
set_option linter.all false
set_option maxRecDepth 100000
set_option maxHeartbeats 4000000
namespace K78
open PySem PySem.Spec PyProof.Rows L2 PD
theorem all_mk {l : PySem.W.OpenLaw} {w : World} {K : PySem.W.Frag} {h : Heap} {mg : Str → Option Value} {fa : Addr} (X : K.In h) (G : h.Ns mainGlobals mg) (hfa : mg "law" = some (.ref fa))
    {f0 : Addr} {od0 an0 : Option Addr} {sl0 : Array (Option Value)} {oc0 kV0 dc0 pm0 cd0 ct0 : Value}
    (a0 : PySem.W.nsIn K mainGlobals "has_only" = some (some (.ref f0)))
    (l0 : K.lookup f0 = some ⟨oc0, od0, .func (PySem.W.fnOf "has_only" "has_only" (defArgs s_has_only) (defBody s_has_only) (defScope s_has_only) .none kV0 dc0 pm0 an0 cd0 ct0), sl0⟩)
    (c0 : PySem.W.codeIn K cd0 "has_only" = true) (k0 : PySem.W.keepIn K (.ref f0) = true)
    {f1 : Addr} {od1 an1 : Option Addr} {sl1 : Array (Option Value)} {oc1 kV1 dc1 pm1 cd1 ct1 : Value}
    (a1 : PySem.W.nsIn K mainGlobals "distance" = some (some (.ref f1)))
    (l1 : K.lookup f1 = some ⟨oc1, od1, .func (PySem.W.fnOf "distance" "distance" (defArgs s_distance) (defBody s_distance) (defScope s_distance) .none kV1 dc1 pm1 an1 cd1 ct1), sl1⟩)
    (c1 : PySem.W.codeIn K cd1 "distance" = true) (k1 : PySem.W.keepIn K (.ref f1) = true)
    {f2 : Addr} {od2 an2 : Option Addr} {sl2 : Array (Option Value)} {oc2 kV2 dc2 pm2 cd2 ct2 : Value}
    (a2 : PySem.W.nsIn K mainGlobals "longest" = some (some (.ref f2)))
    (l2 : K.lookup f2 = some ⟨oc2, od2, .func (PySem.W.fnOf "longest" "longest" (defArgs s_longest) (defBody s_longest) (defScope s_longest) .none kV2 dc2 pm2 an2 cd2 ct2), sl2⟩)
    (c2 : PySem.W.codeIn K cd2 "longest" = true) (k2 : PySem.W.keepIn K (.ref f2) = true)
    {f3 : Addr} {od3 an3 : Option Addr} {sl3 : Array (Option Value)} {oc3 kV3 dc3 pm3 cd3 ct3 : Value}
    (a3 : PySem.W.nsIn K mainGlobals "nested" = some (some (.ref f3)))
    (l3 : K.lookup f3 = some ⟨oc3, od3, .func (PySem.W.fnOf "nested" "nested" (defArgs s_nested) (defBody s_nested) (defScope s_nested) .none kV3 dc3 pm3 an3 cd3 ct3), sl3⟩)
    (c3 : PySem.W.codeIn K cd3 "nested" = true) (k3 : PySem.W.keepIn K (.ref f3) = true)
    {f4 : Addr} {od4 an4 : Option Addr} {sl4 : Array (Option Value)} {oc4 kV4 dc4 pm4 cd4 ct4 : Value}
    (a4 : PySem.W.nsIn K mainGlobals "_most_within" = some (some (.ref f4)))
    (l4 : K.lookup f4 = some ⟨oc4, od4, .func (PySem.W.fnOf "_most_within" "_most_within" (defArgs s__most_within) (defBody s__most_within) (defScope s__most_within) .none kV4 dc4 pm4 an4 cd4 ct4), sl4⟩)
    (c4 : PySem.W.codeIn K cd4 "_most_within" = true) (k4 : PySem.W.keepIn K (.ref f4) = true)
    {f5 : Addr} {od5 an5 : Option Addr} {sl5 : Array (Option Value)} {oc5 kV5 dc5 pm5 cd5 ct5 : Value}
    (a5 : PySem.W.nsIn K mainGlobals "_check_rows" = some (some (.ref f5)))
    (l5 : K.lookup f5 = some ⟨oc5, od5, .func (PySem.W.fnOf "_check_rows" "_check_rows" (defArgs s__check_rows) (defBody s__check_rows) (defScope s__check_rows) .none kV5 dc5 pm5 an5 cd5 ct5), sl5⟩)
    (c5 : PySem.W.codeIn K cd5 "_check_rows" = true) (k5 : PySem.W.keepIn K (.ref f5) = true)
    {f6 : Addr} {od6 an6 : Option Addr} {sl6 : Array (Option Value)} {oc6 kV6 dc6 pm6 cd6 ct6 : Value}
    (a6 : PySem.W.nsIn K mainGlobals "_law_tape" = some (some (.ref f6)))
    (l6 : K.lookup f6 = some ⟨oc6, od6, .func (PySem.W.fnOf "_law_tape" "_law_tape" (defArgs s__law_tape) (defBody s__law_tape) (defScope s__law_tape) .none kV6 dc6 pm6 an6 cd6 ct6), sl6⟩)
    (c6 : PySem.W.codeIn K cd6 "_law_tape" = true) (k6 : PySem.W.keepIn K (.ref f6) = true)
    {f7 : Addr} {od7 an7 : Option Addr} {sl7 : Array (Option Value)} {oc7 kV7 dc7 pm7 cd7 ct7 : Value}
    (a7 : PySem.W.nsIn K mainGlobals "_law_draw" = some (some (.ref f7)))
    (l7 : K.lookup f7 = some ⟨oc7, od7, .func (PySem.W.fnOf "_law_draw" "_law_draw" (defArgs s__law_draw) (defBody s__law_draw) (defScope s__law_draw) .none kV7 dc7 pm7 an7 cd7 ct7), sl7⟩)
    (c7 : PySem.W.codeIn K cd7 "_law_draw" = true) (k7 : PySem.W.keepIn K (.ref f7) = true)
    {f8 : Addr} {od8 an8 : Option Addr} {sl8 : Array (Option Value)} {oc8 kV8 dc8 pm8 cd8 ct8 : Value}
    (a8 : PySem.W.nsIn K mainGlobals "_law_signs" = some (some (.ref f8)))
    (l8 : K.lookup f8 = some ⟨oc8, od8, .func (PySem.W.fnOf "_law_signs" "_law_signs" (defArgs s__law_signs) (defBody s__law_signs) (defScope s__law_signs) .none kV8 dc8 pm8 an8 cd8 ct8), sl8⟩)
    (c8 : PySem.W.codeIn K cd8 "_law_signs" = true) (k8 : PySem.W.keepIn K (.ref f8) = true)
    {f9 : Addr} {od9 an9 : Option Addr} {sl9 : Array (Option Value)} {oc9 kV9 dc9 pm9 cd9 ct9 : Value}
    (a9 : PySem.W.nsIn K mainGlobals "_law_text" = some (some (.ref f9)))
    (l9 : K.lookup f9 = some ⟨oc9, od9, .func (PySem.W.fnOf "_law_text" "_law_text" (defArgs s__law_text) (defBody s__law_text) (defScope s__law_text) .none kV9 dc9 pm9 an9 cd9 ct9), sl9⟩)
    (c9 : PySem.W.codeIn K cd9 "_law_text" = true) (k9 : PySem.W.keepIn K (.ref f9) = true)
    {f10 : Addr} {od10 an10 : Option Addr} {sl10 : Array (Option Value)} {oc10 kV10 dc10 pm10 cd10 ct10 : Value}
    (a10 : PySem.W.nsIn K mainGlobals "_law_costs" = some (some (.ref f10)))
    (l10 : K.lookup f10 = some ⟨oc10, od10, .func (PySem.W.fnOf "_law_costs" "_law_costs" (defArgs s__law_costs) (defBody s__law_costs) (defScope s__law_costs) .none kV10 dc10 pm10 an10 cd10 ct10), sl10⟩)
    (c10 : PySem.W.codeIn K cd10 "_law_costs" = true) (k10 : PySem.W.keepIn K (.ref f10) = true)
    {f11 : Addr} {od11 an11 : Option Addr} {sl11 : Array (Option Value)} {oc11 kV11 dc11 pm11 cd11 ct11 : Value}
    (a11 : PySem.W.nsIn K mainGlobals "_law_rows_of_places" = some (some (.ref f11)))
    (l11 : K.lookup f11 = some ⟨oc11, od11, .func (PySem.W.fnOf "_law_rows_of_places" "_law_rows_of_places" (defArgs s__law_rows_of_places) (defBody s__law_rows_of_places) (defScope s__law_rows_of_places) .none kV11 dc11 pm11 an11 cd11 ct11), sl11⟩)
    (c11 : PySem.W.codeIn K cd11 "_law_rows_of_places" = true) (k11 : PySem.W.keepIn K (.ref f11) = true)
    {f12 : Addr} {od12 an12 : Option Addr} {sl12 : Array (Option Value)} {oc12 kV12 dc12 pm12 cd12 ct12 : Value}
    (a12 : PySem.W.nsIn K mainGlobals "_law_distance" = some (some (.ref f12)))
    (l12 : K.lookup f12 = some ⟨oc12, od12, .func (PySem.W.fnOf "_law_distance" "_law_distance" (defArgs s__law_distance) (defBody s__law_distance) (defScope s__law_distance) .none kV12 dc12 pm12 an12 cd12 ct12), sl12⟩)
    (c12 : PySem.W.codeIn K cd12 "_law_distance" = true) (k12 : PySem.W.keepIn K (.ref f12) = true)
    {f13 : Addr} {od13 an13 : Option Addr} {sl13 : Array (Option Value)} {oc13 kV13 dc13 pm13 cd13 ct13 : Value}
    (a13 : PySem.W.nsIn K mainGlobals "_law_longest" = some (some (.ref f13)))
    (l13 : K.lookup f13 = some ⟨oc13, od13, .func (PySem.W.fnOf "_law_longest" "_law_longest" (defArgs s__law_longest) (defBody s__law_longest) (defScope s__law_longest) .none kV13 dc13 pm13 an13 cd13 ct13), sl13⟩)
    (c13 : PySem.W.codeIn K cd13 "_law_longest" = true) (k13 : PySem.W.keepIn K (.ref f13) = true)
    {f14 : Addr} {od14 an14 : Option Addr} {sl14 : Array (Option Value)} {oc14 kV14 dc14 pm14 cd14 ct14 : Value}
    (a14 : PySem.W.nsIn K mainGlobals "_law_nested" = some (some (.ref f14)))
    (l14 : K.lookup f14 = some ⟨oc14, od14, .func (PySem.W.fnOf "_law_nested" "_law_nested" (defArgs s__law_nested) (defBody s__law_nested) (defScope s__law_nested) .none kV14 dc14 pm14 an14 cd14 ct14), sl14⟩)
    (c14 : PySem.W.codeIn K cd14 "_law_nested" = true) (k14 : PySem.W.keepIn K (.ref f14) = true)
    {f15 : Addr} {od15 an15 : Option Addr} {sl15 : Array (Option Value)} {oc15 kV15 dc15 pm15 cd15 ct15 : Value}
    (a15 : PySem.W.nsIn K mainGlobals "_law_words" = some (some (.ref f15)))
    (l15 : K.lookup f15 = some ⟨oc15, od15, .func (PySem.W.fnOf "_law_words" "_law_words" (defArgs s__law_words) (defBody s__law_words) (defScope s__law_words) .none kV15 dc15 pm15 an15 cd15 ct15), sl15⟩)
    (c15 : PySem.W.codeIn K cd15 "_law_words" = true) (k15 : PySem.W.keepIn K (.ref f15) = true)
    {f16 : Addr} {od16 an16 : Option Addr} {sl16 : Array (Option Value)} {oc16 kV16 dc16 pm16 cd16 ct16 : Value}
    (a16 : PySem.W.nsIn K mainGlobals "_law_number" = some (some (.ref f16)))
    (l16 : K.lookup f16 = some ⟨oc16, od16, .func (PySem.W.fnOf "_law_number" "_law_number" (defArgs s__law_number) (defBody s__law_number) (defScope s__law_number) .none kV16 dc16 pm16 an16 cd16 ct16), sl16⟩)
    (c16 : PySem.W.codeIn K cd16 "_law_number" = true) (k16 : PySem.W.keepIn K (.ref f16) = true)
    {f17 : Addr} {od17 an17 : Option Addr} {sl17 : Array (Option Value)} {oc17 kV17 dc17 pm17 cd17 ct17 : Value}
    (a17 : PySem.W.nsIn K mainGlobals "_law_bad" = some (some (.ref f17)))
    (l17 : K.lookup f17 = some ⟨oc17, od17, .func (PySem.W.fnOf "_law_bad" "_law_bad" (defArgs s__law_bad) (defBody s__law_bad) (defScope s__law_bad) .none kV17 dc17 pm17 an17 cd17 ct17), sl17⟩)
    (c17 : PySem.W.codeIn K cd17 "_law_bad" = true) (k17 : PySem.W.keepIn K (.ref f17) = true)
    {f18 : Addr} {od18 an18 : Option Addr} {sl18 : Array (Option Value)} {oc18 kV18 dc18 pm18 cd18 ct18 : Value}
    (a18 : PySem.W.nsIn K mainGlobals "_law_refused" = some (some (.ref f18)))
    (l18 : K.lookup f18 = some ⟨oc18, od18, .func (PySem.W.fnOf "_law_refused" "_law_refused" (defArgs s__law_refused) (defBody s__law_refused) (defScope s__law_refused) .none kV18 dc18 pm18 an18 cd18 ct18), sl18⟩)
    (c18 : PySem.W.codeIn K cd18 "_law_refused" = true) (k18 : PySem.W.keepIn K (.ref f18) = true)
    {f19 : Addr} {od19 an19 : Option Addr} {sl19 : Array (Option Value)} {oc19 kV19 dc19 pm19 cd19 ct19 : Value}
    (a19 : PySem.W.nsIn K mainGlobals "_law_let" = some (some (.ref f19)))
    (l19 : K.lookup f19 = some ⟨oc19, od19, .func (PySem.W.fnOf "_law_let" "_law_let" (defArgs s__law_let) (defBody s__law_let) (defScope s__law_let) .none kV19 dc19 pm19 an19 cd19 ct19), sl19⟩)
    (c19 : PySem.W.codeIn K cd19 "_law_let" = true) (k19 : PySem.W.keepIn K (.ref f19) = true)
    {f20 : Addr} {od20 an20 : Option Addr} {sl20 : Array (Option Value)} {oc20 kV20 dc20 pm20 cd20 ct20 : Value}
    (a20 : PySem.W.nsIn K mainGlobals "_law_long" = some (some (.ref f20)))
    (l20 : K.lookup f20 = some ⟨oc20, od20, .func (PySem.W.fnOf "_law_long" "_law_long" (defArgs s__law_long) (defBody s__law_long) (defScope s__law_long) .none kV20 dc20 pm20 an20 cd20 ct20), sl20⟩)
    (c20 : PySem.W.codeIn K cd20 "_law_long" = true) (k20 : PySem.W.keepIn K (.ref f20) = true)
    {f21 : Addr} {od21 an21 : Option Addr} {sl21 : Array (Option Value)} {oc21 kV21 dc21 pm21 cd21 ct21 : Value}
    (a21 : PySem.W.nsIn K mainGlobals "law" = some (some (.ref f21)))
    (l21 : K.lookup f21 = some ⟨oc21, od21, .func (PySem.W.fnOf "law" "law" (defArgs s_law) (defBody s_law) (defScope s_law) .none kV21 dc21 pm21 an21 cd21 ct21), sl21⟩)
    (c21 : PySem.W.codeIn K cd21 "law" = true) (k21 : PySem.W.keepIn K (.ref f21) = true)
    {cB cR cL cC fI : Addr} {nm q : Str} {N : Addr} {bs : List Value} {sn : List Str} {sub : List Value} {ab : Bool} {col : Option Bool} {dd : Option Addr} {m0 m1 m2 m3 m5 : Option Value} {odI anI : Option Addr} {slI : Array (Option Value)} {ocI kVI dcI pmI cdI ctI : Value}
    (aB : PySem.W.nsIn K mainGlobals "BadRows" = some (some (.ref cB)))
    (aR : PySem.W.nsIn K mainGlobals "RunError" = some (some (.ref cR)))
    (aL : PySem.W.nsIn K mainGlobals "LookError" = some (some (.ref cL)))
    (aC : PySem.W.nsIn K mainGlobals "ChooseError" = some (some (.ref cC)))
    (zV : PySem.W.nsIn K mainGlobals "ValueError" = some none)
    (xB : K.lookup cB = some (excClassObj nm q cB N bs [.ref cR, .ref cC, .type "ValueError", .type "Exception", .type "BaseException", .type "object"] true sn sub ab col dd m0 m1 m2 m3 m5 "ValueError.__new__"))
    (saB : PySem.W.findIn K (.ref cB) "__setattr__" = some (some (.builtin "object.__setattr__")))
    (gaB : PySem.W.findIn K (.ref cB) "__getattribute__" = some (some (.builtin "BaseException.__getattribute__")))
    (ggB : PySem.W.findIn K (.ref cB) "__getattr__" = some none)
    (nbB : PySem.W.findIn K (.ref cB) "row" = some none)
    (inB : PySem.W.findIn K (.ref cB) "__init__" = some (some (.ref fI)))
    (tI : PySem.W.typeIn K (.ref fI) = some (.type "function"))
    (lI : K.lookup fI = some ⟨ocI, odI, .func (PySem.W.fnOf "__init__" "BadRows.__init__" (defArgs si_BadRows) (defBody si_BadRows) (defScope si_BadRows) .none kVI dcI pmI anI cdI ctI), slI⟩)
    (cI : PySem.W.codeIn K cdI "BadRows.__init__" = true)
    (kI : PySem.W.keepIn K (.ref fI) = true)
    (kB : PySem.W.keepIn K (.ref cB) = true)
    (eB : PySem.W.subIn K (.ref cB) (.type "BaseException") = some true)
    (tB : PySem.W.typeIn K (.ref cB) = some (.type "type"))
    (hdB : PySem.W.hasDictIn K cB = true)
    (haB : PySem.W.findIn K (.ref cB) "__class__" = some (some (.builtin "object.__class__")))
    (hnB : PySem.W.specialIn K (.builtin "object.__class__") "__get__" = some (some (.builtin "getset_descriptor.__get__")))
    (htB : PySem.W.takesIn K (.builtin "object.__class__") = some true)
    (hmB : PySem.W.mroIn K cB (.type "object") = some true)
    (iB : PySem.W.isClsIn K cB = true)
    (iR : PySem.W.isClsIn K cR = true)
    (iL : PySem.W.isClsIn K cL = true)
    (tR : PySem.W.typeIn K (.ref cR) = some (.type "type"))
    (tL : PySem.W.typeIn K (.ref cL) = some (.type "type"))
    (sB : PySem.W.subIn K (.ref cB) (.ref cB) = some true)
    (sR : PySem.W.subIn K (.ref cB) (.ref cR) = some true)
    (sL : PySem.W.subIn K (.ref cB) (.ref cL) = some false)
    (sV : PySem.W.subIn K (.ref cB) (.type "ValueError") = some true)
    (z_all : PySem.W.nsIn K mainGlobals "all" = some none)
    (z_enumerate : PySem.W.nsIn K mainGlobals "enumerate" = some none)
    (z_min : PySem.W.nsIn K mainGlobals "min" = some none)
    (z_range : PySem.W.nsIn K mainGlobals "range" = some none)
    (z_len : PySem.W.nsIn K mainGlobals "len" = some none)
    (z_max : PySem.W.nsIn K mainGlobals "max" = some none)
    (z_isinstance : PySem.W.nsIn K mainGlobals "isinstance" = some none)
    (z_str : PySem.W.nsIn K mainGlobals "str" = some none)
    (z_int : PySem.W.nsIn K mainGlobals "int" = some none)
    (z_abs : PySem.W.nsIn K mainGlobals "abs" = some none)
    (z_tuple : PySem.W.nsIn K mainGlobals "tuple" = some none)
    (z_bool : PySem.W.nsIn K mainGlobals "bool" = some none)
    : ∃ fd : FuncData, (∀ (s : Shared) (v : Value), BindsTo s fd ⟨[v], []⟩ [("_law_script", v)]) ∧ ∀ base : Heap, K.In base → base.Ns mainGlobals mg → FnOk l.prog w K mg base CX0 9 fa fd ["_law_script"] (spL K 1 sp_law) := by
  have e := hfa.symm.trans (PySem.W.mg_of X G a21)
  cases e
  let T : Txt K mg := {
    c_BadRows := cB, oe_BadRows := ⟨⟨nm, q, N, bs, _, sn, sub, ab, col, dd, m0, m1, m2, m3, m5, xB, by rfl⟩, saB, eB, tB, kB⟩, no_BadRows := fun n hn => by rw [List.mem_singleton.mp hn]; exact nbB, fi_BadRows := fI, fdi_BadRows := _, ic_BadRows := inB, ti_BadRows := tI, Fi_BadRows := fun_mk (st := si_BadRows) lI cI kI, gc_BadRows := PySem.W.mg_of X G aB,
    f_has_only := f0, fd_has_only := _, F_has_only := fun_mk (st := s_has_only) l0 c0 k0, g_has_only := PySem.W.mg_of X G a0,
    f_distance := f1, fd_distance := _, F_distance := fun_mk (st := s_distance) l1 c1 k1, g_distance := PySem.W.mg_of X G a1,
    f_longest := f2, fd_longest := _, F_longest := fun_mk (st := s_longest) l2 c2 k2, g_longest := PySem.W.mg_of X G a2,
    f_nested := f3, fd_nested := _, F_nested := fun_mk (st := s_nested) l3 c3 k3, g_nested := PySem.W.mg_of X G a3,
    f__most_within := f4, fd__most_within := _, F__most_within := fun_mk (st := s__most_within) l4 c4 k4, g__most_within := PySem.W.mg_of X G a4,
    f__check_rows := f5, fd__check_rows := _, F__check_rows := fun_mk (st := s__check_rows) l5 c5 k5, g__check_rows := PySem.W.mg_of X G a5,
    f__law_tape := f6, fd__law_tape := _, F__law_tape := fun_mk (st := s__law_tape) l6 c6 k6, g__law_tape := PySem.W.mg_of X G a6,
    f__law_draw := f7, fd__law_draw := _, F__law_draw := fun_mk (st := s__law_draw) l7 c7 k7, g__law_draw := PySem.W.mg_of X G a7,
    f__law_signs := f8, fd__law_signs := _, F__law_signs := fun_mk (st := s__law_signs) l8 c8 k8, g__law_signs := PySem.W.mg_of X G a8,
    f__law_text := f9, fd__law_text := _, F__law_text := fun_mk (st := s__law_text) l9 c9 k9, g__law_text := PySem.W.mg_of X G a9,
    f__law_costs := f10, fd__law_costs := _, F__law_costs := fun_mk (st := s__law_costs) l10 c10 k10, g__law_costs := PySem.W.mg_of X G a10,
    f__law_rows_of_places := f11, fd__law_rows_of_places := _, F__law_rows_of_places := fun_mk (st := s__law_rows_of_places) l11 c11 k11, g__law_rows_of_places := PySem.W.mg_of X G a11,
    f__law_distance := f12, fd__law_distance := _, F__law_distance := fun_mk (st := s__law_distance) l12 c12 k12, g__law_distance := PySem.W.mg_of X G a12,
    f__law_longest := f13, fd__law_longest := _, F__law_longest := fun_mk (st := s__law_longest) l13 c13 k13, g__law_longest := PySem.W.mg_of X G a13,
    f__law_nested := f14, fd__law_nested := _, F__law_nested := fun_mk (st := s__law_nested) l14 c14 k14, g__law_nested := PySem.W.mg_of X G a14,
    f__law_words := f15, fd__law_words := _, F__law_words := fun_mk (st := s__law_words) l15 c15 k15, g__law_words := PySem.W.mg_of X G a15,
    f__law_number := f16, fd__law_number := _, F__law_number := fun_mk (st := s__law_number) l16 c16 k16, g__law_number := PySem.W.mg_of X G a16,
    f__law_bad := f17, fd__law_bad := _, F__law_bad := fun_mk (st := s__law_bad) l17 c17 k17, g__law_bad := PySem.W.mg_of X G a17,
    f__law_refused := f18, fd__law_refused := _, F__law_refused := fun_mk (st := s__law_refused) l18 c18 k18, g__law_refused := PySem.W.mg_of X G a18,
    f__law_let := f19, fd__law_let := _, F__law_let := fun_mk (st := s__law_let) l19 c19 k19, g__law_let := PySem.W.mg_of X G a19,
    f__law_long := f20, fd__law_long := _, F__law_long := fun_mk (st := s__law_long) l20 c20 k20, g__law_long := PySem.W.mg_of X G a20,
    f_law := fa, fd_law := _, F_law := fun_mk (st := s_law) l21 c21 k21, g_law := PySem.W.mg_of X G a21,
    z_all := PySem.W.mg_none_of X G z_all
    z_enumerate := PySem.W.mg_none_of X G z_enumerate
    z_min := PySem.W.mg_none_of X G z_min
    z_range := PySem.W.mg_none_of X G z_range
    z_len := PySem.W.mg_none_of X G z_len
    z_max := PySem.W.mg_none_of X G z_max
    z_isinstance := PySem.W.mg_none_of X G z_isinstance
    z_str := PySem.W.mg_none_of X G z_str
    z_int := PySem.W.mg_none_of X G z_int
    z_abs := PySem.W.mg_none_of X G z_abs
    z_tuple := PySem.W.mg_none_of X G z_tuple
    z_bool := PySem.W.mg_none_of X G z_bool
  }
  have E9 : Er K mg T := { cR := cR, cL := cL, cC := cC, gR := PySem.W.mg_of X G aR, gL := PySem.W.mg_of X G aL, gC := PySem.W.mg_of X G aC, zV := PySem.W.mg_none_of X G zV, kR := kit_ref iR tR sR sB, kV := kit_ty sV, kL := kit_ref iL tL sL sB, ex := exm_self eB iB tB sB, ec := ⟨gaB, ggB, eB, hdB, haB, hnB, htB, hmB⟩, xf := ⟨gaB, ggB, eB, hdB⟩, ci := by show (PySem.W.clsIn K cB).isSome = true; unfold PySem.W.clsIn; rw [show List.lookup cB K = _ from xB]; rfl }
  exact ⟨T.fd_law, fun s v => .of_eq rfl, fun base _ _ => law_all T E9⟩
theorem start {K : PySem.W.Frag} {H : Hp} {a : Addr} {ns : List Int} {E : XK} (hl : ns.length ≤ 63) (hO : L2.Only H) (hS : SqL K H a (ns.map V.int)) : spL K 1 sp_law [.ref a] H (fun v _ => v = .bl true) E := by
  have hr : RoL K H a (ns.map V.int) := by
    rcases hS with (h | ⟨u, h⟩) | h
    · rcases hO a with e | ⟨u, xs, e⟩
      · rw [e] at h; cases h
      · rw [e] at h; cases h
    · exact .inl ⟨u, h⟩
    · exact .inr h
  have hL : ∀ l : List Int, RepL K H (l.map D.int) (l.map V.int) := fun l => by
    induction l with
    | nil => exact .nil
    | cons x l ih => exact .cons (.int x) ih
  refine ⟨[.rol (ns.map D.int)], fun _ => none, fun v _ => v = .bl true, .cons (.rol hr (hL ns)) .nil, fun _ _ e => (by cases e), ⟨rfl, ns, rfl, by omega, fun _ => rfl⟩, fun v H' dv m' _ _ hv hq => ?_⟩
  subst hq
  cases hv
  rfl
end K78
open PySem PySem.W PyProof.Rows
set_option maxHeartbeats 0 in
theorem PySem.Challenge.cw_chooseonce_k78_whole_shelf_by_all_ways_holds : PySem.Challenge.rw_chooseonce_k78_whole_shelf_by_all_ways.Holds := by
  w_on; o_law; k_head; (case hw => w_witness2)
  k_fill
  refine L2.walk_of (l := PySem.Challenge.rw_chooseonce_k78_whole_shelf_by_all_ways) (n := 63) (k := 9) (x := "_law_script") (CX := fun _ => L2.CX0) (sp := fun w => PD.spL _ 1 K78.sp_law) rfl (by decide) rfl ⟨rfl, by decide, by decide⟩ (fun w h Y => PySem.W.kIn_of Y) ?F (fun _ _ a ns hl hO hS => K78.start hl hO hS) (fun _ _ _ _ _ h => h)
  case F =>
    intro w mg fa h KX G hmg
    refine' K78.all_mk KX G hmg ?a0 ?l0 ?c0 ?k0 ?a1 ?l1 ?c1 ?k1 ?a2 ?l2 ?c2 ?k2 ?a3 ?l3 ?c3 ?k3 ?a4 ?l4 ?c4 ?k4 ?a5 ?l5 ?c5 ?k5 ?a6 ?l6 ?c6 ?k6 ?a7 ?l7 ?c7 ?k7 ?a8 ?l8 ?c8 ?k8 ?a9 ?l9 ?c9 ?k9 ?a10 ?l10 ?c10 ?k10 ?a11 ?l11 ?c11 ?k11 ?a12 ?l12 ?c12 ?k12 ?a13 ?l13 ?c13 ?k13 ?a14 ?l14 ?c14 ?k14 ?a15 ?l15 ?c15 ?k15 ?a16 ?l16 ?c16 ?k16 ?a17 ?l17 ?c17 ?k17 ?a18 ?l18 ?c18 ?k18 ?a19 ?l19 ?c19 ?k19 ?a20 ?l20 ?c20 ?k20 ?a21 ?l21 ?c21 ?k21 ?aB ?aR ?aL ?aC ?zV ?xB ?saB ?gaB ?ggB ?nbB ?inB ?tI ?lI ?cI ?kI ?kB ?eB ?tB ?hdB ?haB ?hnB ?htB ?hmB ?iB ?iR ?iL ?tR ?tL ?sB ?sR ?sL ?sV ?z_all ?z_enumerate ?z_min ?z_range ?z_len ?z_max ?z_isinstance ?z_str ?z_int ?z_abs ?z_tuple ?z_bool
    (case a0 => k_is); (case l0 => k_is); (case c0 => k_is); (case k0 => k_is)
    (case a1 => k_is); (case l1 => k_is); (case c1 => k_is); (case k1 => k_is)
    (case a2 => k_is); (case l2 => k_is); (case c2 => k_is); (case k2 => k_is)
    (case a3 => k_is); (case l3 => k_is); (case c3 => k_is); (case k3 => k_is)
    (case a4 => k_is); (case l4 => k_is); (case c4 => k_is); (case k4 => k_is)
    (case a5 => k_is); (case l5 => k_is); (case c5 => k_is); (case k5 => k_is)
    (case a6 => k_is); (case l6 => k_is); (case c6 => k_is); (case k6 => k_is)
    (case a7 => k_is); (case l7 => k_is); (case c7 => k_is); (case k7 => k_is)
    (case a8 => k_is); (case l8 => k_is); (case c8 => k_is); (case k8 => k_is)
    (case a9 => k_is); (case l9 => k_is); (case c9 => k_is); (case k9 => k_is)
    (case a10 => k_is); (case l10 => k_is); (case c10 => k_is); (case k10 => k_is)
    (case a11 => k_is); (case l11 => k_is); (case c11 => k_is); (case k11 => k_is)
    (case a12 => k_is); (case l12 => k_is); (case c12 => k_is); (case k12 => k_is)
    (case a13 => k_is); (case l13 => k_is); (case c13 => k_is); (case k13 => k_is)
    (case a14 => k_is); (case l14 => k_is); (case c14 => k_is); (case k14 => k_is)
    (case a15 => k_is); (case l15 => k_is); (case c15 => k_is); (case k15 => k_is)
    (case a16 => k_is); (case l16 => k_is); (case c16 => k_is); (case k16 => k_is)
    (case a17 => k_is); (case l17 => k_is); (case c17 => k_is); (case k17 => k_is)
    (case a18 => k_is); (case l18 => k_is); (case c18 => k_is); (case k18 => k_is)
    (case a19 => k_is); (case l19 => k_is); (case c19 => k_is); (case k19 => k_is)
    (case a20 => k_is); (case l20 => k_is); (case c20 => k_is); (case k20 => k_is)
    (case a21 => k_is); (case l21 => k_is); (case c21 => k_is); (case k21 => k_is)
    (case aB => k_is)
    (case aR => k_is)
    (case aL => k_is)
    (case aC => k_is)
    (case zV => k_is)
    (case xB => k_is)
    (case saB => k_is)
    (case gaB => k_is)
    (case ggB => k_is)
    (case nbB => k_is)
    (case inB => k_is)
    (case tI => k_is)
    (case lI => k_is)
    (case cI => k_is)
    (case kI => k_is)
    (case kB => k_is)
    (case eB => k_is)
    (case tB => k_is)
    (case hdB => k_is)
    (case haB => k_is)
    (case hnB => k_is)
    (case htB => k_is)
    (case hmB => k_is)
    (case iB => k_is)
    (case iR => k_is)
    (case iL => k_is)
    (case tR => k_is)
    (case tL => k_is)
    (case sB => first | rfl | k_is)
    (case sR => k_is)
    (case sL => k_is)
    (case sV => k_is)
    (case z_all => k_is)
    (case z_enumerate => k_is)
    (case z_min => k_is)
    (case z_range => k_is)
    (case z_len => k_is)
    (case z_max => k_is)
    (case z_isinstance => k_is)
    (case z_str => k_is)
    (case z_int => k_is)
    (case z_abs => k_is)
    (case z_tuple => k_is)
    (case z_bool => k_is)

