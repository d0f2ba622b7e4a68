import PyProof.Rows.All
import Wide.All
import OpenK.AllK
import Wide.FinOn
import KE.KStateDown
import HandS.Head0
import HandS.Head1
import HandS.Head2
import HandS.HeadEnd
import HandS.HeadHook1
import HandS.HeadHook2
import HandS.HeadHook3
import HandS.ExcInit
import HandS.Words
import HandS.ForMost
import HandS.TupAny
import HandS.Style
import HandS.IsInst
import HandS.SortRule
import HandS.Flow
import KE.GoesMore
import HandS.SetKeys
import HandS.WordsExc
import HandS.Zip
import HandS.SortInts
import KE.DataCmp
import KE.DataMinMax
import KE.SortData
import KE.DataEq
import HandS.SetTxt0
import HandS.Set
import HandS.SetFor
import HandS.Strs
import HandS.Iter
import HandS.Text
import HandS.Exc
import HandS.TryMany
import HandS.Flt
import HandS.ExcIs
import HandS.ExcField
import KE.KExcIs
import HandS.DictComp
import HandS.Conv
import HandS.Deep
import KE.KRevSl
import KE.DataFind
import HandS.More
import PyProof.SetRoads
import HandS.Wide
import KE.KDictZip
import PyProof.TupleOfGen
import HandS.Star
import HandS.Rev
import PyProof.ListStr
import PySem.Challenge.RW_chooseonce_k22_asks_let_and_barred
import KE.KDictSum
import HandS.Sort
set_option Elab.async false
set_option linter.all false
set_option maxRecDepth 100000
set_option maxHeartbeats 4000000
namespace Hd
open PySem PySem.Spec PyProof.Rows L2 He
/-- the function that stands there -/
def fdAt (K : PySem.W.Frag) (p : Str × Option Str) : FuncData := match K.lookup (fAd K p) with
  | some ⟨_, _, .func fd, _⟩ => fd
  | _ => PySem.W.fnOf "" "" ⟨[], [], none, [], [], none, []⟩ [] ⟨.function, [], false, false, []⟩ .none .none .none .none none .none .none
/-- a def of the text: where it stands, its names, its statement -/
structure DF where
  at_ : Str × Option Str
  name : Str
  qual : Str
  st : Stmt
def DF.d (d : DF) : FnD := ⟨d.at_, d.name, d.qual, defArgs d.st, defBody d.st, defScope d.st⟩
def DF.ok (K : PySem.W.Frag) (d : DF) : Bool := (Fa.code d.at_ d.qual).ok K && PySem.W.keepIn K (.ref (fAd K d.at_))
theorem DF.fun_ {K : PySem.W.Frag} {d : DF} (e : fnObs K d.at_ = d.d.val) (c : d.ok K = true) : Fun K d.name d.qual d.st (fAd K d.at_) (fdAt K d.at_) := by
  obtain ⟨oc, od, osl, kV, doc, pm, an, cdv, ct, l, h⟩ := fn_ok (d := d.d) e (ba c).1
  have l2 : K.lookup (fAd K d.at_) = some ⟨oc, od, .func (PySem.W.fnOf d.name d.qual (defArgs d.st) (defBody d.st) (defScope d.st) .none kV doc pm an cdv ct), osl⟩ := l
  have q : fdAt K d.at_ = PySem.W.fnOf d.name d.qual (defArgs d.st) (defBody d.st) (defScope d.st) .none kV doc pm an cdv ct := by
    unfold fdAt
    rw [l2]
  rw [q]
  exact fun_mk l2 h (ba c).2
/-- a class as own errors are -/
def clsB (K : PySem.W.Frag) (C : Addr) : Bool := match K.lookup C with
  | some ⟨.type t, _, .cls cd, sl⟩ => (match cd.mro, sl.toList with
    | .ref D :: bm, [_, _, _, _, some (.builtin n), _] => decide (t = "type") && (decide (D = C) && (decide (n = "ValueError.__new__") && (!cd.hasDel && (cd.hasDict && PySem.HandSPX.refsVE bm))))
    | _, _ => false)
  | _ => false
theorem clsB_ok {K : PySem.W.Frag} {C : Addr} (h : clsB K C = true) : ∃ nm q N bs bm sn sub ab col dd k0 k1 k2 k3 k5, K.lookup C = some (excClassObj nm q C N bs bm true sn sub ab col dd k0 k1 k2 k3 k5 "ValueError.__new__") ∧ PySem.HandSPX.refsVE bm = true := by
  unfold clsB at h
  split at h
  · rename_i t dd cd sl ho
    split at h
    · rename_i D bm k0 k1 k2 k3 n k5 hm hs
      obtain ⟨h1, h⟩ := ba h
      obtain ⟨h2, h⟩ := ba h
      obtain ⟨h3, h⟩ := ba h
      obtain ⟨h4, h⟩ := ba h
      obtain ⟨h5, h6⟩ := ba h
      have e1 := of_decide_eq_true h1
      have e2 := of_decide_eq_true h2
      have e3 := of_decide_eq_true h3
      obtain ⟨nm, bs, mro, ns, qn, hd, sn, sub, ab, col, dl⟩ := cd
      dsimp only at hm h4 h5
      cases dl with
      | true => cases h4
      | false =>
        subst e1 e2 e3 hm h5
        have e4 : sl = #[k0, k1, k2, k3, some (.builtin "ValueError.__new__"), k5] := by
          obtain ⟨l⟩ := sl
          rw [← hs]
        subst e4
        exact ⟨nm, qn, ns, bs, bm, sn, sub, ab, col, dd, k0, k1, k2, k3, k5, ho, h6⟩
    · cases h
  · cases h
/-- all that is looked at of an own error -/
def exB (K : PySem.W.Frag) (x : Str) : Bool := clsB K (ga K x) && (eqO (PySem.W.findIn K (.ref (ga K x)) "__setattr__") (some (some (.builtin "object.__setattr__"))) && (decide (PySem.W.subIn K (.ref (ga K x)) (.type "BaseException") = some true) && (decide (PySem.W.typeIn K (.ref (ga K x)) = some (.type "type")) && (PySem.W.keepIn K (.ref (ga K x)) && (eqO (PySem.W.findIn K (.ref (ga K x)) "__init__") (some (some (.ref (ma K (ga K x) "__init__")))) && decide (PySem.W.typeIn K (.ref (ma K (ga K x) "__init__")) = some (.type "function")))))))
theorem exB_oe {K : PySem.W.Frag} {x : Str} (h : exB K x = true) : OexC K (ga K x) := by
  obtain ⟨h1, h⟩ := ba h
  obtain ⟨h2, h⟩ := ba h
  obtain ⟨h3, h⟩ := ba h
  obtain ⟨h4, h⟩ := ba h
  exact ⟨clsB_ok h1, eqO_ok h2, of_decide_eq_true h3, of_decide_eq_true h4, (ba h).1⟩
theorem exB_ic {K : PySem.W.Frag} {x : Str} (h : exB K x = true) : PySem.W.findIn K (.ref (ga K x)) "__init__" = some (some (.ref (fAd K (x, some "__init__")))) := eqO_ok (ba (ba (ba (ba (ba (ba h).2).2).2).2).2).1
theorem exB_ti {K : PySem.W.Frag} {x : Str} (h : exB K x = true) : PySem.W.typeIn K (.ref (fAd K (x, some "__init__"))) = some (.type "function") := of_decide_eq_true (ba (ba (ba (ba (ba (ba h).2).2).2).2).2).2
/-- what the head says: facts, errors, defs, tables -/
structure Fs where
  fa : List Fa
  ex : List Str
  fn : List DF
  ts : List (Str × List Str)
  xs : List (PySem.W.Frag → Bool) := []
abbrev Al : Type := Bool × List FnV × List (Option (List (Option (Str × Int))))
def obs (F : Fs) (K : PySem.W.Frag) : Al := ((F.fa.all fun f => f.ok K) && ((F.ex.all fun x => exB K x) && ((F.fn.all fun d => d.ok K) && F.xs.all fun f => f K)), F.fn.map fun d => fnObs K d.at_, F.ts.map fun t => dicW K (ga K t.1))
def val (F : Fs) (w : World) : Al := (true, F.fn.map fun d => d.d.val, F.ts.map fun t => some (keysIn w.params t.2))
def Says (F : Fs) (K : PySem.W.Frag) (w : World) : Prop := obs F K = val F w
def obsG (F : Fs) (as : List Addr) (g : Addr → Option Obj) : Al := obs F (frG g as)
def hook (F : Fs) (as : List Addr) : PySem.W.Hook where
  α := Al
  obs := fun s => obsG F as s.heap.get?
  val := val F
  says := fun w h => ∃ K : PySem.W.Frag, K.In h ∧ Says F K w
  of := fun _ _ e => ⟨_, frG_in, e⟩
  keeps := fun _ _ _ ⟨K, hK, c⟩ k => ⟨K, PySem.W.Frag.In.keeps hK k, c⟩
def ob (F : Fs) (as : List Addr) (s : PySem.W.SharedT) : Al := obsG F as (HandSHeadRun.getT s)
theorem ob_eq (F : Fs) (as : List Addr) (s : PySem.W.SharedT) : ob F as s = (hook F as).obs s.abs := by
  have e : HandSHeadRun.getT s = s.abs.heap.get? := funext (HandSHeadRun.getT_eq s)
  unfold ob
  rw [e]
  rfl
section
variable {F : Fs} {K : PySem.W.Frag} {w : World}
theorem Says.fa (c : Says F K w) (i : Nat) {f : Fa} (h : F.fa[i]? = some f := by rfl) : f.ok K = true :=
  List.all_eq_true.mp (ba (show ((F.fa.all fun f => f.ok K) && _) = true from congrArg (fun z : Al => z.1) c)).1 f (List.mem_of_getElem? h)
theorem Says.ex (c : Says F K w) (i : Nat) {x : Str} (h : F.ex[i]? = some x := by rfl) : exB K x = true :=
  List.all_eq_true.mp (ba (ba (show ((F.fa.all fun f => f.ok K) && ((F.ex.all fun x => exB K x) && _)) = true from congrArg (fun z : Al => z.1) c)).2).1 x (List.mem_of_getElem? h)
theorem Says.fn (c : Says F K w) (i : Nat) {d : DF} (h : F.fn[i]? = some d := by rfl) : Fun K d.name d.qual d.st (fAd K d.at_) (fdAt K d.at_) := by
  have h1 := List.all_eq_true.mp (ba (ba (ba (show ((F.fa.all fun f => f.ok K) && ((F.ex.all fun x => exB K x) && ((F.fn.all fun d => d.ok K) && F.xs.all fun f => f K))) = true from congrArg (fun z : Al => z.1) c)).2).2).1 d (List.mem_of_getElem? h)
  have e : F.fn.map (fun d => fnObs K d.at_) = F.fn.map fun d => d.d.val := congrArg (fun z : Al => z.2.1) c
  have e2 : (F.fn.map fun d => fnObs K d.at_)[i]? = (F.fn.map fun d => d.d.val)[i]? := by rw [e]
  rw [List.getElem?_map, List.getElem?_map, h] at e2
  exact DF.fun_ (Option.some.inj e2) h1
theorem Says.xs (c : Says F K w) (i : Nat) {f : PySem.W.Frag → Bool} (h : F.xs[i]? = some f := by rfl) : f K = true :=
  List.all_eq_true.mp (ba (ba (ba (show ((F.fa.all fun f => f.ok K) && ((F.ex.all fun x => exB K x) && ((F.fn.all fun d => d.ok K) && F.xs.all fun f => f K))) = true from congrArg (fun z : Al => z.1) c)).2).2).2 f (List.mem_of_getElem? h)
theorem Says.ts (c : Says F K w) (i : Nat) {t : Str × List Str} (h : F.ts[i]? = some t := by rfl) : ∃ es n, KDict K w (ga K t.1) es n := by
  have e : (F.ts.map fun t => dicW K (ga K t.1)) = F.ts.map fun t => some (keysIn w.params t.2) := congrArg (fun z : Al => z.2.2) c
  have e2 : (F.ts.map fun t => dicW K (ga K t.1))[i]? = (F.ts.map fun t => some (keysIn w.params t.2))[i]? := by rw [e]
  rw [List.getElem?_map, List.getElem?_map, h] at e2
  exact dicW_ok (Option.some.inj e2)
end
theorem bind_one {K : PySem.W.Frag} {x qual p : Str} {st : Stmt} {f : Addr} {fd : FuncData} (F : Fun K x qual st f fd) (h : ∀ (kV doc pm : Value) (an : Option Addr) (cdv ct u : Value), bindArgs (PySem.W.fnOf x qual (defArgs st) (defBody st) (defScope st) .none kV doc pm an cdv ct) ⟨[u], []⟩ = pure [(p, u)]) (s : Shared) (u : Value) : BindsTo s fd ⟨[u], []⟩ [(p, u)] := by
  obtain ⟨oc, od, kV, doc, pm, an, cdv, ct, osl, rfl, lk, hcd⟩ := F.ex
  exact .of_eq (h _ _ _ _ _ _ _)
end Hd
namespace PD
open PySem PySem.Spec PyProof.Rows L2
/-- a value without xs9 tuples' addresses -/
inductive D where
  | non | bl (b : Bool) | int (i : Int) | str (x : Str) | tup (ds : List D) | ref (a : Addr)
  /-- a list that is read only -/
  | rol (ds : List D)
  /-- dicts that are read only: keys, values -/
  | dic (ks : List Key) (ds : List D)
  | dicT (ks : List (List Key)) (ds : List D)
  /-- an instance that is read only: its class, the names of its fields, their values -/
  | obj (C : Addr) (fs : List Str) (ds : List D)
/-- what stands at an address: a list -/
inductive MO where
  | lst (ds : List D)
  /-- a dict with ints and texts for keys; one with tuples of them -/
  | dct (kvs : List (Key × D))
  | dcT (kvs : List (List Key × D))
  /-- an instance of the class at C, its fields -/
  | ins (C : Addr) (fs : List (Str × D))
  /-- a set of ints and texts: its members, how many -/
  | sset (P : Program) (w : World) (S : Key → Bool) (n : Nat)
  /-- any other thing, by what is true of it -/
  | oth (u : HO)
/-- a list that never changes -/
def RoL (K : PySem.W.Frag) (H : Hp) (a : Addr) (xs : List V) : Prop :=
  (∃ o, H a = some (.frz o (.lst xs))) ∨ ∃ (o : Obj) (xs9 : Array Value) (n : Nat), K.lookup a = some o ∧ o.cls = .type "list" ∧ o.dict = none ∧ o.data = .seq xs9 n ∧ xs9.size ≤ sizeLine ∧ Vals xs xs9.toList
theorem RoL.sq {K : PySem.W.Frag} {H : Hp} {a : Addr} {xs : List V} (h : RoL K H a xs) : SqL K H a xs := by
  rcases h with ⟨o, h⟩ | h
  · exact .inl (.inr ⟨o, h⟩)
  · exact .inr h
abbrev Mu := Addr → Option MO
def mset (m : Mu) (a : Addr) (o : MO) : Mu := fun b => if b = a then some o else m b
theorem mset_same {m : Mu} {a : Addr} {o : MO} : mset m a o a = some o := by unfold mset; rw [if_pos rfl]
theorem mset_ne {m : Mu} {a b : Addr} {o : MO} (h : b ≠ a) : mset m a o b = m b := by unfold mset; rw [if_neg h]
theorem mset_new {m : Mu} {a b : Addr} {o o' : MO} (h : m a = none) (e : m b = some o') : mset m a o b = some o' := by
  rw [mset_ne (fun z => by rw [z, h] at e; cases e)]; exact e
theorem mset_mset {m : Mu} {a : Addr} {o u : MO} : mset (mset m a o) a u = mset m a u := by
  funext b; unfold mset; split <;> rfl
theorem mne {m : Mu} {a b : Addr} {o : MO} (h : m a = none) (e : m b = some o) : b ≠ a := fun z => by rw [z, h] at e; cases e
/-- a tuple of the heap's own -/
def TpH (H : Hp) (a : Addr) (vs : List V) : Prop := H a = some (.tup vs)
theorem TpH.sq {K : PySem.W.Frag} {H : Hp} {a : Addr} {vs : List V} (h : TpH H a vs) : SqT K H a vs := SqT.of h
instance {K : PySem.W.Frag} {H : Hp} {a : Addr} {vs : List V} : Coe (TpH H a vs) (SqT K H a vs) := ⟨TpH.sq⟩
mutual
inductive Rep (K : PySem.W.Frag) (H : Hp) : D → V → Prop
  | non : Rep K H .non .non
  | bl (b : Bool) : Rep K H (.bl b) (.bl b)
  | int (i : Int) : Rep K H (.int i) (.int i)
  | str (x : Str) : Rep K H (.str x) (.str x)
  | ref (a : Addr) : Rep K H (.ref a) (.ref a)
  | tup {ds : List D} {a : Addr} {vs : List V} : TpH H a vs → RepL K H ds vs → Rep K H (.tup ds) (.ref a)
  | rol {ds : List D} {a : Addr} {vs : List V} : RoL K H a vs → RepL K H ds vs → Rep K H (.rol ds) (.ref a)
  | dic {ks : List Key} {ds : List D} {a : Addr} {o : Obj} {us : List (Key × V)} : H a = some (.frz o (.dK us)) → us.map (·.1) = ks → RepL K H ds (us.map (·.2)) → Rep K H (.dic ks ds) (.ref a)
  | dicT {ks : List (List Key)} {ds : List D} {a : Addr} {o : Obj} {us : List (List Key × V)} : H a = some (.frz o (.dT us)) → us.map (·.1) = ks → RepL K H ds (us.map (·.2)) → Rep K H (.dicT ks ds) (.ref a)
  | obj {C : Addr} {fs : List Str} {ds : List D} {a dx : Addr} {o : Obj} {us : List (Str × V)} : H a = some (.frz o (.ins C dx us)) → us.map (·.1) = fs → RepL K H ds (us.map (·.2)) → Rep K H (.obj C fs ds) (.ref a)
inductive RepL (K : PySem.W.Frag) (H : Hp) : List D → List V → Prop
  | nil : RepL K H [] []
  | cons {d : D} {ds : List D} {v : V} {vs : List V} : Rep K H d v → RepL K H ds vs → RepL K H (d :: ds) (v :: vs)
end
def Imm : HO → Prop
  | .tup _ => True
  | .frz _ _ => True
  | _ => False
/-- what never changes is kept -/
def TX (H H' : Hp) : Prop := ∀ a u, Imm u → H a = some u → H' a = some u
theorem TX.refl (H : Hp) : TX H H := fun _ _ _ h => h
theorem TX.trans {H H1 H2 : Hp} (a : TX H H1) (b : TX H1 H2) : TX H H2 := fun c o i h => b c o i (a c o i h)
theorem TX.new {H : Hp} {p : Addr} {o : HO} (h : H p = none) : TX H (upd H p o) := fun a u _ e => by
  rw [upd_ne (ne_of_none e h)]; exact e
theorem TX.lst {H : Hp} {p : Addr} {xs : List V} {o : HO} (h : H p = some (.lst xs)) : TX H (upd H p o) := fun a u i e => by
  rw [upd_ne (fun z => by rw [z, h] at e; cases e; exact i)]; exact e
theorem TX.sqT {K : PySem.W.Frag} {H H' : Hp} (t : TX H H') {a : Addr} {xs : List V} (h : SqT K H a xs) : SqT K H' a xs := by
  rcases h with (h | ⟨o, h⟩) | h
  · exact .inl (.inl (t _ _ trivial h))
  · exact .inl (.inr ⟨o, t _ _ trivial h⟩)
  · exact .inr h
theorem TX.ro {K : PySem.W.Frag} {H H' : Hp} (t : TX H H') {a : Addr} {xs : List V} (h : RoL K H a xs) : RoL K H' a xs := by
  rcases h with ⟨o, h⟩ | h
  · exact .inl ⟨o, t _ _ trivial h⟩
  · exact .inr h
mutual
theorem Rep.mono {K : PySem.W.Frag} {H H' : Hp} (t : TX H H') : ∀ {d : D} {v : V}, Rep K H d v → Rep K H' d v
  | _, _, .non => .non
  | _, _, .bl b => .bl b
  | _, _, .int i => .int i
  | _, _, .str x => .str x
  | _, _, .ref a => .ref a
  | _, _, .tup s r => .tup (t _ _ trivial s) (RepL.mono t r)
  | _, _, .rol s r => .rol (t.ro s) (RepL.mono t r)
  | _, _, .dic e n r => .dic (t _ _ trivial e) n (RepL.mono t r)
  | _, _, .dicT e n r => .dicT (t _ _ trivial e) n (RepL.mono t r)
  | _, _, .obj e n r => .obj (t _ _ trivial e) n (RepL.mono t r)
theorem RepL.mono {K : PySem.W.Frag} {H H' : Hp} (t : TX H H') : ∀ {ds : List D} {vs : List V}, RepL K H ds vs → RepL K H' ds vs
  | _, _, .nil => .nil
  | _, _, .cons a b => .cons (Rep.mono t a) (RepL.mono t b)
end
theorem RepL.length {K : PySem.W.Frag} {H : Hp} : ∀ {ds : List D} {vs : List V}, RepL K H ds vs → ds.length = vs.length
  | _, _, .nil => rfl
  | _, _, .cons _ b => by rw [List.length_cons, List.length_cons, RepL.length b]
theorem RepL.append {K : PySem.W.Frag} {H : Hp} : ∀ {ds es : List D} {vs ws : List V}, RepL K H ds vs → RepL K H es ws → RepL K H (ds ++ es) (vs ++ ws)
  | _, _, _, _, .nil, s => s
  | _, _, _, _, .cons a b, s => .cons a (RepL.append b s)
theorem RepL.get {K : PySem.W.Frag} {H : Hp} : ∀ {ds : List D} {vs : List V} {i : Nat} {d : D}, RepL K H ds vs → ds[i]? = some d → ∃ v, vs[i]? = some v ∧ Rep K H d v
  | _, _, _, _, .nil, e => by simp at e
  | _, _, 0, _, .cons a _, e => by simp at e; subst e; exact ⟨_, rfl, a⟩
  | _, _, i + 1, d, .cons _ b, e => by
    obtain ⟨v, h1, h2⟩ := RepL.get (i := i) (d := d) b (by simpa using e)
    exact ⟨v, by simpa using h1, h2⟩
theorem RepL.getV {K : PySem.W.Frag} {H : Hp} {ds : List D} {vs : List V} {i : Nat} {v : V} (r : RepL K H ds vs) (e : vs[i]? = some v) : ∃ d, ds[i]? = some d ∧ Rep K H d v := by
  have hl := r.length
  obtain ⟨h1, _⟩ := List.getElem?_eq_some_iff.mp e
  have h2 : i < ds.length := by omega
  obtain ⟨w, e2, q⟩ := r.get (List.getElem?_eq_getElem h2)
  rw [e] at e2; cases e2
  exact ⟨_, List.getElem?_eq_getElem h2, q⟩
theorem RepL.take {K : PySem.W.Frag} {H : Hp} : ∀ {ds : List D} {vs : List V} (n : Nat), RepL K H ds vs → RepL K H (ds.take n) (vs.take n)
  | _, _, 0, _ => by rw [List.take_zero, List.take_zero]; exact .nil
  | _, _, _ + 1, .nil => .nil
  | _, _, n + 1, .cons a b => .cons a (RepL.take n b)
theorem RepL.drop {K : PySem.W.Frag} {H : Hp} : ∀ {ds : List D} {vs : List V} (n : Nat), RepL K H ds vs → RepL K H (ds.drop n) (vs.drop n)
  | _, _, 0, r => r
  | _, _, _ + 1, .nil => .nil
  | _, _, n + 1, .cons _ b => RepL.drop n b
theorem RepL.set {K : PySem.W.Frag} {H : Hp} {d : D} {v : V} (r : Rep K H d v) : ∀ {ds : List D} {vs : List V} (i : Nat), RepL K H ds vs → RepL K H (ds.set i d) (vs.set i v)
  | _, _, _, .nil => .nil
  | _, _, 0, .cons _ t => .cons r t
  | _, _, i + 1, .cons q t => .cons q (RepL.set r i t)
theorem RepL.erase {K : PySem.W.Frag} {H : Hp} : ∀ {ds : List D} {vs : List V} (i : Nat), RepL K H ds vs → RepL K H (ds.eraseIdx i) (vs.eraseIdx i)
  | _, _, _, .nil => .nil
  | _, _, 0, .cons _ t => t
  | _, _, i + 1, .cons q t => .cons q (RepL.erase i t)
theorem RepL.rev {K : PySem.W.Frag} {H : Hp} : ∀ {ds : List D} {vs : List V}, RepL K H ds vs → RepL K H ds.reverse vs.reverse
  | _, _, .nil => .nil
  | _, _, .cons a b => by rw [List.reverse_cons, List.reverse_cons]; exact RepL.append (RepL.rev b) (.cons a .nil)
theorem RepL.dropLast {K : PySem.W.Frag} {H : Hp} {ds : List D} {vs : List V} (r : RepL K H ds vs) : RepL K H ds.dropLast vs.dropLast := by
  rw [List.dropLast_eq_take, List.dropLast_eq_take, r.length]
  exact r.take _
theorem RepL.nil_iff {K : PySem.W.Frag} {H : Hp} {ds : List D} {vs : List V} (r : RepL K H ds vs) : ds = [] ↔ vs = [] := by
  cases r with
  | nil => exact ⟨fun _ => rfl, fun _ => rfl⟩
  | cons a b => exact ⟨fun h => (nomatch h), fun h => (nomatch h)⟩
abbrev Sd := List (Option D)
def MOk (K : PySem.W.Frag) (H : Hp) (a : Addr) : MO → Prop
  | .lst ds => ∃ vs, H a = some (.lst vs) ∧ RepL K H ds vs
  | .dct kvs => ∃ us, H a = some (.dK us) ∧ us.map (·.1) = kvs.map (·.1) ∧ RepL K H (kvs.map (·.2)) (us.map (·.2))
  | .dcT kvs => ∃ us, H a = some (.dT us) ∧ us.map (·.1) = kvs.map (·.1) ∧ RepL K H (kvs.map (·.2)) (us.map (·.2))
  | .sset P w S n => H a = some (SetK P w a S n)
  | .oth u => H a = some u
  | .ins C fs => ∃ dx us, H a = some (.ins C dx us) ∧ us.map (·.1) = fs.map (·.1) ∧ RepL K H (fs.map (·.2)) (us.map (·.2))
def RM (K : PySem.W.Frag) (H : Hp) (m : Mu) : Prop := ∀ a o, m a = some o → MOk K H a o
structure RS (K : PySem.W.Frag) (H : Hp) (sd : Sd) (s : L2.St) : Prop where
  len : sd.length = s.length
  at_ : ∀ (i : Nat) (d : D), sd[i]? = some (some d) → ∃ v, s[i]? = some (some v) ∧ Rep K H d v
theorem RS.mono {K : PySem.W.Frag} {H H' : Hp} {sd : Sd} {s : L2.St} (r : RS K H sd s) (t : TX H H') : RS K H' sd s :=
  ⟨r.len, fun i d e => let ⟨v, h, q⟩ := r.at_ i d e; ⟨v, h, q.mono t⟩⟩
theorem RS.set {K : PySem.W.Frag} {H : Hp} {sd : Sd} {s : L2.St} (r : RS K H sd s) {d : D} {v : V} (q : Rep K H d v) (i : Nat) : RS K H (sd.set i (some d)) (s.set i (some v)) := by
  refine ⟨by rw [List.length_set, List.length_set]; exact r.len, fun j e h => ?_⟩
  rw [List.getElem?_set] at h
  rw [List.getElem?_set]
  by_cases hij : i = j
  · subst hij
    rw [if_pos rfl] at h ⊢
    by_cases hl : i < sd.length
    · rw [if_pos hl] at h
      cases h
      rw [if_pos (by rw [← r.len]; exact hl)]
      exact ⟨v, rfl, q⟩
    · rw [if_neg hl] at h; cases h
  · rw [if_neg hij] at h ⊢
    exact r.at_ j e h
theorem MOk.tx {K : PySem.W.Frag} {H H' : Hp} {a : Addr} {o : MO} (h : MOk K H a o) (t : TX H H') (k : ∀ u, H a = some u → H' a = some u) : MOk K H' a o := by
  cases o with
  | lst ds => obtain ⟨vs, e, r⟩ := h; exact ⟨vs, k _ e, r.mono t⟩
  | dct kvs => obtain ⟨us, e, e2, r⟩ := h; exact ⟨us, k _ e, e2, r.mono t⟩
  | dcT kvs => obtain ⟨us, e, e2, r⟩ := h; exact ⟨us, k _ e, e2, r.mono t⟩
  | ins C fs => obtain ⟨dx, us, e, e2, r⟩ := h; exact ⟨dx, us, k _ e, e2, r.mono t⟩
  | sset P w S n => exact k _ h
  | oth u => exact k _ h
theorem MOk.some {K : PySem.W.Frag} {H : Hp} {a : Addr} {o : MO} (h : MOk K H a o) : ∃ u, H a = some u := by
  cases o with
  | lst ds => obtain ⟨vs, e, r⟩ := h; exact ⟨_, e⟩
  | dct kvs => obtain ⟨us, e, _⟩ := h; exact ⟨_, e⟩
  | dcT kvs => obtain ⟨us, e, _⟩ := h; exact ⟨_, e⟩
  | ins C fs => obtain ⟨dx, us, e, _⟩ := h; exact ⟨_, e⟩
  | sset P w S n => exact ⟨_, h⟩
  | oth u => exact ⟨_, h⟩
/-- a new object that the store does not tell of -/
theorem RM.skip {K : PySem.W.Frag} {H : Hp} {m : Mu} {p : Addr} {u : HO} (r : RM K H m) (h : H p = none) : RM K (upd H p u) m := fun a o e => by
  refine (r a o e).tx (.new h) fun vs q => ?_
  rw [upd_ne (ne_of_none q h)]; exact q
theorem RM.fresh {K : PySem.W.Frag} {H : Hp} {m : Mu} {p : Addr} (r : RM K H m) (h : H p = none) : m p = none := by
  cases q : m p with
  | none => rfl
  | some o =>
    obtain ⟨u, e⟩ := (r p o q).some
    rw [h] at e; cases e
/-- a new list -/
theorem RM.newL {K : PySem.W.Frag} {H : Hp} {m : Mu} {p : Addr} {ds : List D} {vs : List V} (r : RM K H m) (h : H p = none) (q : RepL K H ds vs) : RM K (upd H p (.lst vs)) (mset m p (.lst ds)) := fun a o e => by
  by_cases ha : a = p
  · subst ha
    rw [mset_same] at e; cases e
    exact ⟨vs, upd_same, q.mono (.new h)⟩
  · rw [mset_ne ha] at e
    exact r.skip h a o e
/-- a list is changed -/
theorem RM.setL {K : PySem.W.Frag} {H : Hp} {m : Mu} {p : Addr} {ds : List D} {vs ws : List V} (r : RM K H m) (h : H p = some (.lst ws)) (q : RepL K H ds vs) : RM K (upd H p (.lst vs)) (mset m p (.lst ds)) := fun a o e => by
  by_cases ha : a = p
  · subst ha
    rw [mset_same] at e; cases e
    exact ⟨vs, upd_same, q.mono (.lst h)⟩
  · rw [mset_ne ha] at e
    refine (r a o e).tx (.lst h) fun us z => ?_
    rw [upd_ne ha]; exact z
/-- less is told -/
def Sub (m m' : Mu) : Prop := ∀ a o, m a = some o → m' a = some o
theorem Sub.refl (m : Mu) : Sub m m := fun _ _ h => h
theorem Sub.trans {m m1 m2 : Mu} (a : Sub m m1) (b : Sub m1 m2) : Sub m m2 := fun x o h => b x o (a x o h)
theorem Sub.new {m : Mu} {p : Addr} {o : MO} (h : m p = none) : Sub m (mset m p o) := fun a u e => mset_new h e
theorem Sub.new' {m m' : Mu} {p : Addr} {o : MO} (s : Sub m m') (h : m p = none) : Sub m (mset m' p o) := fun a u e => by
  rw [mset_ne (mne h e)]; exact s a u e
theorem Sub.free {m m' : Mu} {p : Addr} (s : Sub m m') (h : m' p = none) : m p = none := by
  cases q : m p with
  | none => rfl
  | some o => rw [s p o q] at h; cases h
theorem RM.sub {K : PySem.W.Frag} {H : Hp} {m m' : Mu} (r : RM K H m') (s : Sub m m') : RM K H m := fun a o e => r a o (s a o e)
abbrev DK := D → Mu → Prop
abbrev DE := Sd → Mu → DK → Prop
abbrev DT := Sd → Mu → (Bool → Mu → Prop) → Prop
abbrev DA := Sd → Mu → (List D → Mu → Prop) → Prop
structure DEnds where
  nx : Sd → Mu → Prop
  rt : DK
  bk : Sd → Mu → Prop := fun _ _ => False
  ct : Sd → Mu → Prop := fun _ _ => False
abbrev DS := DEnds → Sd → Mu → Prop
def LE (K : PySem.W.Frag) (t : TE) (d : DE) : Prop := ∀ s H sd m (Qd : DK) (Q : VK), RS K H sd s → RM K H m → d sd m Qd →
  (∀ v H' dv m', TX H H' → RM K H' m' → Rep K H' dv v → Qd dv m' → Q v H') → t s H Q
def LT (K : PySem.W.Frag) (t : TT) (d : DT) : Prop := ∀ s H sd m (Qd : Bool → Mu → Prop) (Q : Bool → Hp → Prop), RS K H sd s → RM K H m → d sd m Qd →
  (∀ b H' m', TX H H' → RM K H' m' → Qd b m' → Q b H') → t s H Q
def LA (K : PySem.W.Frag) (t : TA) (d : DA) : Prop := ∀ s H sd m (Qd : List D → Mu → Prop) (Q : List V → Hp → Prop), RS K H sd s → RM K H m → d sd m Qd →
  (∀ vs H' ds m', TX H H' → RM K H' m' → RepL K H' ds vs → Qd ds m' → Q vs H') → t s H Q
def LS (K : PySem.W.Frag) (t : TS) (d : DS) : Prop := ∀ s H sd m (Ed : DEnds) (E : Ends), RS K H sd s → RM K H m → d Ed sd m →
  (∀ s' H' sd' m', TX H H' → RS K H' sd' s' → RM K H' m' → Ed.nx sd' m' → E.nx s' H') →
  (∀ v H' dv m', TX H H' → RM K H' m' → Rep K H' dv v → Ed.rt dv m' → E.rt v H') →
  (∀ s' H' sd' m', TX H H' → RS K H' sd' s' → RM K H' m' → Ed.bk sd' m' → E.bk s' H') →
  (∀ s' H' sd' m', TX H H' → RS K H' sd' s' → RM K H' m' → Ed.ct sd' m' → E.ct s' H') → t E s H
def liftE (K : PySem.W.Frag) (d : DE) : TE := fun s H Q => ∃ sd m Qd, RS K H sd s ∧ RM K H m ∧ d sd m Qd ∧ ∀ v H' dv m', TX H H' → RM K H' m' → Rep K H' dv v → Qd dv m' → Q v H'
def liftT (K : PySem.W.Frag) (d : DT) : TT := fun s H Q => ∃ sd m Qd, RS K H sd s ∧ RM K H m ∧ d sd m Qd ∧ ∀ b H' m', TX H H' → RM K H' m' → Qd b m' → Q b H'
theorem liftE_le (K : PySem.W.Frag) (d : DE) : LE K (liftE K d) d := fun s H sd m Qd Q rs rm h k => ⟨sd, m, Qd, rs, rm, h, k⟩
theorem liftT_le (K : PySem.W.Frag) (d : DT) : LT K (liftT K d) d := fun s H sd m Qd Q rs rm h k => ⟨sd, m, Qd, rs, rm, h, k⟩
structure GE (X : Cx) (e : Expr) (d : DE) : Prop where
  mk ::
  pe : PE X e (liftE X.K d)
structure GT (X : Cx) (e : Expr) (d : DT) : Prop where
  mk ::
  pt : PT X e (liftT X.K d)
theorem GE.ex {X : Cx} {e : Expr} {d : DE} (h : GE X e d) : ∃ t, PE X e t ∧ LE X.K t d := ⟨_, h.pe, liftE_le _ _⟩
theorem GT.ex {X : Cx} {e : Expr} {d : DT} (h : GT X e d) : ∃ t, PT X e t ∧ LT X.K t d := ⟨_, h.pt, liftT_le _ _⟩
theorem GE.of {X : Cx} {e : Expr} {d : DE} (h : ∃ t, PE X e t ∧ LE X.K t d) : GE X e d :=
  let ⟨t, p, l⟩ := h
  ⟨⟨fun pz s τ H Q I ⟨sd, m, Qd, rs, rm, hd, k⟩ => p.run pz s τ H Q I (l τ H sd m Qd Q rs rm hd k)⟩⟩
theorem GT.of {X : Cx} {e : Expr} {d : DT} (h : ∃ t, PT X e t ∧ LT X.K t d) : GT X e d :=
  let ⟨t, p, l⟩ := h
  ⟨⟨fun pz s τ H Q I ⟨sd, m, Qd, rs, rm, hd, k⟩ => p.run pz s τ H Q I (l τ H sd m Qd Q rs rm hd k)⟩⟩
structure GW (X : Cx) (e : Expr) (d : DT) : Prop where
  ex : ∃ t, PW X e t ∧ LT X.K t d
structure GA (X : Cx) (es : List Expr) (d : DA) : Prop where
  ex : ∃ t, PA X es t ∧ LA X.K t d
structure GS (X : Cx) (st : Stmt) (d : DS) : Prop where
  ex : ∃ t, PS X st t ∧ LS X.K t d
structure GSs (X : Cx) (st : List Stmt) (d : DS) : Prop where
  ex : ∃ t, PSs X st t ∧ LS X.K t d
theorem GW.gt {X : Cx} {e : Expr} {d : DT} (h : GW X e d) : GT X e d := let ⟨t, p, l⟩ := h.ex; .of ⟨t, p.pt, l⟩
section
variable {X : Cx}
def dVar (i : Nat) : DE := fun s m Q => match s[i]? with | some (some d) => Q d m | _ => False
def dC (d : D) : DE := fun _ m Q => Q d m
theorem gv (i : Nat) {x : Str} {pos : Pos} (hN : X.N[i]? = some x := by rfl) (hv : Vis X.env.scope x := by first | exact Or.inl rfl | exact Or.inr (Or.inl rfl) | exact Or.inr (Or.inr rfl)) (hd : (x == ("__debug__" : Str)) = false := by decide)
    (hcd : (x == ("__classdict__" : Str)) = false := by decide) : GE X (.Name x pos) (dVar i) :=
  .of ⟨_, pv i hN hv hd hcd, fun s H sd m Qd Q rs rm h k => by
    unfold dVar at h
    split at h
    · rename_i d e
      obtain ⟨v, e2, r⟩ := rs.at_ i d e
      exact ⟨v, e2, k v H d m (.refl H) rm r h⟩
    · exact h.elim⟩
theorem ge_c {e : Expr} {v : V} {d : D} (p : PE X e (tC v)) (r : ∀ H, Rep X.K H d v) : GE X e (dC d) :=
  .of ⟨_, p, fun _ H _ m _ _ _ rm h k => k v H d m (.refl H) rm (r H) h⟩
theorem ge_int {i j pos} : GE X (.Constant (.int i) j pos) (dC (.int i)) := ge_c pe_int fun _ => .int i
theorem ge_str {x j pos} : GE X (.Constant (.str x) j pos) (dC (.str x)) := ge_c pe_str fun _ => .str x
theorem ge_bl {b j pos} : GE X (.Constant (.bool b) j pos) (dC (.bl b)) := ge_c pe_bl fun _ => .bl b
theorem ge_non {j pos} : GE X (.Constant .none j pos) (dC .non) := ge_c pe_non fun _ => .non
def dNil : DA := fun _ m Q => Q [] m
def dCons (a : DE) (r : DA) : DA := fun s m Q => a s m fun x m1 => r s m1 fun xs m2 => Q (x :: xs) m2
theorem ga_nil : GA X [] dNil := ⟨_, pa_nil, fun _ H _ m _ _ _ rm h k => k [] H [] m (.refl H) rm .nil h⟩
theorem ga_cons {e : Expr} {es : List Expr} {de : DE} {dr : DA} (ha : GE X e de) (hr : GA X es dr) (hs : starEach (e :: es) X.env = (false, eval e X.env) :: starEach es X.env := by rfl) : GA X (e :: es) (dCons de dr) := by
  obtain ⟨te, p, l⟩ := ha.ex
  obtain ⟨tr, q, l2⟩ := hr.ex
  refine ⟨_, pa_cons p q hs, fun s H sd m Qd Q rs rm h k => ?_⟩
  refine l s H sd m _ _ rs rm h fun v H1 dv m1 t1 rm1 r1 h1 => ?_
  exact l2 s H1 sd m1 _ _ (rs.mono t1) rm1 h1 fun vs H2 ds m2 t2 rm2 r2 h2 => k _ H2 _ m2 (t1.trans t2) rm2 (.cons (r1.mono t2) r2) h2
abbrev D2 := D → D → Mu → DK → Prop
def LR (K : PySem.W.Frag) (r : R2) (d : D2) : Prop := ∀ x y H dx dy m (Qd : DK) (Q : VK), RM K H m → Rep K H dx x → Rep K H dy y → d dx dy m Qd →
  (∀ v H' dv m', TX H H' → RM K H' m' → Rep K H' dv v → Qd dv m' → Q v H') → r x y H Q
def dOp (r : D2) (a b : DE) : DE := fun s m Q => a s m fun x m1 => b s m1 fun y m2 => r x y m2 Q
theorem LE.op {K : PySem.W.Frag} {ta tb : TE} {da db : DE} {r : R2} {d : D2} (l : LE K ta da) (l2 : LE K tb db) (lr : LR K r d) : LE K (tOp r ta tb) (dOp d da db) := fun s H sd m Qd Q rs rm h k => by
  refine l s H sd m _ _ rs rm h fun v H1 dv m1 t1 rm1 r1 h1 => ?_
  refine l2 s H1 sd m1 _ _ (rs.mono t1) rm1 h1 fun w H2 dw m2 t2 rm2 r2 h2 => ?_
  exact lr v w H2 dv dw m2 Qd Q rm2 (r1.mono t2) r2 h2 fun v' H' dv' m' t' a b c => k v' H' dv' m' (t1.trans (t2.trans t')) a b c
theorem ge_op {a b : Expr} {pos : Pos} {da db : DE} {op : Operator} {r : R2} {d : D2} (ho : OpR X (binaryOp op) r) (lr : LR X.K r d) (ha : GE X a da) (hb : GE X b db) : GE X (.BinOp a op b pos) (dOp d da db) := by
  obtain ⟨ta, p, l⟩ := ha.ex
  obtain ⟨tb, q, l2⟩ := hb.ex
  exact .of ⟨_, pe_op ho p q, l.op l2 lr⟩
theorem ge_cmpR {a b : Expr} {pos : Pos} {da db : DE} {op : CmpOp} {r : R2} {d : D2} (ho : OpR X (compareOp op) r) (lr : LR X.K r d) (ha : GE X a da) (hb : GE X b db) (hm : behindInMarks op b = false) : GE X (.Compare a [op] [b] pos) (dOp d da db) := by
  obtain ⟨ta, p, l⟩ := ha.ex
  obtain ⟨tb, q, l2⟩ := hb.ex
  exact .of ⟨_, pe_cmpR ho p q hm, l.op l2 lr⟩
def dTest (a : DE) : DT := fun s m Q => a s m fun x m1 => match x with | .bl b => Q b m1 | _ => False
theorem LE.test {K : PySem.W.Frag} {t : TE} {d : DE} (l : LE K t d) : LT K (tTest t) (dTest d) := fun s H sd m Qd Q rs rm h k => by
  refine l s H sd m _ _ rs rm h fun v H1 dv m1 t1 rm1 r1 h1 => ?_
  cases r1 with
  | bl b => exact ⟨b, rfl, k b H1 m1 t1 rm1 h1⟩
  | _ => exact h1.elim
theorem LE.testB {K : PySem.W.Frag} {t : TE} {d : DE} (l : LE K t d) : LT K (tB t) (dTest d) := fun s H sd m Qd Q rs rm h k => by
  refine l s H sd m _ _ rs rm h fun v H1 dv m1 t1 rm1 r1 h1 => ?_
  cases r1 with
  | bl b => exact ⟨b, rfl, k b H1 m1 t1 rm1 h1⟩
  | _ => exact h1.elim
theorem gt_cmpR {a b : Expr} {pos : Pos} {da db : DE} {op : CmpOp} {r : R2} {d : D2} (ho : OpR X (compareOp op) r) (lr : LR X.K r d) (ha : GE X a da) (hb : GE X b db) (hm : behindInMarks op b = false) : GT X (.Compare a [op] [b] pos) (dTest (dOp d da db)) := by
  obtain ⟨ta, p, l⟩ := ha.ex
  obtain ⟨tb, q, l2⟩ := hb.ex
  exact .of ⟨_, pt_cmpR ho p q hm, (l.op l2 lr).test⟩
theorem gt_val {e : Expr} {d : DE} (h : GE X e d) (he : ∀ whole, isTrue e X.env whole = (do let v ← whole; standAt e.pos; holding [v] (truthy v)) := by intro _; rfl) : GT X e (dTest d) := by
  obtain ⟨t, p, l⟩ := h.ex
  exact .of ⟨_, pt_val p he, l.testB⟩
end
end PD
namespace PD
open PySem PySem.Spec PyProof.Rows L2
def seqOf (m : Mu) : D → Option (List D)
  | .tup ds => some ds
  | .rol ds => some ds
  | .ref a => match m a with | some (.lst ds) => some ds | _ => none
  | _ => none
theorem seq_rep {K : PySem.W.Frag} {H : Hp} {m : Mu} {d : D} {v : V} {ds : List D} (rm : RM K H m) (r : Rep K H d v) (h : seqOf m d = some ds) :
    ∃ a vs, v = .ref a ∧ (SqL K H a vs ∨ SqT K H a vs) ∧ RepL K H ds vs := by
  cases r with
  | tup s q => unfold seqOf at h; cases h; exact ⟨_, _, rfl, .inr s, q⟩
  | rol s q => unfold seqOf at h; cases h; exact ⟨_, _, rfl, .inl s.sq, q⟩
  | ref a =>
    unfold seqOf at h
    cases e : m a with
    | none => simp only [e] at h; cases h
    | some o =>
      have q := rm a o e
      cases o with
      | lst es => simp only [e] at h; cases h; obtain ⟨vs, e2, r⟩ := q; exact ⟨a, vs, rfl, .inl (SqL.of e2), r⟩
      | _ => simp only [e] at h; cases h
  | _ => unfold seqOf at h; cases h
theorem ref_rep {K : PySem.W.Frag} {H : Hp} {m : Mu} {a : Addr} {ds : List D} (rm : RM K H m) (h : seqOf m (.ref a) = some ds) : ∃ vs, SqL K H a vs ∧ RepL K H ds vs := by
  unfold seqOf at h
  cases e : m a with
  | none => simp only [e] at h; cases h
  | some o =>
    have q := rm a o e
    cases o with
    | lst es => simp only [e] at h; cases h; obtain ⟨vs, e2, r⟩ := q; exact ⟨vs, SqL.of e2, r⟩
    | _ => simp only [e] at h; cases h
def lstOf (m : Mu) : D → Option (Addr × List D)
  | .ref a => match m a with | some (.lst ds) => some (a, ds) | _ => none
  | _ => none
theorem lst_rep {K : PySem.W.Frag} {H : Hp} {m : Mu} {d : D} {v : V} {a : Addr} {ds : List D} (rm : RM K H m) (r : Rep K H d v) (h : lstOf m d = some (a, ds)) :
    v = .ref a ∧ d = .ref a ∧ m a = some (.lst ds) ∧ ∃ vs, H a = some (.lst vs) ∧ RepL K H ds vs := by
  cases r with
  | ref b =>
    unfold lstOf at h
    cases e : m b with
    | none => simp only [e] at h; cases h
    | some o =>
      cases o with
      | lst es => simp only [e] at h; cases h; exact ⟨rfl, rfl, e, rm _ _ e⟩
      | _ => simp only [e] at h; cases h
  | _ => unfold lstOf at h; cases h
def flatD : D → Bool
  | .non => true
  | .bl _ => true
  | .int _ => true
  | .str _ => true
  | _ => false
def eqF : D → D → Bool
  | .non, .non => true
  | .bl a, .bl b => a == b
  | .bl a, .int b => (if a then 1 else 0) == b
  | .int a, .bl b => a == (if b then 1 else 0)
  | .int a, .int b => a == b
  | .str a, .str b => a == b
  | _, _ => false
theorem Rep.flat {K : PySem.W.Frag} {H : Hp} {d : D} {v : V} (r : Rep K H d v) (f : flatD d = true) : flatV v = true := by
  cases r <;> first | rfl | exact absurd f Bool.false_ne_true
theorem Rep.eqF {K : PySem.W.Frag} {H : Hp} {d e : D} {v u : V} (r : Rep K H d v) (q : Rep K H e u) (f : flatD d = true) (g : flatD e = true) : eqV v u = eqF d e := by
  cases r <;> first | exact absurd f Bool.false_ne_true | (cases q <;> first | exact absurd g Bool.false_ne_true | rfl)
theorem RepL.flat {K : PySem.W.Frag} {H : Hp} : ∀ {ds : List D} {vs : List V}, RepL K H ds vs → ds.all flatD = true → vs.all flatV = true
  | _, _, .nil, _ => rfl
  | _, _, .cons a b, f => by
    rw [List.all_cons, Bool.and_eq_true] at f
    rw [List.all_cons, a.flat f.1, RepL.flat b f.2]; rfl
theorem RepL.inV {K : PySem.W.Frag} {H : Hp} {d : D} {v : V} (r : Rep K H d v) (f : flatD d = true) : ∀ {ds : List D} {vs : List V}, RepL K H ds vs → ds.all flatD = true → inV v vs = ds.any fun y => PD.eqF y d
  | _, _, .nil, _ => rfl
  | _, _, .cons a b, g => by
    rw [List.all_cons, Bool.and_eq_true] at g
    have := RepL.inV r f b g.2
    unfold L2.inV at this ⊢
    rw [List.any_cons, List.any_cons, this, a.eqF r g.1 f]
mutual
def toP : D → Option PyData
  | .non => some .none
  | .bl b => some (.bool b)
  | .int i => some (.int i)
  | .str x => some (.str x)
  | .tup ds => (toPs ds).map .tuple
  | .ref _ => none
  | .rol ds => (toPs ds).map .list
  | .dic _ _ => none
  | .dicT _ _ => none
  | .obj _ _ _ => none
def toPs : List D → Option (List PyData)
  | [] => some []
  | d :: ds => match toP d, toPs ds with | some p, some ps => some (p :: ps) | _, _ => none
end
mutual
theorem Rep.dp {K : PySem.W.Frag} {H : Hp} : ∀ {d : D} {v : V} {p : PyData}, Rep K H d v → toP d = some p → Dp K H v p
  | _, _, _, .non, h => by unfold toP at h; cases h; exact .non
  | _, _, _, .bl b, h => by unfold toP at h; cases h; exact .bl b
  | _, _, _, .int i, h => by unfold toP at h; cases h; exact .int i
  | _, _, _, .str x, h => by unfold toP at h; cases h; exact .str x
  | _, _, _, .ref a, h => by unfold toP at h; cases h
  | .dic _ _, _, _, .dic _ _ _, h => by unfold toP at h; cases h
  | .dicT _ _, _, _, .dicT _ _ _, h => by unfold toP at h; cases h
  | .obj _ _ _, _, _, .obj _ _ _, h => by unfold toP at h; cases h
  | .rol ds, _, _, .rol s r, h => by
    unfold toP at h
    cases e : toPs ds with
    | none => rw [e] at h; cases h
    | some ps => rw [e] at h; cases h; exact .lst s.sq (RepL.dp r e)
  | .tup ds, _, _, .tup s r, h => by
    unfold toP at h
    cases e : toPs ds with
    | none => rw [e] at h; cases h
    | some ps => rw [e] at h; cases h; exact .tup s (RepL.dp r e)
theorem RepL.dp {K : PySem.W.Frag} {H : Hp} : ∀ {ds : List D} {vs : List V} {ps : List PyData}, RepL K H ds vs → toPs ds = some ps → DpAll K H vs ps
  | _, _, _, .nil, h => by unfold toPs at h; cases h; exact .nil
  | d :: ds, _, _, .cons a b, h => by
    unfold toPs at h
    cases e : toP d with
    | none => rw [e] at h; cases h
    | some p =>
      cases e2 : toPs ds with
      | none => rw [e, e2] at h; cases h
      | some ps => rw [e, e2] at h; cases h; exact .cons (Rep.dp a e) (RepL.dp b e2)
end
def toPm (m : Mu) : D → Option PyData
  | .ref a => match m a with | some (.lst ds) => (toPs ds).map .list | _ => none
  | d => toP d
theorem dpm {K : PySem.W.Frag} {H : Hp} {m : Mu} {d : D} {v : V} {p : PyData} (rm : RM K H m) (r : Rep K H d v) (h : toPm m d = some p) : Dp K H v p := by
  cases r with
  | ref a =>
    unfold toPm at h
    cases e : m a with
    | none => simp only [e] at h; cases h
    | some o =>
      have q := rm a o e
      cases o with
      | lst es =>
        simp only [e] at h
        obtain ⟨vs, e2, r⟩ := q
        cases e3 : toPs es with
        | none => rw [e3] at h; cases h
        | some ps => rw [e3] at h; cases h; exact .lst (SqL.of e2) (r.dp e3)
      | _ => simp only [e] at h; cases h
  | rol s r => exact Rep.dp (.rol s r) h
  | dic e n r => exact Rep.dp (.dic e n r) h
  | dicT e n r => exact Rep.dp (.dicT e n r) h
  | obj e n r => exact Rep.dp (.obj e n r) h
  | tup s r => exact Rep.dp (.tup s r) h
  | non => exact Rep.dp .non h
  | bl b => exact Rep.dp (.bl b) h
  | int i => exact Rep.dp (.int i) h
  | str x => exact Rep.dp (.str x) h
def isSeq (m : Mu) (d : D) : Bool := (seqOf m d).isSome
def eqK (m : Mu) (x y : D) : Option Bool :=
  if flatD x && flatD y then some (eqF x y)
  else if flatD x then (if isSeq m y then some false else none)
  else if flatD y then (if isSeq m x then some false else none)
  else match toPm m x, toPm m y with
    | some p, some q => if SeqAt.shaped p && SeqAt.shaped q then some (PyData.eqv p q) else none
    | _, _ => none
inductive EqS (K : PySem.W.Frag) (H : Hp) : V → V → Bool → Prop
  | flat {x y : V} : flatV x = true → flatV y = true → EqS K H x y (eqV x y)
  | fs {x : V} {a : Addr} {vs : List V} : flatV x = true → (SqL K H a vs ∨ SqT K H a vs) → EqS K H x (.ref a) false
  | sf {y : V} {a : Addr} {vs : List V} : flatV y = true → (SqL K H a vs ∨ SqT K H a vs) → EqS K H (.ref a) y false
  | dat {x y : V} {d e : PyData} : Dp K H x d → Dp K H y e → SeqAt.shaped d = true → SeqAt.shaped e = true → EqS K H x y (PyData.eqv d e)
theorem eqs_of {K : PySem.W.Frag} {H : Hp} {m : Mu} {dx dy : D} {x y : V} {b : Bool} (rm : RM K H m) (rx : Rep K H dx x) (ry : Rep K H dy y) (h : eqK m dx dy = some b) : EqS K H x y b := by
  unfold eqK at h
  split at h
  · rename_i c
    rw [Bool.and_eq_true] at c
    cases h
    rw [← rx.eqF ry c.1 c.2]
    exact .flat (rx.flat c.1) (ry.flat c.2)
  · split at h
    · rename_i c
      split at h
      · rename_i e
        cases h
        obtain ⟨ds, e2⟩ := Option.isSome_iff_exists.mp e
        obtain ⟨a, vs, rfl, s, _⟩ := seq_rep rm ry e2
        exact .fs (rx.flat c) s
      · cases h
    · split at h
      · rename_i c
        split at h
        · rename_i e
          cases h
          obtain ⟨ds, e2⟩ := Option.isSome_iff_exists.mp e
          obtain ⟨a, vs, rfl, s, _⟩ := seq_rep rm rx e2
          exact .sf (ry.flat c) s
        · cases h
      · split at h
        · rename_i p q e1 e2
          split at h
          · rename_i c
            rw [Bool.and_eq_true] at c
            cases h
            exact .dat (dpm rm rx e1) (dpm rm ry e2) c.1 c.2
          · cases h
        · cases h
section
variable {X : Cx}
theorem eqv_flat {A : Around} {s : Shared} {x y : V} {u v : Value} (rx : RelV x u) (ry : RelV y v) (fx : flatV x = true) (fy : flatV y = true) : SeqAt.RcAt A s u v (eqV x y) ∧ SeqAt.RcNeAt A s u v (!(eqV x y)) := by
  cases x with
  | non =>
    cases rx
    cases y with
    | non => cases ry; exact ⟨SeqAt.RcAt.none_none, SeqAt.RcNeAt.none_none⟩
    | bl b => cases ry; exact ⟨SeqAt.RcAt.none_bool b, SeqAt.RcNeAt.none_bool b⟩
    | int b => obtain ⟨t, rfl⟩ := ry; exact ⟨SeqAt.RcAt.none_int b t, SeqAt.RcNeAt.none_int b t⟩
    | str b => obtain ⟨t, rfl⟩ := ry; exact ⟨SeqAt.RcAt.none_str b t, SeqAt.RcNeAt.none_str b t⟩
    | _ => exact absurd fy Bool.false_ne_true
  | bl a =>
    cases rx
    cases y with
    | non => cases ry; exact ⟨SeqAt.RcAt.bool_none a, SeqAt.RcNeAt.bool_none a⟩
    | bl b => cases ry; exact ⟨SeqAt.RcAt.bool_bool a b, SeqAt.RcNeAt.bool_bool a b⟩
    | int b => obtain ⟨t, rfl⟩ := ry; exact ⟨SeqAt.RcAt.bool_int a b t, SeqAt.RcNeAt.bool_int a b t⟩
    | str b => obtain ⟨t, rfl⟩ := ry; exact ⟨SeqAt.RcAt.bool_str a b t, SeqAt.RcNeAt.bool_str a b t⟩
    | _ => exact absurd fy Bool.false_ne_true
  | int a =>
    obtain ⟨t', rfl⟩ := rx
    cases y with
    | non => cases ry; exact ⟨SeqAt.RcAt.int_none a t', SeqAt.RcNeAt.int_none a t'⟩
    | bl b => cases ry; exact ⟨SeqAt.RcAt.int_bool a t' b, SeqAt.RcNeAt.int_bool a t' b⟩
    | int b => obtain ⟨t, rfl⟩ := ry; exact ⟨SeqAt.RcAt.int_int a t' b t, SeqAt.RcNeAt.int_int a t' b t⟩
    | str b => obtain ⟨t, rfl⟩ := ry; exact ⟨SeqAt.RcAt.int_str a t' b t, SeqAt.RcNeAt.int_str a t' b t⟩
    | _ => exact absurd fy Bool.false_ne_true
  | str a =>
    obtain ⟨t', rfl⟩ := rx
    cases y with
    | non => cases ry; exact ⟨SeqAt.RcAt.str_none a t', SeqAt.RcNeAt.str_none a t'⟩
    | bl b => cases ry; exact ⟨SeqAt.RcAt.str_bool a t' b, SeqAt.RcNeAt.str_bool a t' b⟩
    | int b => obtain ⟨t, rfl⟩ := ry; exact ⟨SeqAt.RcAt.str_int a t' b t, SeqAt.RcNeAt.str_int a t' b t⟩
    | str b => obtain ⟨t, rfl⟩ := ry; exact ⟨SeqAt.RcAt.str_str a t' b t, SeqAt.RcNeAt.str_str a t' b t⟩
    | _ => exact absurd fy Bool.false_ne_true
  | _ => exact absurd fx Bool.false_ne_true
theorem rc_fs {A : Around} {s : Shared} {x : V} {u : Value} {a : Addr} {items : Array Value} (rx : RelV x u) (fx : flatV x = true) (h : s.heap.IsList a items ∨ s.heap.IsTuple a items) (hu : A.units < cLine) :
    (SeqAt.RcAt A s u (.ref a) false ∧ SeqAt.RcNeAt A s u (.ref a) true) ∧ SeqAt.RcAt A s (.ref a) u false ∧ SeqAt.RcNeAt A s (.ref a) u true := by
  rcases h with h | h
  · cases x with
    | non => cases rx; exact ⟨⟨SeqAt.RcAt.none_list h hu, SeqAt.RcNeAt.none_list h hu⟩, SeqAt.RcAt.list_none h hu, SeqAt.RcNeAt.list_none h hu⟩
    | bl b => cases rx; exact ⟨⟨SeqAt.RcAt.bool_list b h hu, SeqAt.RcNeAt.bool_list b h hu⟩, SeqAt.RcAt.list_bool b h hu, SeqAt.RcNeAt.list_bool b h hu⟩
    | int b => obtain ⟨t, rfl⟩ := rx; exact ⟨⟨SeqAt.RcAt.int_list b t h hu, SeqAt.RcNeAt.int_list b t h hu⟩, SeqAt.RcAt.list_int b t h hu, SeqAt.RcNeAt.list_int b t h hu⟩
    | str b => obtain ⟨t, rfl⟩ := rx; exact ⟨⟨SeqAt.RcAt.str_list b t h hu, SeqAt.RcNeAt.str_list b t h hu⟩, SeqAt.RcAt.list_str b t h hu, SeqAt.RcNeAt.list_str b t h hu⟩
    | _ => exact absurd fx Bool.false_ne_true
  · cases x with
    | non => cases rx; exact ⟨⟨SeqAt.RcAt.none_tuple h hu, SeqAt.RcNeAt.none_tuple h hu⟩, SeqAt.RcAt.tuple_none h hu, SeqAt.RcNeAt.tuple_none h hu⟩
    | bl b => cases rx; exact ⟨⟨SeqAt.RcAt.bool_tuple b h hu, SeqAt.RcNeAt.bool_tuple b h hu⟩, SeqAt.RcAt.tuple_bool b h hu, SeqAt.RcNeAt.tuple_bool b h hu⟩
    | int b => obtain ⟨t, rfl⟩ := rx; exact ⟨⟨SeqAt.RcAt.int_tuple b t h hu, SeqAt.RcNeAt.int_tuple b t h hu⟩, SeqAt.RcAt.tuple_int b t h hu, SeqAt.RcNeAt.tuple_int b t h hu⟩
    | str b => obtain ⟨t, rfl⟩ := rx; exact ⟨⟨SeqAt.RcAt.str_tuple b t h hu, SeqAt.RcNeAt.str_tuple b t h hu⟩, SeqAt.RcAt.tuple_str b t h hu, SeqAt.RcNeAt.tuple_str b t h hu⟩
    | _ => exact absurd fx Bool.false_ne_true
theorem seq_is {pz : List (Addr × Obj)} {τ : L2.St} {H : Hp} {s : Shared} {a : Addr} {vs : List V} (I : Inv X pz τ H s) (h : SqL X.K H a vs ∨ SqT X.K H a vs) : ∃ items, s.heap.IsList a items ∨ s.heap.IsTuple a items := by
  rcases h with h | h
  · obtain ⟨xs9, _, p, _⟩ := I.list h
    exact ⟨_, .inl p.isList⟩
  · obtain ⟨xs9, _, p, _⟩ := I.tuple h
    exact ⟨_, .inr p⟩
theorem eqs_run {pz : List (Addr × Obj)} {τ : L2.St} {H : Hp} {s : Shared} {x y : V} {u v : Value} {b : Bool} (I : Inv X pz τ H s) (hu : X.A.units + 64 < cLine) (rx : RelV x u) (ry : RelV y v) (h : EqS X.K H x y b) :
    SeqAt.RcAt X.A s u v b ∧ SeqAt.RcNeAt X.A s u v (!b) := by
  cases h with
  | flat f g => exact eqv_flat rx ry f g
  | fs f q =>
    cases ry
    obtain ⟨items, h⟩ := seq_is I q
    exact (rc_fs rx f h (by omega)).1
  | sf f q =>
    cases rx
    obtain ⟨items, h⟩ := seq_is I q
    exact (rc_fs ry f h (by omega)).2
  | dat p q tA tB =>
    obtain ⟨as, r1⟩ := Dp.reads I _ _ u p rx
    obtain ⟨bs, r2⟩ := Dp.reads I _ _ v q ry
    exact ⟨SeqAt.rcAt_reads r1 r2 (SeqAt.canLay_of_shaped tA) (SeqAt.canLay_of_shaped tB) (SeqAt.room_of_shaped tA hu), SeqAt.rcNeAt_reads r1 r2 (SeqAt.canLay_of_shaped tA) (SeqAt.canLay_of_shaped tB) (SeqAt.room_of_shaped tA hu)⟩
def rEqS (K : PySem.W.Frag) : R2 := fun x y H Q => ∃ b, EqS K H x y b ∧ Q (.bl b) H
def rNeS (K : PySem.W.Frag) : R2 := fun x y H Q => ∃ b, EqS K H x y b ∧ Q (.bl (!b)) H
theorem op_eqS (hu : X.A.units + 64 < cLine) : OpR X (compareOp .Eq) (rEqS X.K) := fun pz s τ H x y v u Q I rx ry ⟨b, h, q⟩ => (eqs_run I hu rx ry h).1 X.prog X.w _ _ ⟨.bl b, H, I, rfl, q⟩
theorem op_neS (hu : X.A.units + 64 < cLine) : OpR X (compareOp .NotEq) (rNeS X.K) := fun pz s τ H x y v u Q I rx ry ⟨b, h, q⟩ => (eqs_run I hu rx ry h).2 X.prog X.w _ _ ⟨.bl (!b), H, I, rfl, q⟩
def dEq : D2 := fun x y m Q => ∃ b, eqK m x y = some b ∧ Q (.bl b) m
def dNe : D2 := fun x y m Q => ∃ b, eqK m x y = some b ∧ Q (.bl (!b)) m
theorem lr_eq {K : PySem.W.Frag} : LR K (rEqS K) dEq := fun x y H dx dy m Qd Q rm rx ry ⟨b, h, q⟩ k => ⟨b, eqs_of rm rx ry h, k _ H _ m (.refl H) rm (.bl b) q⟩
theorem lr_ne {K : PySem.W.Frag} : LR K (rNeS K) dNe := fun x y H dx dy m Qd Q rm rx ry ⟨b, h, q⟩ k => ⟨b, eqs_of rm rx ry h, k _ H _ m (.refl H) rm (.bl _) q⟩
end
end PD
namespace PD
open PySem PySem.Spec PyProof.Rows L2
section
variable {X : Cx}
def dAdd : D2 := fun x y m Q => match x, y with
  | .int i, .int j => Q (.int (i + j)) m
  | .str i, .str j => i.length + j.length ≤ sizeLine ∧ Q (.str (i ++ j)) m
  | .tup a, .tup b => a.length + b.length ≤ sizeLine ∧ Q (.tup (a ++ b)) m
  | .ref a, .ref b => ∃ xs ys, m a = some (.lst xs) ∧ m b = some (.lst ys) ∧ xs.length + ys.length ≤ sizeLine ∧ ∀ p, m p = none → Q (.ref p) (mset m p (.lst (xs ++ ys)))
  | _, _ => False
def rAddU (K : PySem.W.Frag) : R2 := fun x y H Q => rI0 (fun i j => .int (i + j)) x y H Q ∨ (∃ i j, x = .str i ∧ y = .str j ∧ i.length + j.length ≤ sizeLine ∧ Q (.str (i ++ j)) H) ∨ rCatA K x y H Q ∨ rCat x y H Q
theorem op_addU : OpR X (binaryOp .Add) (rAddU X.K) := op_add.or (op_add_str.or (op_catA.or op_cat))
theorem lr_add {K : PySem.W.Frag} : LR K (rAddU K) dAdd := fun x y H dx dy m Qd Q rm rx ry h k => by
  cases rx with
  | int i =>
    cases ry with
    | int j => exact .inl ⟨i, j, rfl, rfl, k _ H _ m (.refl H) rm (.int _) h⟩
    | _ => exact h.elim
  | str i =>
    cases ry with
    | str j => exact .inr (.inl ⟨i, j, rfl, rfl, h.1, k _ H _ m (.refl H) rm (.str _) h.2⟩)
    | _ => exact h.elim
  | @tup ds a vs sa ra =>
    cases ry with
    | @tup es b ws sb rb =>
      obtain ⟨hs9, h⟩ := h
      refine .inr (.inr (.inl ⟨a, b, vs, ws, rfl, rfl, sa, sb, by rw [← ra.length, ← rb.length]; exact hs9, fun e => ?_, fun e1 e2 => ?_, fun e1 e2 p hp => ?_⟩))
      · have : ds = [] := ra.nil_iff.mpr e
        subst this
        exact k _ H _ m (.refl H) rm (.tup sb rb) h
      · have : es = [] := rb.nil_iff.mpr e2
        subst this
        rw [List.append_nil] at h
        exact k _ H _ m (.refl H) rm (.tup sa ra) h
      · exact k _ _ _ m (.new hp) (rm.skip hp) (.tup upd_same ((ra.append rb).mono (.new hp))) h
    | _ => exact h.elim
  | ref a =>
    cases ry with
    | ref b =>
      obtain ⟨xs, ys, h1, h2, hs9, h⟩ := h
      obtain ⟨vs, e1, r1⟩ := rm _ _ h1
      obtain ⟨ws, e2, r2⟩ := rm _ _ h2
      exact .inr (.inr (.inr ⟨a, b, vs, ws, rfl, rfl, e1, e2, by rw [← r1.length, ← r2.length]; exact hs9, fun p hp => k _ _ _ _ (.new hp) (rm.newL hp (r1.append r2)) (.ref p) (h p (rm.fresh hp))⟩))
    | _ => exact h.elim
  | _ => exact h.elim
def dInt2 (C : Int → Int → Prop) (g : Int → Int → Int) : D2 := fun x y m Q => match x, y with
  | .int i, .int j => C i j ∧ Q (.int (g i j)) m
  | _, _ => False
theorem lr_int2 {K : PySem.W.Frag} {C : Int → Int → Prop} {g : Int → Int → Int} : LR K (rI C fun i j => .int (g i j)) (dInt2 C g) := fun x y H dx dy m Qd Q rm rx ry h k => by
  cases rx with
  | int i =>
    cases ry with
    | int j => exact ⟨i, j, rfl, rfl, h.1, k _ H _ m (.refl H) rm (.int _) h.2⟩
    | _ => exact h.elim
  | _ => exact h.elim
def dSub : D2 := fun x y m Q => match x, y with
  | .int i, .int j => Q (.int (i - j)) m
  | _, _ => False
theorem lr_sub {K : PySem.W.Frag} : LR K (rI0 fun i j => .int (i - j)) dSub := fun x y H dx dy m Qd Q rm rx ry h k => by
  cases rx with
  | int i =>
    cases ry with
    | int j => exact ⟨i, j, rfl, rfl, k _ H _ m (.refl H) rm (.int _) h⟩
    | _ => exact h.elim
  | _ => exact h.elim
def repS (x : Str) (n : Nat) : Str := ⟨(List.replicate n x.cps).foldl (· ++ ·) #[]⟩
def rMulS : R2 := fun x y H Q => ∃ z n, x = .str z ∧ y = .int n ∧ 0 ≤ n ∧ n ≤ 1000 ∧ z.length ≤ 1000 ∧ Q (.str (repS z n.toNat)) H
theorem repS_one (x : Str) : repS x 1 = x := by
  unfold repS
  show (⟨#[] ++ x.cps⟩ : Str) = x
  rw [Array.empty_append]
theorem repS_nil (x : Str) (h : x.length = 0) : ∀ n, repS x n = x
  | 0 => by
    have e : x.cps = #[] := Array.size_eq_zero_iff.mp h
    show (⟨#[]⟩ : Str) = x
    rw [← e]
  | n + 1 => by
    have e : x.cps = #[] := Array.size_eq_zero_iff.mp h
    have ih := repS_nil x h n
    unfold repS at ih ⊢
    rw [List.replicate_succ, List.foldl_cons, e, Array.append_empty]
    rw [e] at ih
    exact ih
theorem rep_size (c : Array Nat) : ∀ (n : Nat) (acc : Array Nat), ((List.replicate n c).foldl (· ++ ·) acc).size = acc.size + n * c.size
  | 0, acc => by rw [Nat.zero_mul]; rfl
  | n + 1, acc => by
    rw [List.replicate_succ, List.foldl_cons, rep_size c n (acc ++ c), Array.size_append, Nat.succ_mul]
    omega
theorem repS_len (x : Str) (n : Nat) : (repS x n).length = n * x.length := by
  show ((List.replicate n x.cps).foldl (· ++ ·) #[]).size = _
  rw [rep_size]
  show 0 + n * x.cps.size = n * x.cps.size
  omega
theorem op_mulS : OpR X (binaryOp .Mult) rMulS := by
  intro pz s τ H x y v u Q I rx ry h
  obtain ⟨z, n, rfl, rfl, h0, h1, hs9, q⟩ := h
  obtain ⟨t, rfl⟩ := rx
  obtain ⟨t', rfl⟩ := ry
  have le9 : z.length * n.toNat ≤ 1000000 := Nat.mul_le_mul hs9 (show n.toNat ≤ 1000 by omega)
  refine PySem.P.mul_str ?_ ?_ ?_ ?_
  · rw [decide_eq_false (by omega), decide_eq_false (by omega)]; rfl
  · intro g _ hgt
    have g2 : (1000 : Int) ≤ (2 ^ 63 - 1) / n := by
      rw [Int.le_ediv_iff_mul_le (by omega)]
      omega
    omega
  · intro _ _
    unfold Builtin.Str.tooLong
    rw [decide_eq_false]
    rw [sizeLine_eq]
    omega
  · by_cases h2 : n < 1
    · rw [if_pos h2]
      have e : n.toNat = 0 := by omega
      rw [e] at q
      exact ⟨by decide, .str _, H, I.tok _, ⟨_, rfl⟩, q⟩
    · rw [if_neg h2]
      by_cases h3 : (n == 1 || z.length == 0) = true
      · rw [if_pos h3]
        have e : repS z n.toNat = z := by
          rw [Bool.or_eq_true, beq_iff_eq, beq_iff_eq] at h3
          rcases h3 with e | e
          · subst e; exact repS_one z
          · exact repS_nil z e _
        rw [e] at q
        exact ⟨.str _, H, I, ⟨_, rfl⟩, q⟩
      · rw [if_neg h3]
        refine ⟨?_, .str _, H, I.tok _, ⟨_, rfl⟩, q⟩
        show (repS z n.toNat).length ≤ sizeLine
        rw [repS_len, sizeLine_eq, Nat.mul_comm]
        omega
def rMulU : R2 := fun x y H Q => rI CMul (fun i j => .int (i * j)) x y H Q ∨ rMulS x y H Q
theorem op_mulU : OpR X (binaryOp .Mult) rMulU := op_mul.or op_mulS
end
end PD
namespace PD
open PySem PySem.Spec PyProof.Rows L2
section
variable {X : Cx}
def LU (K : PySem.W.Frag) (r : V → Hp → VK → Prop) (d : D → Mu → DK → Prop) : Prop := ∀ x H dx m (Qd : DK) (Q : VK), RM K H m → Rep K H dx x → d dx m Qd →
  (∀ v H' dv m', TX H H' → RM K H' m' → Rep K H' dv v → Qd dv m' → Q v H') → r x H Q
def dUn (r : D → Mu → DK → Prop) (a : DE) : DE := fun s m Q => a s m fun x m1 => r x m1 Q
theorem ge_un {a : Expr} {pos : Pos} {da : DE} {op : UnaryOp} {r : V → Hp → VK → Prop} {d : D → Mu → DK → Prop} (ho : UnR X (unaryOp op) r) (lr : LU X.K r d) (ha : GE X a da) : GE X (.UnaryOp op a pos) (dUn d da) := by
  obtain ⟨ta, p, l⟩ := ha.ex
  refine .of ⟨_, pe_un ho p, fun s H sd m Qd Q rs rm h k => ?_⟩
  refine l s H sd m _ _ rs rm h fun v H1 dv m1 t1 rm1 r1 h1 => ?_
  exact lr v H1 dv m1 Qd Q rm1 r1 h1 fun v' H' dv' m' t' a b c => k v' H' dv' m' (t1.trans t') a b c
def dNeg : D → Mu → DK → Prop := fun x m Q => match x with | .int i => Q (.int (-i)) m | _ => False
theorem lu_neg {K : PySem.W.Frag} : LU K (rU fun i => .int (-i)) dNeg := fun x H dx m Qd Q rm rx h k => by
  cases rx with
  | int i => exact ⟨i, rfl, k _ H _ m (.refl H) rm (.int _) h⟩
  | _ => exact h.elim
def dCmp (g : Int → Int → Bool) : D2 := fun x y m Q => match x, y with
  | .int i, .int j => Q (.bl (g i j)) m
  | _, _ => False
theorem lr_cmp {K : PySem.W.Frag} {g : Int → Int → Bool} : LR K (rI0 fun i j => .bl (g i j)) (dCmp g) := fun x y H dx dy m Qd Q rm rx ry h k => by
  cases rx with
  | int i =>
    cases ry with
    | int j => exact ⟨i, j, rfl, rfl, k _ H _ m (.refl H) rm (.bl _) h⟩
    | _ => exact h.elim
  | _ => exact h.elim
def isNon : D → Bool
  | .non => true
  | _ => false
def dIsN : D2 := fun x y m Q => match y with | .non => Q (.bl (isNon x)) m | _ => False
def dNotN : D2 := fun x y m Q => match y with | .non => Q (.bl (!isNon x)) m | _ => False
theorem Rep.isNon {K : PySem.W.Frag} {H : Hp} {d : D} {v : V} (r : Rep K H d v) : decide (v = .non) = isNon d := by
  cases r <;> first | rfl | exact decide_eq_false (fun z => nomatch z)
theorem lr_isN {K : PySem.W.Frag} : LR K (fun x y H Q => y = .non ∧ Q (.bl (decide (x = .non))) H) dIsN := fun x y H dx dy m Qd Q rm rx ry h k => by
  cases ry with
  | non => exact ⟨rfl, k _ H _ m (.refl H) rm (by rw [rx.isNon]; exact .bl _) h⟩
  | _ => exact h.elim
def inF (x : D) (ds : List D) : Bool := ds.any fun y => eqF y x
def dInG (f : Bool → Bool) : D2 := fun x y m Q => match y with
  | .str z => match x with
    | .str w => Q (.bl (f (!(Builtin.Str.occurrences z w 0 z.length 1).isEmpty))) m
    | _ => False
  | y => ∃ ds, seqOf m y = some ds ∧ flatD x = true ∧ ds.all flatD = true ∧ Q (.bl (f (inF x ds))) m
abbrev dIn : D2 := dInG fun b => b
abbrev dNotIn : D2 := dInG fun b => !b
def rInU (K : PySem.W.Frag) : R2 := fun x y H Q => (∃ i j, x = .str i ∧ y = .str j ∧ Q (.bl (!(Builtin.Str.occurrences j i 0 j.length 1).isEmpty)) H) ∨ rIn K false x y H Q
def rNotInU (K : PySem.W.Frag) : R2 := fun x y H Q => (∃ i j, x = .str i ∧ y = .str j ∧ Q (.bl (!(!(Builtin.Str.occurrences j i 0 j.length 1).isEmpty))) H) ∨ rIn K true x y H Q
theorem op_inU : OpR X (compareOp .In) (rInU X.K) := op_in_str.or op_in_seq
theorem op_notInU : OpR X (compareOp .NotIn) (rNotInU X.K) := op_notIn_str.or op_notIn_seq
theorem in_seq {K : PySem.W.Frag} {f : Bool → Bool} {neg : Bool} (hf : ∀ b, f b = if neg then !b else b) {x y : V} {H : Hp} {dx dy : D} {m : Mu} {Qd : DK} {Q : VK} (rm : RM K H m) (rx : Rep K H dx x) (ry : Rep K H dy y)
    (h : ∃ ds, seqOf m dy = some ds ∧ flatD dx = true ∧ ds.all flatD = true ∧ Qd (.bl (f (inF dx ds))) m)
    (k : ∀ v H' dv m', TX H H' → RM K H' m' → Rep K H' dv v → Qd dv m' → Q v H') : rIn K neg x y H Q := by
  obtain ⟨ds, e, fx, g, q⟩ := h
  obtain ⟨a, vs, rfl, s, r⟩ := seq_rep rm ry e
  refine ⟨a, vs, rfl, s, rx.flat fx, r.flat g, ?_⟩
  rw [RepL.inV rx fx r g, ← hf]
  exact k _ H _ m (.refl H) rm (.bl _) q
theorem lr_in {K : PySem.W.Frag} : LR K (rInU K) dIn := fun x y H dx dy m Qd Q rm rx ry h k => by
  have hf : ∀ b : Bool, (fun b : Bool => b) b = if false then !b else b := fun b => rfl
  cases ry with
  | str z =>
    cases rx with
    | str w => exact .inl ⟨w, z, rfl, rfl, k _ H _ m (.refl H) rm (.bl _) h⟩
    | _ => exact h.elim
  | ref a => exact .inr (in_seq hf rm rx (.ref a) h k)
  | tup s r => exact .inr (in_seq hf rm rx (.tup s r) h k)
  | rol s r => exact .inr (in_seq hf rm rx (.rol s r) h k)
  | dic e n r => exact .inr (in_seq hf rm rx (.dic e n r) h k)
  | dicT e n r => exact .inr (in_seq hf rm rx (.dicT e n r) h k)
  | obj e n r => exact .inr (in_seq hf rm rx (.obj e n r) h k)
  | non => exact .inr (in_seq hf rm rx .non h k)
  | bl b => exact .inr (in_seq hf rm rx (.bl b) h k)
  | int b => exact .inr (in_seq hf rm rx (.int b) h k)
theorem lr_notIn {K : PySem.W.Frag} : LR K (rNotInU K) dNotIn := fun x y H dx dy m Qd Q rm rx ry h k => by
  have hf : ∀ b : Bool, (fun b : Bool => !b) b = if true then !b else b := fun b => rfl
  cases ry with
  | str z =>
    cases rx with
    | str w => exact .inl ⟨w, z, rfl, rfl, k _ H _ m (.refl H) rm (.bl _) h⟩
    | _ => exact h.elim
  | ref a => exact .inr (in_seq hf rm rx (.ref a) h k)
  | tup s r => exact .inr (in_seq hf rm rx (.tup s r) h k)
  | rol s r => exact .inr (in_seq hf rm rx (.rol s r) h k)
  | dic e n r => exact .inr (in_seq hf rm rx (.dic e n r) h k)
  | dicT e n r => exact .inr (in_seq hf rm rx (.dicT e n r) h k)
  | obj e n r => exact .inr (in_seq hf rm rx (.obj e n r) h k)
  | non => exact .inr (in_seq hf rm rx .non h k)
  | bl b => exact .inr (in_seq hf rm rx (.bl b) h k)
  | int b => exact .inr (in_seq hf rm rx (.int b) h k)
def dIx : D2 := fun x y m Q => match x with
  | .str z => match y with
    | .int i => z.length ≤ sizeLine ∧ ∃ c, atI z.cps.toList i = some c ∧ Q (.str ⟨#[c]⟩) m
    | _ => False
  | x => match y with
    | .int i => ∃ ds, seqOf m x = some ds ∧ ∃ d, atI ds i = some d ∧ Q d m
    | _ => False
theorem RepL.atI {K : PySem.W.Frag} {H : Hp} {ds : List D} {vs : List V} {i : Int} {d : D} (r : RepL K H ds vs) (h : L2.atI ds i = some d) : ∃ v, L2.atI vs i = some v ∧ Rep K H d v := by
  unfold L2.atI at h ⊢
  rw [← r.length]
  cases e : ixN ds.length i with
  | none => rw [e] at h; cases h
  | some j => rw [e] at h; exact r.get h
theorem ge_ix {a b : Expr} {pos : Pos} {da db : DE} (ha : GE X a da) (hb : GE X b db) (hs : PlainIx b := by exact fun _ _ => rfl) : GE X (.Subscript a b pos) (dOp dIx da db) := by
  obtain ⟨ta, p, l⟩ := ha.ex
  obtain ⟨tb, q, l2⟩ := hb.ex
  refine .of ⟨_, pe_ix ix_seq p q hs, l.op l2 fun x y H dx dy m Qd Q rm rx ry h k => ?_⟩
  have go : ∀ {dx : D} {i : Int}, Rep X.K H dx x → (∃ ds, seqOf m dx = some ds ∧ ∃ d, L2.atI ds i = some d ∧ Qd d m) → rIx X.K x (.int i) H Q := fun {dx i} rx h => by
    obtain ⟨ds, e, d, e2, q⟩ := h
    obtain ⟨a, vs, rfl, s, r⟩ := seq_rep rm rx e
    obtain ⟨v, e3, ra9⟩ := r.atI e2
    rcases s with s | s
    · exact .inl ⟨a, vs, i, v, rfl, rfl, s, e3, k v H d m (.refl H) rm ra9 q⟩
    · exact .inr (.inl ⟨a, vs, i, v, rfl, rfl, s, e3, k v H d m (.refl H) rm ra9 q⟩)
  cases ry with
  | int i =>
    cases rx with
    | str z =>
      obtain ⟨hs9, c, e, q⟩ := h
      exact .inr (.inr ⟨z, i, c, rfl, rfl, hs9, e, k _ H _ m (.refl H) rm (.str _) q⟩)
    | non => exact go .non h
    | bl b => exact go (.bl b) h
    | int b => exact go (.int b) h
    | ref a => exact go (.ref a) h
    | tup s r => exact go (.tup s r) h
    | rol s r => exact go (.rol s r) h
    | dic e n r => exact go (.dic e n r) h
    | dicT e n r => exact go (.dicT e n r) h
    | obj e n r => exact go (.obj e n r) h
  | _ => cases rx <;> exact h.elim
abbrev DO := Sd → Mu → (Option Int → Mu → Prop) → Prop
structure GO (X : Cx) (e : Option Expr) (d : DO) : Prop where
  ex : ∃ t, PO X e t ∧ ∀ s H sd m (Qd : Option Int → Mu → Prop) (Q : Option Int → Hp → Prop), RS X.K H sd s → RM X.K H m → d sd m Qd → (∀ o H' m', TX H H' → RM X.K H' m' → Qd o m' → Q o H') → t s H Q
def dNoPart : DO := fun _ m Q => Q none m
def dPart (d : DE) : DO := fun s m Q => d s m fun x m1 => match x with | .int i => Q (some i) m1 | _ => False
theorem go_none : GO X none dNoPart := ⟨_, po_none, fun _ H _ m _ _ _ rm h k => k none H m (.refl H) rm h⟩
theorem go_some {e : Expr} {d : DE} (h : GE X e d) : GO X (some e) (dPart d) := by
  obtain ⟨t, p, l⟩ := h.ex
  refine ⟨_, po_some p, fun s H sd m Qd Q rs rm h k => ?_⟩
  refine l s H sd m _ _ rs rm h fun v H1 dv m1 t1 rm1 r1 h1 => ?_
  cases r1 with
  | int i => exact ⟨i, rfl, k _ H1 m1 t1 rm1 h1⟩
  | _ => exact h1.elim
def cutD {α : Type} (xs : List α) (lo hi : Option Int) : List α := (xs.drop (HT.sIx xs.length 0 lo)).take (HT.sIx xs.length xs.length hi - HT.sIx xs.length 0 lo)
theorem RepL.cut {K : PySem.W.Frag} {H : Hp} {ds : List D} {vs : List V} (r : RepL K H ds vs) (lo hi : Option Int) : RepL K H (cutD ds lo hi) (cutV vs lo hi) := by
  unfold cutD cutV
  rw [r.length]
  exact (r.drop _).take _
end
end PD
namespace PySem
open Sem (wp)
open AutoSeq1 (wpAny_loadPart')
theorem pd_meets_enumT (l : Addr) (gs9 : Array Value) (n : Nat) (dc9 : Option Addr) (sl : Array (Option Value)) :
    Meets (Builtin.«enumerate.__new__» ⟨[.type "enumerate", .ref l], []⟩) (fun _ R s => s.heap.get? l = some { cls := .type "tuple", dict := dc9, data := .seq gs9 n, slots := sl } ∧
      R (.ok (.ret (.ref (s.heap.push { cls := .type "tuple_iterator", data := .fields #[.ref l, .int 0 0] }).objs.size)))
        { s with heap := (s.heap.push { cls := .type "tuple_iterator", data := .fields #[.ref l, .int 0 0] }).push { cls := .type "enumerate", data := .fields #[.none, .bool false, .ref s.heap.objs.size, rawInt 0, .none, .none] } }) :=
  .of_wp fun pg9 w A R s h => by
    obtain ⟨hp, g, d, tk9, os9⟩ := s; obtain ⟨ha9, h⟩ := h
    have hsub := sub_enumerate
    have hL : Heap.IsTuple (Shared.heap ⟨hp, g, d, tk9, os9⟩) l gs9 := ⟨_, ha9, rfl, n, rfl⟩
    wp_walk using wpAny_loadPart' ha9
    refine wpAny_stack_any fun st => wpAny_pure ?_
    split
    · rename_i c _ _ _ _ _
      cases (c == Value.type "enumerate")
      · wp_walk using wpAny_loadPart' ha9, wpAny_pyIter_tuple hL
        exact ⟨_, rfl, h⟩
      · wp_walk using wpAny_loadPart' ha9, wpAny_pyIter_tuple hL
        exact ⟨_, rfl, h⟩
    · wp_walk using wpAny_loadPart' ha9, wpAny_pyIter_tuple hL
      exact ⟨_, rfl, h⟩
section
variable {pg9 : Program} {w : World} {A : Around} {E : Value → Shared → Prop} {s : Shared}
theorem pd_call_enumT {l : Addr} {gs9 : Array Value} {Q : Value → Shared → Prop} (hL : s.heap.IsTuple l gs9)
    (h : ∀ h', IsEnum h' (s.heap.objs.size + 1) s.heap.objs.size 0 .none → h'.IsTupleIter s.heap.objs.size l 0 → h'.objs.size = s.heap.objs.size + 2 →
      (∀ b o, s.heap.get? b = some o → h'.get? b = some o) → Q (.ref (s.heap.objs.size + 1)) { s with heap := h' }) :
    wpAny (model pg9 w) A (call (.type "enumerate") [.ref l]) Q E s := by
  obtain ⟨⟨c, dc9, dt9, sl⟩, ha9, ca9, n, da9⟩ := hL
  replace ca9 : c = .type "tuple" := ca9
  replace da9 : dt9 = .seq gs9 n := da9
  subst ca9 da9
  refine callType_new F.called_enumerate (by decide) (F.typeCall_enumerate_1 _) (F.newCall_enumerate_1 _) (fun obj => F.args_object_init_2 obj _) F.entry_enumerate_new
    (pd_meets_enumT l gs9 n dc9 sl) ⟨ha9, ?_⟩
  have hs9 : (s.heap.push { cls := .type "tuple_iterator", data := .fields #[.ref l, .int 0 0] }).objs.size = s.heap.objs.size + 1 := Heap.size_push ..
  show _ ∧ _
  rw [hs9]
  have ea9 : IsEnum ((s.heap.push { cls := .type "tuple_iterator", data := .fields #[.ref l, .int 0 0] }).push
      { cls := .type "enumerate", data := .fields #[.none, .bool false, .ref s.heap.objs.size, rawInt 0, .none, .none] }) (s.heap.objs.size + 1) s.heap.objs.size 0 .none := by
    have := Heap.get?_push_size (s.heap.push { cls := .type "tuple_iterator", data := .fields #[.ref l, .int 0 0] })
      (o := { cls := .type "enumerate", data := .fields #[.none, .bool false, .ref s.heap.objs.size, rawInt 0, .none, .none] }) rfl
    rw [hs9] at this; exact this
  refine ⟨⟨_, ea9, rfl⟩, h _ ea9 ⟨_, Heap.get?_push_of_some _ (Heap.get?_push_size _ rfl), rfl, rfl⟩ (by rw [Heap.size_push, hs9]) fun b o x => Heap.get?_push_of_some _ (Heap.get?_push_of_some _ x)⟩
end
end PySem
namespace PD
open PySem PySem.Spec PyProof.Rows L2
def Itet (K : PySem.W.Frag) (a : Addr) : It :=
  ⟨fun i H => ∃ (xs : List V) (x : V), SqT K H a xs ∧ xs[i]? = some x, fun i H v H' => ∃ T x, v = .ref T ∧ H T = none ∧ H' = upd H T (.tup [.int (i : Nat), x]) ∧ ∀ xs, SqT K H a xs → xs[i]? = some x, fun i H => ∃ xs : List V, SqT K H a xs ∧ xs.length ≤ i⟩
theorem turn_enumT {P : Program} {w : World} {K : PySem.W.Frag} {elts : List Expr} {kk : Nat} {tpos : Pos} (a e jt9 : Addr) :
    Turn P w K (.Tuple elts kk tpos) (Itet K a) [e, jt9] e (fun i h => (∃ ol9, IsEnum h e jt9 ((i : Nat) : Int) ol9) ∧ h.IsTupleIter jt9 a i ∧ e ≠ jt9) where
  mem := by simp
  obj := fun i h st b hb => by
    obtain ⟨⟨ol9, ea9⟩, ⟨o, oa9, ca9, da9⟩, _⟩ := st
    have ee9 : b = e ∨ b = jt9 := by simpa using hb
    rcases ee9 with z | z
    · rw [z]; exact ⟨_, ea9, fun v q => nomatch q⟩
    · rw [z]; exact ⟨o, oa9, fun v q => by rw [da9] at q; cases q⟩
  keep := fun i h h' st k => let ⟨⟨ol9, ea9⟩, hi, na9⟩ := st; ⟨⟨ol9, k e (by simp) _ ea9⟩, hi.at fun o q => k jt9 (by simp) o q, na9⟩
  item := by
    intro X hP hw hK ca9 i pz s τ H E I fa9 st hg
    subst hP hw hK
    obtain ⟨⟨ol9, ea9⟩, ia9, na9⟩ := st
    obtain ⟨xs, x, hq, hx⟩ := hg
    obtain ⟨xs9, ra9, pp9, hs9⟩ := I.tuple hq
    obtain ⟨u, hu, ru⟩ := ra9.get hx
    have ka9 : e < s.heap.objs.size := Heap.lt_size ea9
    have la9 : jt9 < s.heap.objs.size := by obtain ⟨_, q, _⟩ := ia9; exact Heap.lt_size q
    have hta : a ≠ jt9 := fun z => by
      obtain ⟨o1, q1, c1, _⟩ := ia9
      obtain ⟨o2, q2, c2, _⟩ := id pp9
      rw [z, q1] at q2; cases q2
      rw [c1] at c2; exact absurd c2 (by decide)
    have hte : e ≠ a := fun z => by
      obtain ⟨o2, q2, c2, _⟩ := id pp9
      have he' : s.heap.get? e = some _ := ea9
      rw [z, q2] at he'; cases he'
      have c3 : Value.type "enumerate" = Value.type "tuple" := c2
      exact absurd c3 (by decide)
    have hd1 : X.A.in1.handled = none := I.ok.hd ca9
    have Dr := Draws.tuple (prog := X.prog) (w := X.w) (A := X.A.in1) hd1 jt9 a hta xs9.toArray
    refine wpAny_pyNext_enum_itemD Dr ea9 ⟨ia9, pp9⟩ (by have := (List.getElem?_eq_some_iff.mp hu).1; simpa using this) na9 (fun z => by
      have ee9 : e = jt9 ∨ e = a := by simpa using z
      rcases ee9 with q | q
      · exact na9 q
      · exact hte q) fun y h' tk9 hy oa9 st' hT za9 ga9 => ?_
    have hyu : y = u := by
      have hy' : xs9.toArray[i]? = some y := hy
      have hu' : xs9.toArray[i]? = some u := by simpa using hu
      rw [hu'] at hy'; cases hy'; rfl
    subst hyu
    obtain ⟨hit', hta'⟩ := st'
    refine ⟨_, rfl, wpAny_letOwnedTupleGo_enum (s := { s with heap := h', toks := tk9 + 1 }) oa9 fun h'' he' sb => ?_⟩
    have hT2 : h''.get? s.heap.objs.size = some { cls := .type "tuple", data := .seq #[.int i tk9, y] } := (sb.2 _ (Nat.ne_of_gt ka9)).trans hT
    have nw9 : ObjOk X.prog X.w (upd H s.heap.objs.size (.tup [.int (i : Nat), x])) h'' s.heap.objs.size (.tup [.int (i : Nat), x]) :=
      ⟨by show 2 ≤ sizeLine; decide, [.int i tk9, y], .cons ⟨_, rfl⟩ (.cons ru .nil), ⟨_, hT2, rfl, _, rfl⟩⟩
    have iA : Inv X pz τ (upd H s.heap.objs.size (.tup [.int (i : Nat), x])) { s with heap := h'', toks := tk9 + 1 } :=
      I.turnedNew (ch := [e, jt9]) (fun b ob hb q => (sb.2 b (fun z => hb (by simp [z]))).trans (ga9 b ob (fun z => hb (by simp [z])) (fun z => hb (by simp [z])) q)) fa9 (Nat.le_refl _) nw9
    refine ⟨.ref s.heap.objs.size, _, iA, rfl, ⟨_, x, rfl, I.hok.fresh (Nat.le_refl _), rfl, fun ys hy => by rw [I.tuple_inj hy hq]; exact hx⟩, ⟨⟨y, ?_⟩, hit'.at fun o q => (sb.2 jt9 (Ne.symm na9)).trans q, na9⟩, fun b hb => ?_⟩
    · have e1 : ((i + 1 : Nat) : Int) = (i : Int) + 1 := by omega
      rw [e1]; exact he'
    · have bb9 : b < s.heap.objs.size := by
        have ee9 : b = e ∨ b = jt9 := by simpa using hb
        rcases ee9 with z | z
        · rw [z]; exact ka9
        · rw [z]; exact la9
      rw [upd_ne (Nat.ne_of_lt bb9)]
      exact (fa9 b hb).1
  done := by
    intro X hP hw hK ca9 i pz s τ H E I fa9 st hg
    subst hP hw hK
    obtain ⟨⟨ol9, ea9⟩, ia9, na9⟩ := st
    obtain ⟨xs, hq, hx⟩ := hg
    obtain ⟨xs9, ra9, pp9, hs9⟩ := I.tuple hq
    obtain ⟨f0, f1, f2, f3, f4, f5⟩ := fa9 jt9 (by simp)
    have ha9 := ra9.length
    have hta : a ≠ jt9 := fun z => by
      obtain ⟨o1, q1, c1, _⟩ := ia9
      obtain ⟨o2, q2, c2, _⟩ := id pp9
      rw [z, q1] at q2; cases q2
      rw [c1] at c2; exact absurd c2 (by decide)
    have hd1 : X.A.in1.handled = none := I.ok.hd ca9
    unfold pyNext
    refine wpAny_bind (wpAny_attempt (wpAny_callSpecial?_slot (name := Str.ofString "__next__") ⟨_, ea9, rfl⟩ F.slot_enumerate_next
      (wpAny_call_entry F.slot_enumerate_next ⟨_, ea9, rfl⟩ F.entry_enumerate_next ?_ (F.args_enumerate_next_1 _))))
    show wpAny _ _ (field (.ref e) 2 >>= _) _ _ _
    refine wpAny_bind (wpAny_field ea9 rfl (x := .ref jt9) rfl ?_)
    refine wpAny_bind (wpAny_nextOf_tuple_end hd1 ia9 pp9 (by simp; omega) fun h' x he' hx' => ?_)
    obtain ⟨o, oa9, ca9⟩ := hx'
    refine wpAny_bind (wpAny_isInstance (T := "StopIteration") (b := true) ⟨o, oa9, ca9⟩ isSubtype_stop ?_)
    exact wpAny_pure ⟨rfl, I.turned (t' := s.toks) (fun b o hb q => he' b o hb q) f0 f1 f3 f4 f5⟩
  self := fun A i s Q E st h => let ⟨⟨_, ea9⟩, _⟩ := st; wpAny_pyIter_enum ea9 h
def iEnumT (K : PySem.W.Frag) (ta : TA) : TI := fun τ H R => ta τ H fun vs H1 => ∃ a, vs = [.ref a] ∧ ((∃ xs, SqL K H1 a xs ∧ R (Ite K a) H1) ∨ (∃ xs, SqT K H1 a xs ∧ R (Itet K a) H1))
theorem pi_enumT {X : Cx} {e : Expr} {ta : TA} {pp9 pos tpos : Pos} {elts : List Expr} {kk : Nat} (hg : Gl X "enumerate") (hm : X.mg "enumerate" = none) (ha : PA X [e] ta) (hs : starEach [e] X.env = [(false, eval e X.env)] := by rfl) :
    PI X (.Tuple elts kk tpos) (.Call (.Name "enumerate" pp9) [e] [] pos) (iEnumT X.K ta) := by
  refine ⟨fun pz s τ H R I h => ?_⟩
  refine Call_ (ld_blt I hg hm boot_enumerate (PyProof.Rows.callWith_type1 (thn (ha.run pos pz s τ H _ I h) fun us tA ⟨vs, H1, iA, r1, q1⟩ => ?_) hs rfl))
  obtain ⟨a, ex, q⟩ := q1
  subst ex
  cases r1 with
  | cons r rr =>
    cases rr
    cases r
    have fin : ∀ b ∈ [tA.heap.objs.size + 1, tA.heap.objs.size], FpOk X pz H1 b := fun b hb => by
      have ee9 : b = tA.heap.objs.size + 1 ∨ b = tA.heap.objs.size := by simpa using hb
      have le9 : tA.heap.objs.size ≤ b := by
        rcases ee9 with z | z
        · rw [z]; exact Nat.le_add_right _ _
        · rw [z]; exact Nat.le_refl _
      exact iA.fpOk le9 (iA.hok.fresh le9)
    rcases q with ⟨xs, hq, q⟩ | ⟨xs, hq, q⟩
    · obtain ⟨xs9, ra9, p', hs9⟩ := iA.list hq
      refine call_enumerate_list p'.isList fun h' ea9 ia9 za9 ga9 => wpAny_pyIter_enum ea9 ?_
      have iB : Inv X pz τ H1 { tA with heap := h' } := iA.kept (t' := tA.toks) ga9
      exact ⟨tA.heap.objs.size + 1, [tA.heap.objs.size + 1, tA.heap.objs.size], _, _, H1, rfl, iB, turn_enum a (tA.heap.objs.size + 1) tA.heap.objs.size, ⟨⟨.none, ea9⟩, ia9, Nat.succ_ne_self _⟩, fin, q⟩
    · obtain ⟨xs9, ra9, p', hs9⟩ := iA.tuple hq
      refine pd_call_enumT (show tA.heap.IsTuple a xs9.toArray from p') fun h' ea9 ia9 za9 ga9 => wpAny_pyIter_enum ea9 ?_
      have iB : Inv X pz τ H1 { tA with heap := h' } := iA.kept (t' := tA.toks) ga9
      exact ⟨tA.heap.objs.size + 1, [tA.heap.objs.size + 1, tA.heap.objs.size], _, _, H1, rfl, iB, turn_enumT a (tA.heap.objs.size + 1) tA.heap.objs.size, ⟨⟨.none, ea9⟩, ia9, Nat.succ_ne_self _⟩, fin, q⟩
def iSeq (K : PySem.W.Frag) (tl : TE) : TI := fun τ H R => tl τ H fun x H1 => ∃ a, x = .ref a ∧ ((∃ xs, SqL K H1 a xs ∧ R (Itl K a) H1) ∨ (∃ xs, SqT K H1 a xs ∧ R (Itt K a) H1))
theorem pi_seq {X : Cx} {tg l : Expr} {tl : TE} (ha9 : PE X l tl) : PI X tg l (iSeq X.K tl) := by
  refine ⟨fun pz s τ H R I h => ?_⟩
  refine thn (ha9.run pz s τ H _ I h) fun v tA ⟨x, H1, iA, r1, q1⟩ => ?_
  obtain ⟨a, e, q⟩ := q1
  subst e
  cases r1
  rcases q with ⟨xs, hq, q⟩ | ⟨xs, hq, q⟩
  · obtain ⟨xs9, ra9, pp9, hs9⟩ := iA.list hq
    refine wpAny_pyIter_list pp9.isList ?_
    refine ⟨tA.heap.objs.size, [tA.heap.objs.size], _, _, H1, rfl, iA.kept (t' := tA.toks) fun b o e => Heap.get?_push_of_some _ e, turn_list a _, ⟨_, Heap.get?_push_size _ rfl, rfl, rfl⟩, fun b hb => ?_, q⟩
    have e : b = tA.heap.objs.size := by simpa using hb
    subst e
    exact iA.fpOk (Nat.le_refl _) (iA.hok.fresh (Nat.le_refl _))
  · obtain ⟨xs9, ra9, pp9, hs9⟩ := iA.tuple hq
    refine wpAny_pyIter_tuple (show tA.heap.IsTuple a xs9.toArray from pp9) ?_
    refine ⟨tA.heap.objs.size, [tA.heap.objs.size], _, _, H1, rfl, iA.kept (t' := tA.toks) fun b o e => Heap.get?_push_of_some _ e, turn_tuple a _, ⟨_, Heap.get?_push_size _ rfl, rfl, rfl⟩, fun b hb => ?_, q⟩
    have e : b = tA.heap.objs.size := by simpa using hb
    subst e
    exact iA.fpOk (Nat.le_refl _) (iA.hok.fresh (Nat.le_refl _))
end PD
namespace PD
open PySem PySem.Spec PyProof.Rows L2
section
variable {X : Cx}
def dTup (a : DA) : DE := fun s m Q => a s m fun ds m1 => ds.length ≤ sizeLine ∧ Q (.tup ds) m1
def dLst (a : DA) : DE := fun s m Q => a s m fun ds m1 => ds.length ≤ sizeLine ∧ ∀ p, m1 p = none → Q (.ref p) (mset m1 p (.lst ds))
theorem ge_tup {es : List Expr} {pos : Pos} {x1} {da : DA} (h : GA X es da) : GE X (.Tuple es x1 pos) (dTup da) := by
  obtain ⟨ta, p, l⟩ := h.ex
  refine .of ⟨_, pe_tup p, fun s H sd m Qd Q rs rm h k => ?_⟩
  refine l s H sd m _ _ rs rm h fun vs H1 ds m1 t1 rm1 r1 h1 => ?_
  exact ⟨by rw [← r1.length]; exact h1.1, fun p hp => k _ _ _ m1 (t1.trans (.new hp)) (rm1.skip hp) (.tup upd_same (r1.mono (.new hp))) h1.2⟩
theorem ge_lst {es : List Expr} {pos : Pos} {da : DA} (h : GA X es da) : GE X (.List es pos) (dLst da) := by
  obtain ⟨ta, p, l⟩ := h.ex
  refine .of ⟨_, pe_lst p, fun s H sd m Qd Q rs rm h k => ?_⟩
  refine l s H sd m _ _ rs rm h fun vs H1 ds m1 t1 rm1 r1 h1 => ?_
  exact ⟨by rw [← r1.length]; exact h1.1, fun p hp => k _ _ _ _ (t1.trans (.new hp)) (rm1.newL hp r1) (.ref p) (h1.2 p (rm1.fresh hp))⟩
abbrev DC := List D → Mu → DK → Prop
def LC (K : PySem.W.Frag) (r : List V → Hp → VK → Prop) (d : DC) : Prop := ∀ vs H ds m (Qd : DK) (Q : VK), RM K H m → RepL K H ds vs → d ds m Qd →
  (∀ v H' dv m', TX H H' → RM K H' m' → Rep K H' dv v → Qd dv m' → Q v H') → r vs H Q
def dCB (d : DC) (a : DA) : DE := fun s m Q => a s m fun ds m1 => d ds m1 Q
theorem ge_callB {id : String} {x : Str} {p pos : Pos} {e : Expr} {es : List Expr} {r : List V → Hp → VK → Prop} {d : DC} {da : DA} (ca9 : CallR X (.builtin id) r) (lc : LC X.K r d) (hg : Gl X x) (ma9 : X.mg x = none) (hv : bootBuiltins x = some (.builtin id)) (ha : GA X (e :: es) da)
    (hn : x ≠ "__name__" := by decide) (hdb : (x == ("__debug__" : Str)) = false := by decide) (he : starEach (e :: es) X.env = (false, eval e X.env) :: starEach es X.env := by rfl) (hpl : (backTo pos (starEach es X.env)).any (·.1) = false := by rfl) :
    GE X (.Call (.Name x p) (e :: es) [] pos) (dCB d da) := by
  obtain ⟨ta, q, l⟩ := ha.ex
  refine .of ⟨_, pe_callB ca9 hg ma9 hv q hn hdb he hpl, fun s H sd m Qd Q rs rm h k => ?_⟩
  refine l s H sd m _ _ rs rm h fun vs H1 ds m1 t1 rm1 r1 h1 => ?_
  exact lc vs H1 ds m1 Qd Q rm1 r1 h1 fun v' H' dv' m' t' a b c => k v' H' dv' m' (t1.trans t') a b c
theorem ge_callTy {T : String} {x : Str} {p pos : Pos} {e : Expr} {es : List Expr} {r : List V → Hp → VK → Prop} {d : DC} {da : DA} (ca9 : CallR X (.type T) r) (lc : LC X.K r d) (hg : Gl X x) (ma9 : X.mg x = none) (hv : bootBuiltins x = some (.type T)) (ha : GA X (e :: es) da)
    (hn : x ≠ "__name__" := by decide) (hdb : (x == ("__debug__" : Str)) = false := by decide) (he : starEach (e :: es) X.env = (false, eval e X.env) :: starEach es X.env := by rfl) (hpl : (backTo pos (starEach es X.env)).any (·.1) = false := by rfl) :
    GE X (.Call (.Name x p) (e :: es) [] pos) (dCB d da) := by
  obtain ⟨ta, q, l⟩ := ha.ex
  refine .of ⟨_, pe_callTy ca9 hg ma9 hv q hn hdb he hpl, fun s H sd m Qd Q rs rm h k => ?_⟩
  refine l s H sd m _ _ rs rm h fun vs H1 ds m1 t1 rm1 r1 h1 => ?_
  exact lc vs H1 ds m1 Qd Q rm1 r1 h1 fun v' H' dv' m' t' a b c => k v' H' dv' m' (t1.trans t') a b c
theorem repL1 {K : PySem.W.Frag} {H : Hp} {d : D} {vs : List V} (r : RepL K H [d] vs) : ∃ v, vs = [v] ∧ Rep K H d v := by
  cases r with
  | cons a b => cases b; exact ⟨_, rfl, a⟩
theorem repL2 {K : PySem.W.Frag} {H : Hp} {d e : D} {vs : List V} (r : RepL K H [d, e] vs) : ∃ v u, vs = [v, u] ∧ Rep K H d v ∧ Rep K H e u := by
  cases r with
  | cons a b =>
    obtain ⟨u, rfl, q⟩ := repL1 b
    exact ⟨_, _, rfl, a, q⟩
def dLen : DC := fun ds m Q => match ds with
  | [.str z] => z.length ≤ sizeLine ∧ Q (.int z.length) m
  | [d] => ∃ es, seqOf m d = some es ∧ Q (.int es.length) m
  | _ => False
theorem call_lenU : CallR X (.builtin "len") (fun xs H Q => (∃ p ys, xs = [.ref p] ∧ (SqL X.K H p ys ∨ SqT X.K H p ys) ∧ Q (.int ys.length) H) ∨ ∃ z, xs = [.str z] ∧ z.length ≤ sizeLine ∧ Q (.int z.length) H) := call_len_seq.or call_len_str
theorem lc_len {K : PySem.W.Frag} : LC K (fun xs H Q => (∃ p ys, xs = [.ref p] ∧ (SqL K H p ys ∨ SqT K H p ys) ∧ Q (.int ys.length) H) ∨ ∃ z, xs = [.str z] ∧ z.length ≤ sizeLine ∧ Q (.int z.length) H) dLen := fun vs H ds m Qd Q rm r h k => by
  have go : ∀ {d : D}, RepL K H [d] vs → (∃ es, seqOf m d = some es ∧ Qd (.int es.length) m) → ∃ p ys, vs = [.ref p] ∧ (SqL K H p ys ∨ SqT K H p ys) ∧ Q (.int ys.length) H := fun {d} r h => by
    obtain ⟨es, e, q⟩ := h
    obtain ⟨v, rfl, ra9⟩ := repL1 r
    obtain ⟨a, ws, rfl, s, r2⟩ := seq_rep rm ra9 e
    exact ⟨a, ws, rfl, s, k _ H _ m (.refl H) rm (by rw [← r2.length]; exact .int _) q⟩
  match ds, r, h with
  | [.str z], r, h =>
    obtain ⟨v, rfl, ra9⟩ := repL1 r
    cases ra9
    exact .inr ⟨z, rfl, h.1, k _ H _ m (.refl H) rm (.int _) h.2⟩
  | [.non], r, h => exact .inl (go r h)
  | [.bl _], r, h => exact .inl (go r h)
  | [.int _], r, h => exact .inl (go r h)
  | [.ref _], r, h => exact .inl (go r h)
  | [.tup _], r, h => exact .inl (go r h)
  | [.rol _], r, h => exact .inl (go r h)
  | [.dic _ _], r, h => exact .inl (go r h)
  | [.dicT _ _], r, h => exact .inl (go r h)
  | [.obj _ _ _], r, h => exact .inl (go r h)
def dTuple : DC := fun ds m Q => match ds with
  | [d] => ∃ es, seqOf m d = some es ∧ Q (.tup es) m
  | _ => False
theorem lc_tuple {K : PySem.W.Frag} : LC K (fun xs H Q => ∃ p ys, xs = [.ref p] ∧ ((SqL K H p ys ∧ ∀ l, H l = none → Q (.ref l) (upd H l (.tup ys))) ∨ (SqT K H p ys ∧ Q (.ref p) H))) dTuple := fun vs H ds m Qd Q rm r h k => by
  match ds, r, h with
  | [d], r, h =>
    obtain ⟨es, e, q⟩ := h
    obtain ⟨v, rfl, ra9⟩ := repL1 r
    cases ra9 with
    | tup s r2 => cases e; exact ⟨_, _, rfl, .inr ⟨s.sq, k _ H _ m (.refl H) rm (.tup s r2) q⟩⟩
    | rol s r2 => cases e; exact ⟨_, _, rfl, .inl ⟨s.sq, fun l hl => k _ _ _ m (.new hl) (rm.skip hl) (.tup upd_same (r2.mono (.new hl))) q⟩⟩
    | ref a =>
      obtain ⟨ws, sl, r2⟩ := ref_rep rm e
      exact ⟨a, ws, rfl, .inl ⟨sl, fun l hl => k _ _ _ m (.new hl) (rm.skip hl) (.tup upd_same (r2.mono (.new hl))) q⟩⟩
    | _ => cases e
def dList : DC := fun ds m Q => match ds with
  | [d] => ∃ es, seqOf m d = some es ∧ ∀ p, m p = none → Q (.ref p) (mset m p (.lst es))
  | _ => False
theorem lc_list {K : PySem.W.Frag} : LC K (fun xs H Q => ∃ p ys, xs = [.ref p] ∧ (SqL K H p ys ∨ SqT K H p ys) ∧ ∀ l, H l = none → Q (.ref l) (upd H l (.lst ys))) dList := fun vs H ds m Qd Q rm r h k => by
  match ds, r, h with
  | [d], r, h =>
    obtain ⟨es, e, q⟩ := h
    obtain ⟨v, rfl, ra9⟩ := repL1 r
    obtain ⟨a, ws, rfl, s, r2⟩ := seq_rep rm ra9 e
    exact ⟨a, ws, rfl, s, fun l hl => k _ _ _ _ (.new hl) (rm.newL hl r2) (.ref l) (q l (rm.fresh hl))⟩
def dInt1 : DC := fun ds m Q => match ds with
  | [.int i] => Q (.int i) m
  | [.bl b] => Q (.int (if b then 1 else 0)) m
  | _ => False
theorem lc_int {K : PySem.W.Frag} : LC K (fun xs H Q => (∃ i, xs = [.int i] ∧ Q (.int i) H) ∨ ∃ k, xs = [.bl k] ∧ Q (.int (if k then 1 else 0)) H) dInt1 := fun vs H ds m Qd Q rm r h k => by
  match ds, r, h with
  | [.int i], r, h => obtain ⟨v, rfl, ra9⟩ := repL1 r; cases ra9; exact .inl ⟨i, rfl, k _ H _ m (.refl H) rm (.int _) h⟩
  | [.bl i], r, h => obtain ⟨v, rfl, ra9⟩ := repL1 r; cases ra9; exact .inr ⟨i, rfl, k _ H _ m (.refl H) rm (.int _) h⟩
def tyD (m : Mu) : D → Option String
  | .non => some "NoneType"
  | .bl _ => some "bool"
  | .int _ => some "int"
  | .str _ => some "str"
  | .tup _ => some "tuple"
  | .rol _ => some "list"
  | .dic _ _ => none
  | .dicT _ _ => none
  | .obj _ _ _ => none
  | .ref a => match m a with | some (.lst _) => some "list" | _ => none
def isT (a T : String) : Bool := a == T || (a == "bool" && T == "int")
def knownT (T : String) : Bool := T == "bool" || T == "int" || T == "str" || T == "tuple" || T == "list"
theorem kitB_known : (["NoneType", "bool", "int", "str", "tuple", "list"].all fun a => ["bool", "int", "str", "tuple", "list"].all fun T => kitB a T == some (isT a T)) = true := by decide +kernel
theorem kit_known {m : Mu} {d : D} {a T : String} (h : tyD m d = some a) (hT : knownT T = true) : kitB a T = some (isT a T) := by
  have ha : a ∈ ["NoneType", "bool", "int", "str", "tuple", "list"] := by
    unfold tyD at h
    split at h
    · cases h; simp
    · cases h; simp
    · cases h; simp
    · cases h; simp
    · cases h; simp
    · cases h; simp
    · cases h
    · cases h
    · cases h
    · split at h
      · cases h; simp
      · cases h
  have hT' : T ∈ ["bool", "int", "str", "tuple", "list"] := by
    unfold knownT at hT
    simp only [Bool.or_eq_true, beq_iff_eq] at hT
    simp only [List.mem_cons, List.not_mem_nil, or_false]
    rcases hT with (((h | h) | h) | h) | h <;> simp [h]
  have z := List.all_eq_true.mp (List.all_eq_true.mp kitB_known a ha) T hT'
  exact eq_of_beq z
theorem tyx_of {K : PySem.W.Frag} {H : Hp} {m : Mu} {d : D} {v : V} {a : String} (rm : RM K H m) (r : Rep K H d v) (h : tyD m d = some a) : TyX K H v (.type a) := by
  cases r with
  | non => cases h; exact .base .non
  | bl b => cases h; exact .base (.bl b)
  | int i => cases h; exact .base (.int i)
  | str x => cases h; exact .base (.str x)
  | @tup ds p vs s q =>
    cases h
    exact .base (.tup s)
  | rol s q =>
    cases h
    rcases s with ⟨o, s⟩ | ⟨o, xs9, n, s, c, _⟩
    · exact .base (.frz s)
    · exact .kList s c
  | dic _ _ _ => cases h
  | dicT _ _ _ => cases h
  | obj _ _ _ => cases h
  | ref p =>
    unfold tyD at h
    cases e : m p with
    | none => simp only [e] at h; cases h
    | some o =>
      have q := rm p o e
      cases o with
      | lst es => simp only [e] at h; cases h; obtain ⟨vs, e2, _⟩ := q; exact .base (.lst e2)
      | _ => simp only [e] at h; cases h
def dIsi (T : String) (de : DE) : DE := fun s m Q => de s m fun x m1 => ∃ a, tyD m1 x = some a ∧ Q (.bl (isT a T)) m1
theorem ge_isi {T : String} {p q pos : Pos} {e : Expr} {y : Str} {de : DE} (hT : knownT T = true) (hg : Gl X "isinstance") (ma9 : X.mg "isinstance" = none) (he : GE X e de) (hgy : Gl X y) (hmy : X.mg y = none) (hvy : bootBuiltins y = some (.type T))
    (hny : y ≠ "__name__" := by decide) (hdy : (y == ("__debug__" : Str)) = false := by decide)
    (hs1 : starEach [e, .Name y q] X.env = (false, eval e X.env) :: starEach [.Name y q] X.env := by rfl) (hs2 : starEach [.Name y q] X.env = (false, eval (.Name y q) X.env) :: starEach [] X.env := by rfl)
    (hpl : (backTo pos (starEach [.Name y q] X.env)).any (·.1) = false := by rfl) (hv : bootBuiltins "isinstance" = some (.builtin "isinstance") := by decide +kernel) :
    GE X (.Call (.Name "isinstance" p) [e, .Name y q] [] pos) (dIsi T de) := by
  obtain ⟨te, pt, l⟩ := he.ex
  refine .of ⟨_, pe_callB call_isi hg ma9 hv (pa_cons pt (pa_cons (pe_bltn (v := .ty T) hgy hmy hvy rfl hny hdy) pa_nil hs2) hs1) (by decide) (by decide) hs1 hpl, fun s H sd m Qd Q rs rm h k => ?_⟩
  refine l s H sd m _ _ rs rm h fun v H1 dv m1 t1 rm1 r1 h1 => ?_
  obtain ⟨a, e1, h2⟩ := h1
  exact ⟨v, .ty T, .type a, .type T, isT a T, rfl, .ty T, tyx_of rm1 r1 e1, kit_ty (kit_known e1 hT), k _ H1 _ m1 t1 rm1 (.bl _) h2⟩
end
end PD
namespace PD
open PySem PySem.Spec PyProof.Rows L2
section
variable {X : Cx}
abbrev DM := D → List D → Mu → DK → Prop
def LM (K : PySem.W.Frag) (r : V → List V → Hp → VK → Prop) (d : DM) : Prop := ∀ x vs H dx ds m (Qd : DK) (Q : VK), RM K H m → Rep K H dx x → RepL K H ds vs → d dx ds m Qd →
  (∀ v H' dv m', TX H H' → RM K H' m' → Rep K H' dv v → Qd dv m' → Q v H') → r x vs H Q
def dBM0 (d : DM) (a : DE) : DE := fun s m Q => a s m fun x m1 => (∃ a ds, lstOf m1 x = some (a, ds)) ∧ d x [] m1 Q
def dBM (d : DM) (a : DE) (b : DA) : DE := fun s m Q => a s m fun x m1 => (∃ a ds, lstOf m1 x = some (a, ds)) ∧ b s m1 fun ds m2 => d x ds m2 Q
theorem ty_lst {K : PySem.W.Frag} {H : Hp} {m : Mu} {d : D} {v : V} (rm : RM K H m) (r : Rep K H d v) (h : ∃ a ds, lstOf m d = some (a, ds)) : tyV K "list" v H := by
  obtain ⟨a, ds, e⟩ := h
  obtain ⟨rfl, _, _, vs, e2, _⟩ := lst_rep rm r e
  exact .inl ⟨rfl, _, SqL.of e2⟩
theorem ge_bm0 {o : Expr} {name : Str} {id : String} {apos cpos : Pos} {r : V → List V → Hp → VK → Prop} {d : DM} {da : DE} (slot : Slot "list" name id) (hty : typeOf (.builtin id) = pure (.type "method_descriptor")) (hm : MtR X id r) (lm : LM X.K r d) (ho : GE X o da)
    (base9 : attributeBase o name X.env (eval o X.env) = eval o X.env := by rfl) (line9 : (apos.endLine == cpos.line) = true := by rfl) : GE X (.Call (.Attribute o name apos) [] [] cpos) (dBM0 d da) := by
  obtain ⟨ta, p, l⟩ := ho.ex
  refine .of ⟨_, pe_bm0 PySem.F.plainAttrs_list slot hty hm p base9 line9, fun s H sd m Qd Q rs rm h k => ?_⟩
  refine l s H sd m _ _ rs rm h fun v H1 dv m1 t1 rm1 r1 h1 => ?_
  exact ⟨ty_lst rm1 r1 h1.1, lm v [] H1 dv [] m1 Qd Q rm1 r1 .nil h1.2 fun v' H' dv' m' t' a b c => k v' H' dv' m' (t1.trans t') a b c⟩
theorem ge_bm {o e : Expr} {es : List Expr} {name : Str} {id : String} {apos cpos : Pos} {r : V → List V → Hp → VK → Prop} {d : DM} {da : DE} {db : DA} (slot : Slot "list" name id) (hty : typeOf (.builtin id) = pure (.type "method_descriptor")) (hm : MtR X id r) (lm : LM X.K r d) (ho : GE X o da) (ha : GA X (e :: es) db)
    (base9 : attributeBase o name X.env (eval o X.env) = eval o X.env := by rfl)
    (few9 : ((backTo cpos (starEach (e :: es) X.env)).all (fun x => !x.1) && (backToKw cpos (keywordEach [] X.env)).all (fun x => x.1.isSome)
      && decide ((e :: es).length + ([] : List Keyword).length + (if ([] : List Keyword).isEmpty then 0 else 1) < 30)) = true := by rfl)
    (line9 : (apos.endLine == cpos.line) = true := by rfl) (hs : starEach (e :: es) X.env = (false, eval e X.env) :: starEach es X.env := by rfl) (plain9 : (backTo cpos (starEach es X.env)).any (·.1) = false := by rfl) :
    GE X (.Call (.Attribute o name apos) (e :: es) [] cpos) (dBM d da db) := by
  obtain ⟨ta, p, l⟩ := ho.ex
  obtain ⟨tb, q, l2⟩ := ha.ex
  refine .of ⟨_, pe_bm PySem.F.plainAttrs_list slot hty hm p q base9 few9 line9 hs plain9, fun s H sd m Qd Q rs rm h k => ?_⟩
  refine l s H sd m _ _ rs rm h fun v H1 dv m1 t1 rm1 r1 h1 => ?_
  refine ⟨ty_lst rm1 r1 h1.1, l2 s H1 sd m1 _ _ (rs.mono t1) rm1 h1.2 fun vs H2 ds m2 t2 rm2 r2 h2 => ?_⟩
  exact lm v vs H2 dv ds m2 Qd Q rm2 (r1.mono t2) r2 h2 fun v' H' dv' m' t' a b c => k v' H' dv' m' (t1.trans (t2.trans t')) a b c
def dAppend : DM := fun x ds m Q => match ds with
  | [d] => ∃ a es, lstOf m x = some (a, es) ∧ es.length < sizeLine ∧ Q .non (mset m a (.lst (es ++ [d])))
  | _ => False
theorem lm_append {K : PySem.W.Frag} : LM K rAppend dAppend := fun x vs H dx ds m Qd Q rm rx r h k => by
  match ds, r, h with
  | [d], r, h =>
    obtain ⟨a, es, e, hs9, q⟩ := h
    obtain ⟨rfl, rfl, _, ws, e2, r2⟩ := lst_rep rm rx e
    obtain ⟨v, rfl, ra9⟩ := repL1 r
    exact ⟨a, ws, v, rfl, rfl, e2, by rw [← r2.length]; exact hs9, k _ _ _ _ (.lst e2) (rm.setL e2 (r2.append (.cons ra9 .nil))) .non q⟩
def seqW (m : Mu) : D → Option (List D)
  | .tup ds => some ds
  | .ref a => match m a with | some (.lst ds) => some ds | _ => none
  | _ => none
def dExtend : DM := fun x ds m Q => match ds with
  | [d] => ∃ a es zs, lstOf m x = some (a, es) ∧ seqW m d = some zs ∧ es.length + zs.length ≤ sizeLine ∧ Q .non (mset m a (.lst (es ++ zs)))
  | _ => False
def dPop : DM := fun x ds m Q => match ds with
  | [] => ∃ a es d, lstOf m x = some (a, es) ∧ es[es.length - 1]? = some d ∧ Q d (mset m a (.lst es.dropLast))
  | [.int i] => ∃ a es, lstOf m x = some (a, es) ∧ -(2 ^ 63) ≤ i ∧ i < 2 ^ 63 ∧ ∃ k, seqIndex? i es.length = some k ∧ ∃ d, es[k]? = some d ∧ Q d (mset m a (.lst (es.eraseIdx k)))
  | _ => False
theorem mt_popU : MtM X "list.pop" (fun x xs H Q => rPop x xs H Q ∨ rPopAt x xs H Q) := fun pz s τ H x xs v us Q I rx ra9 h => by
  rcases h with h | h
  · exact mt_pop pz s τ H x xs v us Q I rx ra9 h
  · exact mt_popAt pz s τ H x xs v us Q I rx ra9 h
theorem lm_pop {K : PySem.W.Frag} : LM K (fun x xs H Q => rPop x xs H Q ∨ rPopAt x xs H Q) dPop := fun x vs H dx ds m Qd Q rm rx r h k => by
  match ds, r, h with
  | [], r, h =>
    obtain ⟨a, es, d, e, e1, q⟩ := h
    obtain ⟨rfl, rfl, _, ws, e2, r2⟩ := lst_rep rm rx e
    cases r
    obtain ⟨v, e3, ra9⟩ := r2.get e1
    rw [r2.length] at e3
    exact .inl ⟨a, ws, v, rfl, rfl, e2, e3, k _ _ _ _ (.lst e2) (rm.setL e2 r2.dropLast) (ra9.mono (.lst e2)) q⟩
  | [.int i], r, h =>
    obtain ⟨a, es, e, h1, h2, j, e3, d, e4, q⟩ := h
    obtain ⟨rfl, rfl, _, ws, e2, r2⟩ := lst_rep rm rx e
    obtain ⟨v, rfl, ra9⟩ := repL1 r
    cases ra9
    obtain ⟨u, e5, ru⟩ := r2.get e4
    rw [r2.length] at e3
    exact .inr ⟨a, ws, i, j, u, rfl, rfl, e2, h1, h2, e3, e5, k _ _ _ _ (.lst e2) (rm.setL e2 (r2.erase j)) (ru.mono (.lst e2)) q⟩
abbrev SpD := List D → Mu → DK → Prop
def spL (K : PySem.W.Frag) (n : Nat) (sd : SpD) : Sp := fun vs H Q _ => ∃ ds m Qd, RepL K H ds vs ∧ RM K H m ∧ (ds.length = n ∧ sd ds m Qd) ∧ ∀ v H' dv m', TX H H' → RM K H' m' → Rep K H' dv v → Qd dv m' → Q v H'
def dCall (n : Nat) (sd : SpD) (a : DA) : DE := fun s m Q => a s m fun ds m1 => ds.length = n ∧ sd ds m1 Q
theorem ge_call {k n : Nat} {f : Addr} {fd : FuncData} {ps : List Str} {sd : SpD} {x : Str} {p pos : Pos} {e : Expr} {es : List Expr} {da : DA} (F : FnOk X.prog X.w X.K X.mg X.base CX0 k f fd ps (spL X.K n sd)) (hr : Room k X.A) (hg : Gl X x) (hm : X.mg x = some (.ref f)) (hk : PySem.W.keepIn X.K (.ref f) = true) (hb : Binds X.K fd ps [])
    (ha : GA X (e :: es) da) (hdb : (x == ("__debug__" : Str)) = false := by decide) (he : starEach (e :: es) X.env = (false, eval e X.env) :: starEach es X.env := by rfl) (hpl : (backTo pos (starEach es X.env)).any (·.1) = false := by rfl) :
    GE X (.Call (.Name x p) (e :: es) [] pos) (dCall n sd da) := by
  obtain ⟨ta, q, l⟩ := ha.ex
  refine .of ⟨_, pe_call F hr hg hm hk hb .nil pass0 q hdb he hpl, fun s H sd' m Qd Q rs rm h k => ?_⟩
  refine l s H sd' m _ _ rs rm h fun vs H1 ds m1 t1 rm1 r1 h1 => ?_
  show spL X.K n sd (vs ++ []) H1 Q E0
  rw [List.append_nil]
  exact ⟨ds, m1, Qd, r1, rm1, h1, fun v' H' dv' m' t' a b c => k v' H' dv' m' (t1.trans t') a b c⟩
def GK (X : Cx) (kws : List Keyword) (d : DA) : Prop := ∃ t, PK X kws t ∧ LA X.K t d
theorem gk_nil : GK X [] dNil := ⟨_, pk_nil, fun _ H _ m _ _ _ rm h k => k [] H [] m (.refl H) rm .nil h⟩
theorem gk_cons {nm : Option Str} {e : Expr} {kpos : Pos} {kws : List Keyword} {de : DE} {dr : DA} (ha : GE X e de) (hr : GK X kws dr) : GK X (⟨nm, e, kpos⟩ :: kws) (dCons de dr) := by
  obtain ⟨te, p, l⟩ := ha.ex
  obtain ⟨tr, q, l2⟩ := hr
  refine ⟨_, pk_cons p q, fun s H sd m Qd Q rs rm h k => ?_⟩
  refine l s H sd m _ _ rs rm h fun v H1 dv m1 t1 rm1 r1 h1 => ?_
  exact l2 s H1 sd m1 _ _ (rs.mono t1) rm1 h1 fun vs H2 ds m2 t2 rm2 r2 h2 => k _ H2 _ m2 (t1.trans t2) rm2 (.cons (r1.mono t2) r2) h2
def dAnd (t u : DT) : DT := fun s m Q => t s m fun c m1 => if c = true then u s m1 Q else Q false m1
def dOr (t u : DT) : DT := fun s m Q => t s m fun c m1 => if c = true then Q true m1 else u s m1 Q
def dNot (t : DT) : DT := fun s m Q => t s m fun c m1 => Q (!c) m1
theorem LT.and {K : PySem.W.Frag} {t u : TT} {dt du : DT} (l : LT K t dt) (l2 : LT K u du) : LT K (tAnd t u) (dAnd dt du) := fun s H sd m Qd Q rs rm h k => by
  refine l s H sd m _ _ rs rm h fun b H1 m1 t1 rm1 h1 => ?_
  cases b with
  | true => exact l2 s H1 sd m1 _ _ (rs.mono t1) rm1 h1 fun b H2 m2 t2 rm2 h2 => k b H2 m2 (t1.trans t2) rm2 h2
  | false => exact k false H1 m1 t1 rm1 h1
theorem LT.or {K : PySem.W.Frag} {t u : TT} {dt du : DT} (l : LT K t dt) (l2 : LT K u du) : LT K (tOr t u) (dOr dt du) := fun s H sd m Qd Q rs rm h k => by
  refine l s H sd m _ _ rs rm h fun b H1 m1 t1 rm1 h1 => ?_
  cases b with
  | true => exact k true H1 m1 t1 rm1 h1
  | false => exact l2 s H1 sd m1 _ _ (rs.mono t1) rm1 h1 fun b H2 m2 t2 rm2 h2 => k b H2 m2 (t1.trans t2) rm2 h2
theorem gw_and1 {a : Expr} {pos : Pos} {d : DT} (h : GT X a d) : GW X (.BoolOp .And [a] pos) d := let ⟨t, p, l⟩ := h.ex; ⟨_, pw_and1 p, l⟩
theorem gw_or1 {a : Expr} {pos : Pos} {d : DT} (h : GT X a d) : GW X (.BoolOp .Or [a] pos) d := let ⟨t, p, l⟩ := h.ex; ⟨_, pw_or1 p, l⟩
theorem gw_and {a b : Expr} {rest : List Expr} {pos : Pos} {d d2 : DT} (h : GT X a d) (h2 : GW X (.BoolOp .And (b :: rest) pos) d2) : GW X (.BoolOp .And (a :: b :: rest) pos) (dAnd d d2) := by
  obtain ⟨t, p, l⟩ := h.ex
  obtain ⟨u, q, l2⟩ := h2.ex
  exact ⟨_, pw_and p q, l.and l2⟩
theorem gw_or {a b : Expr} {rest : List Expr} {pos : Pos} {d d2 : DT} (h : GT X a d) (h2 : GW X (.BoolOp .Or (b :: rest) pos) d2) : GW X (.BoolOp .Or (a :: b :: rest) pos) (dOr d d2) := by
  obtain ⟨t, p, l⟩ := h.ex
  obtain ⟨u, q, l2⟩ := h2.ex
  exact ⟨_, pw_or p q, l.or l2⟩
theorem gt_not {a : Expr} {pos : Pos} {d : DT} (h : GT X a d) : GT X (.UnaryOp .Not a pos) (dNot d) := by
  obtain ⟨t, p, l⟩ := h.ex
  exact .of ⟨_, pt_not p, fun s H sd m Qd Q rs rm h k => l s H sd m _ _ rs rm h fun b H1 m1 t1 rm1 h1 => k (!b) H1 m1 t1 rm1 h1⟩
def dAndV (a b : DE) : DE := fun s m Q => a s m fun x m1 => match x with | .bl c => if c = true then b s m1 Q else Q (.bl false) m1 | _ => False
def dOrV (a b : DE) : DE := fun s m Q => a s m fun x m1 => match x with | .bl c => if c = true then Q (.bl true) m1 else b s m1 Q | _ => False
def dNotV (a : DE) : DE := fun s m Q => a s m fun x m1 => match x with | .bl c => Q (.bl (!c)) m1 | _ => False
theorem ge_one {op} {a : Expr} {pos : Pos} {d : DE} (h : GE X a d) : GE X (.BoolOp op [a] pos) d := let ⟨t, p, l⟩ := h.ex; .of ⟨_, pe_one p, l⟩
theorem ge_and {a b : Expr} {rest : List Expr} {pos : Pos} {d d2 : DE} (h : GE X a d) (h2 : GE X (.BoolOp .And (b :: rest) pos) d2) : GE X (.BoolOp .And (a :: b :: rest) pos) (dAndV d d2) := by
  obtain ⟨t, p, l⟩ := h.ex
  obtain ⟨u, q, l2⟩ := h2.ex
  refine .of ⟨_, pe_and p q, fun s H sd m Qd Q rs rm h k => ?_⟩
  refine l s H sd m _ _ rs rm h fun v H1 dv m1 t1 rm1 r1 h1 => ?_
  cases r1 with
  | bl c =>
    refine ⟨c, rfl, ?_⟩
    cases c with
    | true => exact l2 s H1 sd m1 _ _ (rs.mono t1) rm1 h1 fun b H2 dv m2 t2 rm2 r2 h2 => k b H2 dv m2 (t1.trans t2) rm2 r2 h2
    | false => exact k _ H1 _ m1 t1 rm1 (.bl _) h1
  | _ => exact h1.elim
theorem ge_or {a b : Expr} {rest : List Expr} {pos : Pos} {d d2 : DE} (h : GE X a d) (h2 : GE X (.BoolOp .Or (b :: rest) pos) d2) : GE X (.BoolOp .Or (a :: b :: rest) pos) (dOrV d d2) := by
  obtain ⟨t, p, l⟩ := h.ex
  obtain ⟨u, q, l2⟩ := h2.ex
  refine .of ⟨_, pe_or p q, fun s H sd m Qd Q rs rm h k => ?_⟩
  refine l s H sd m _ _ rs rm h fun v H1 dv m1 t1 rm1 r1 h1 => ?_
  cases r1 with
  | bl c =>
    refine ⟨c, rfl, ?_⟩
    cases c with
    | true => exact k _ H1 _ m1 t1 rm1 (.bl _) h1
    | false => exact l2 s H1 sd m1 _ _ (rs.mono t1) rm1 h1 fun b H2 dv m2 t2 rm2 r2 h2 => k b H2 dv m2 (t1.trans t2) rm2 r2 h2
  | _ => exact h1.elim
theorem ge_not {a : Expr} {pos : Pos} {d : DE} (h : GE X a d) : GE X (.UnaryOp .Not a pos) (dNotV d) := by
  obtain ⟨t, p, l⟩ := h.ex
  refine .of ⟨_, pe_not p, fun s H sd m Qd Q rs rm h k => ?_⟩
  refine l s H sd m _ _ rs rm h fun v H1 dv m1 t1 rm1 r1 h1 => ?_
  cases r1 with
  | bl c => exact ⟨c, rfl, k _ H1 _ m1 t1 rm1 (.bl _) h1⟩
  | _ => exact h1.elim
def dIfE (t : DT) (a b : DE) : DE := fun s m Q => t s m fun c m1 => if c = true then a s m1 Q else b s m1 Q
theorem ge_ifE {c a b : Expr} {pos : Pos} {t : DT} {da db : DE} (h : GT X c t) (ha : GE X a da) (hb : GE X b db) : GE X (.IfExp c a b pos) (dIfE t da db) := by
  obtain ⟨tt, p, l⟩ := h.ex
  obtain ⟨ta, q, l2⟩ := ha.ex
  obtain ⟨tb, q2, l3⟩ := hb.ex
  refine .of ⟨_, pe_ifExp p q q2, fun s H sd m Qd Q rs rm h k => ?_⟩
  refine l s H sd m _ _ rs rm h fun b H1 m1 t1 rm1 h1 => ?_
  cases b with
  | true => exact l2 s H1 sd m1 _ _ (rs.mono t1) rm1 h1 fun b H2 dv m2 t2 rm2 r2 h2 => k b H2 dv m2 (t1.trans t2) rm2 r2 h2
  | false => exact l3 s H1 sd m1 _ _ (rs.mono t1) rm1 h1 fun b H2 dv m2 t2 rm2 r2 h2 => k b H2 dv m2 (t1.trans t2) rm2 r2 h2
def truD (m : Mu) : D → Option Bool
  | .non => some false
  | .bl b => some b
  | .int i => some (i != 0)
  | d => (seqOf m d).map fun ds => !ds.isEmpty
def dTru (a : DE) : DT := fun s m Q => a s m fun x m1 => ∃ b, truD m1 x = some b ∧ Q b m1
end
end PD
namespace PD
open PySem PySem.Spec PyProof.Rows L2 HT
section
variable {pg9 : Program} {w : World} {A : Around} {E : Value → Shared → Prop} {s : Shared}
theorem rev_places (n : Nat) : Builtin.Slice.slicePlaces ((n : Int) - 1) (-1) (-1) = n := by
  unfold Builtin.Slice.slicePlaces
  rw [if_neg (by omega)]
  by_cases h : (n : Int) - 1 > -1
  · rw [if_pos h, show -(-1 : Int) = 1 from rfl, Int.ediv_one]; omega
  · rw [if_neg h]; omega
theorem sliceApplied_rev {sc9 : Addr} {vl vu vs : Value} {n : Nat} {Q : Int × Int × Nat → Shared → Prop} (hs : s.heap.IsSliceOf sc9 vl vu vs) (pl : IsPart vl none) (pu : IsPart vu none) (ps : IsPart vs (some (-1)))
    (h : Q ((n : Int) - 1, -1, n) s) : wpAny (model pg9 w) A (Builtin.Slice.sliceApplied (.ref sc9) (pure (n : Int))) Q E s := by
  obtain ⟨os, uos, ucs, uds⟩ := id hs
  unfold Builtin.Slice.sliceApplied Builtin.Slice.sliceFields
  refine wpAny_bind (wpAny_bind (wpAny_field uos uds (x := vl) rfl (wpAny_bind (wpAny_field uos uds (x := vu) rfl (wpAny_bind (wpAny_field uos uds (x := vs) rfl (wpAny_pure ?_)))))))
  refine wpAny_bind (slicePart_ ps ?_)
  show wpAny _ _ (if ((-1 : Int) == 0) = true then _ else _) _ _ s
  rw [if_neg (by decide)]
  refine wpAny_bind (slicePart_ pl (wpAny_bind (slicePart_ pu (wpAny_bind (wpAny_pure ?_)))))
  show wpAny _ _ (match Builtin.Slice.sliceAdjust none none (-1) (n : Int) with | (lo, hi) => pure (lo, (-1 : Int), Builtin.Slice.slicePlaces lo hi (-1))) _ _ s
  have e : Builtin.Slice.sliceAdjust none none (-1) (n : Int) = ((n : Int) - 1, -1) := rfl
  rw [e]
  show wpAny _ _ (pure ((n : Int) - 1, (-1 : Int), Builtin.Slice.slicePlaces ((n : Int) - 1) (-1) (-1))) _ _ s
  rw [rev_places]
  exact wpAny_pure h
theorem fm_congr {α β : Type} {f g : α → Option β} : ∀ {l : List α}, (∀ x ∈ l, f x = g x) → l.filterMap f = l.filterMap g
  | [], _ => rfl
  | x :: l, h => by
    rw [List.filterMap_cons, List.filterMap_cons, h x (List.mem_cons_self ..), fm_congr fun y hy => h y (List.mem_cons_of_mem _ hy)]
theorem fm_get {α : Type} (l : List α) : (List.range l.length).filterMap (fun (m : Nat) => l[m]?) = l := by
  have h1 : (List.range l.length).map (fun (m : Nat) => l[m]?) = l.map some := by
    apply List.ext_getElem?
    intro j
    rw [List.getElem?_map, List.getElem?_map]
    by_cases hj : j < l.length
    · rw [List.getElem?_eq_getElem (by rw [List.length_range]; exact hj), List.getElem_range]
      show some l[j]? = Option.map some l[j]?
      rw [List.getElem?_eq_getElem hj]; rfl
    · rw [List.getElem?_eq_none (by rw [List.length_range]; omega), List.getElem?_eq_none (by omega)]; rfl
  have h2 : (List.range l.length).filterMap (fun (m : Nat) => l[m]?) = ((List.range l.length).map (fun (m : Nat) => l[m]?)).filterMap id := by
    rw [List.filterMap_map]; rfl
  rw [h2, h1, List.filterMap_map]
  show l.filterMap some = l
  exact List.filterMap_some
theorem pick_rev (xs : Array Value) : ((List.range xs.size).filterMap fun (m : Nat) => xs[(((xs.size : Int) - 1) + (m : Int) * (-1)).toNat]?).toArray = xs.toList.reverse.toArray := by
  congr 1
  have e : ∀ (m : Nat), m ∈ List.range xs.size → xs[(((xs.size : Int) - 1) + (m : Int) * (-1)).toNat]? = xs.toList.reverse[m]? := fun m hm => by
    have hm' : m < xs.size := List.mem_range.mp hm
    have : (((xs.size : Int) - 1) + (m : Int) * (-1)).toNat = xs.size - 1 - m := by omega
    rw [this, List.getElem?_reverse (by rw [Array.length_toList]; exact hm'), Array.getElem?_toList, Array.length_toList]
  rw [fm_congr e]
  have hl : xs.toList.reverse.length = xs.size := by rw [List.length_reverse, Array.length_toList]
  have z := fm_get xs.toList.reverse
  rw [hl] at z
  exact z
theorem getItem_tuple_rev {t sc9 : Addr} {gs9 : Array Value} {vl vu vs : Value} {Q : Value → Shared → Prop} (th9 : IsTup s.heap t gs9) (hs : s.heap.IsSliceOf sc9 vl vu vs) (pl : IsPart vl none) (pu : IsPart vu none) (ps : IsPart vs (some (-1)))
    (h : Q (.ref s.heap.objs.size) { s with heap := s.heap.push { cls := .type "tuple", data := .seq gs9.toList.reverse.toArray } })
    (sz9 : gs9.size ≤ sizeLine) : wpAny (model pg9 w) A (getItem (.ref t) (.ref sc9)) Q E s := by
  have take9 : sizeOk (.seq gs9.toList.reverse.toArray) := by
    show gs9.toList.reverse.toArray.size ≤ sizeLine
    rw [List.size_toArray, List.length_reverse, Array.length_toList]
    exact sz9
  obtain ⟨os, uos, ucs, uds⟩ := id hs
  have uTs : s.TypeIs (.ref sc9) "slice" := ⟨os, uos, ucs⟩
  unfold getItem
  try with_reducible refine wpAny_holding ?_
  first | refine wpAny_bind (wpAny_pure ?_) | skip
  refine wpAny_bind (wpAny_sequenceKey th9.typeIs (by decide) ?_)
  refine wpAny_bind (wpAny_callSpecial?_slot (name := Str.ofString "__getitem__") th9.typeIs PyProof.Rows.slot_tuple_getitem
    (wpAny_call_entry PyProof.Rows.slot_tuple_getitem th9.typeIs entry_tuple_getitem ?_ (args_tuple_getitem _ _)))
  show wpAny _ _ (Builtin.Tuple.tupleItemsOf (.ref t) >>= _) _ _ s
  refine wpAny_bind (tupleItemsOf_ th9 ?_)
  refine wpAny_bind (wpAny_typeOf uTs ?_)
  rw [if_pos (by decide)]
  refine wpAny_bind (sliceApplied_rev hs pl pu ps ?_)
  have hno : ¬ (((((gs9.size : Nat) : Int) - 1) == 0 && (-1 : Int) == 1 && gs9.size == gs9.size) = true) := by
    intro q
    rw [Bool.and_eq_true, Bool.and_eq_true] at q
    exact absurd (eq_of_beq q.1.2) (by decide)
  show wpAny _ _ (if ((((gs9.size : Nat) : Int) - 1) == 0 && (-1 : Int) == 1 && gs9.size == gs9.size) = true then _ else _) _ _ s
  rw [if_neg hno, pick_rev]
  first
    | exact wpAny_bind (m := Builtin.Tuple.tupleExact _) (wpAny_newObj_type (wpAny_pure ⟨_, rfl, wpAny_pure h⟩) take9)
    | exact wpAny_bind (m := Builtin.Tuple.tupleExact _) (wpAny_newObj_type (wpAny_bind (wpAny_pure (wpAny_pure ⟨_, rfl, wpAny_pure h⟩))) take9)
    | exact wpAny_bind (wpAny_bind (m := Builtin.Tuple.tupleExact _) (wpAny_newObj_type (wpAny_pure (wpAny_pure ⟨_, rfl, wpAny_pure h⟩)) take9))
    | exact wpAny_bind (wpAny_bind (m := Builtin.Tuple.tupleExact _) (wpAny_newObj_type (wpAny_pure ⟨_, rfl, wpAny_pure h⟩) take9))
end
section
variable {X : Cx}
def tRevS (K : PySem.W.Frag) (te : TE) : TE := fun τ H Q => te τ H fun x H1 => ∃ a xs, x = .ref a ∧ ((SqL K H1 a xs ∧ ∀ p, H1 p = none → Q (.ref p) (upd H1 p (.lst xs.reverse))) ∨ (SqT K H1 a xs ∧ ∀ p, H1 p = none → Q (.ref p) (upd H1 p (.tup xs.reverse))))
theorem pe_revS {e : Expr} {te : TE} {k : Nat} {p1 p2 p3 pos : Pos} (he : PE X e te) : PE X (.Subscript e (.Slice none none (some (.UnaryOp .USub (.Constant (.int 1) k p1) p2)) p3) pos) (tRevS X.K te) := by
  refine ⟨fun pz s τ H Q I h => ?_⟩
  refine Subscript_ (thn (he.run pz s τ H _ I h) fun v tA ⟨x, H1, iA, r1, q1⟩ => ?_)
  obtain ⟨a, xs, ex, q⟩ := q1
  subst ex
  cases r1
  have st9 : PO X (some (.UnaryOp .USub (.Constant (.int 1) k p1) p2)) (tPart (tUn (rU fun i => .int (-i)) (tC (.int 1)))) := po_some (pe_un un_neg pe_int)
  refine wpAny_Slice (thn (po_none.run pz tA τ H1 (fun o H2 => o = none ∧ H2 = H1) iA ⟨rfl, rfl⟩) fun vl tB ⟨l, H2, iB, pl, el, e2⟩ => ?_)
  subst el e2
  refine thn (po_none.run pz tB τ H2 (fun o H3 => o = none ∧ H3 = H2) iB ⟨rfl, rfl⟩) fun vu tC ⟨u, H3, iC, pu, eu, e3⟩ => ?_
  subst eu e3
  refine thn (st9.run pz tC τ H3 (fun o H4 => o = some (-1) ∧ H4 = H3) iC ⟨1, rfl, -1, rfl, rfl, rfl⟩) fun vs tD ⟨o, H4, iD, ps, eo, e4⟩ => ?_
  subst eo e4
  have iE : Inv X pz τ H4 { tD with heap := tD.heap.push { cls := .type "slice", data := .fields #[vl, vu, vs] } } := iD.kept (t' := tD.toks) fun b ob q => Heap.get?_push_of_some _ q
  show wpAny (model X.prog X.w) X.A (subscriptTail e (.Slice none none (some (.UnaryOp .USub (.Constant (.int 1) k p1) p2)) p3) (.ref a) (.ref tD.heap.objs.size)) (EP X pz τ Q) X.xe { tD with heap := tD.heap.push { cls := .type "slice", data := .fields #[vl, vu, vs] } }
  rcases q with ⟨hx, q⟩ | ⟨hx, q⟩
  · obtain ⟨xs9, r, th9, hs9⟩ := iE.list hx
    have hlen := r.length
    refine tail_any (ops := [.ref a, .ref tD.heap.objs.size]) th9.isList.typeIs (PySem.slot_list_getitem.lookup) ?_ (by with_unfolding_all rfl)
    refine wpAny_getItem_list_slice th9.isList (Heap.IsSliceOf.new _ vl vu vs) pl pu ps (by decide) ?_ (by rw [List.size_toArray]; omega)
    rw [PySem.W.krv_pick]
    refine ⟨.ref _, _, iE.laid (t' := tD.toks) (o := .lst xs.reverse) (fun b ob q => Heap.get?_push_of_some _ q) (Nat.le_refl _) ?_, rfl, q _ (iE.hok.fresh (Nat.le_refl _))⟩
    exact ⟨by rw [List.length_reverse]; exact hs9, _, 0, r.reverse, Heap.get?_push_size _ rfl⟩
  · obtain ⟨xs9, r, th9, hs9⟩ := iE.tuple hx
    have hlen := r.length
    refine tail_any (ops := [.ref a, .ref tD.heap.objs.size]) th9.typeIs (PyProof.Rows.slot_tuple_getitem.lookup) ?_ (by with_unfolding_all rfl)
    refine getItem_tuple_rev th9 (Heap.IsSliceOf.new _ vl vu vs) pl pu ps ?_ (by rw [List.size_toArray]; omega)
    refine ⟨.ref _, _, iE.laid (t' := tD.toks) (o := .tup xs.reverse) (fun b ob q => Heap.get?_push_of_some _ q) (Nat.le_refl _) ?_, rfl, q _ (iE.hok.fresh (Nat.le_refl _))⟩
    exact ⟨by rw [List.length_reverse]; exact hs9, _, r.reverse, ⟨_, Heap.get?_push_size _ rfl, rfl, _, rfl⟩⟩
def dRev (de : DE) : DE := fun s m Q => de s m fun x m1 => match x with
  | .tup ds => Q (.tup ds.reverse) m1
  | .ref a => ∃ ds, seqOf m1 (.ref a) = some ds ∧ ∀ p, m1 p = none → Q (.ref p) (mset m1 p (.lst ds.reverse))
  | _ => False
theorem ge_rev {e : Expr} {de : DE} {k : Nat} {p1 p2 p3 pos : Pos} (he : GE X e de) : GE X (.Subscript e (.Slice none none (some (.UnaryOp .USub (.Constant (.int 1) k p1) p2)) p3) pos) (dRev de) := by
  obtain ⟨te, p, l⟩ := he.ex
  refine .of ⟨_, pe_revS p, fun s H sd m Qd Q rs rm h k => ?_⟩
  refine l s H sd m _ _ rs rm h fun v H1 dv m1 t1 rm1 r1 h1 => ?_
  cases r1 with
  | @tup ds a vs sa ra => exact ⟨a, vs, rfl, .inr ⟨sa, fun p hp => k _ _ _ m1 (t1.trans (.new hp)) (rm1.skip hp) (.tup upd_same (ra.rev.mono (.new hp))) h1⟩⟩
  | ref a =>
    obtain ⟨ds, e, q⟩ := h1
    obtain ⟨vs, sc9, r⟩ := ref_rep rm1 e
    exact ⟨a, vs, rfl, .inl ⟨sc9, fun p hp => k _ _ _ _ (t1.trans (.new hp)) (rm1.newL hp r.rev) (.ref p) (q p (rm1.fresh hp))⟩⟩
  | _ => exact h1.elim
def rExtendU (K : PySem.W.Frag) : V → List V → Hp → VK → Prop := fun x vs H Q => ∃ l b xs zs, x = .ref l ∧ vs = [.ref b] ∧ H l = some (.lst xs) ∧ (H b = some (.lst zs) ∨ SqT K H b zs) ∧ xs.length + zs.length ≤ sizeLine ∧ Q .non (upd H l (.lst (xs ++ zs)))
theorem pd_extend_tuple (l : Addr) (gs9 : Array Value) (n : Nat) (b : Addr) (gt9 : Array Value) (n2 : Nat) (dd : Option Addr) (sc9 : Array (Option Value)) (hs0 : ¬(!gs9.isEmpty && Builtin.List.listTooLong (gs9.size + gt9.size)) = true) (hs1 : gs9.size ≤ sizeLine) (hs2 : gs9.size + gt9.size ≤ sizeLine + 1) :
    Meets (Builtin.«list.extend» ⟨[.ref l, .ref b], []⟩) (fun _ R s => s.heap.get? l = some { cls := .type "list", dict := none, data := .seq gs9 n, slots := #[] } ∧ s.heap.get? b = some { cls := .type "tuple", dict := dd, data := .seq gt9 n2, slots := sc9 } ∧ R (.ok (.ret Value.none)) { s with heap := s.heap.update l (Obj.mapSeq fun x => x ++ gt9) }) :=
  .of_wp fun pg9 w A R s h => by
    obtain ⟨hp, g, d, tk, os⟩ := s; obtain ⟨hl, hb, h⟩ := h; have f1 := AutoSeq1.idx_int; have f2 := sub_tuple_tuple; have f3 := sub_list_list; have f4 := sub_tuple_list; have f5 := sub_list_tuple;
    have hz' : (gs9 ++ gt9).size ≤ sizeLine + 1 := by rw [Array.size_append]; exact hs2
    wp_walk using (wpAny_updateSeq hl rfl (hz := hs1) (_hz' := hz')), AutoSeq1.wpAny_loadPart' hl, AutoSeq1.wpAny_loadPart' hb; exact ⟨_, rfl, h⟩
theorem mt_extendU : MtM X "list.extend" (rExtendU X.K) := by
  intro pz s τ H x vs v us Q I rx ra9 h
  obtain ⟨l, b, xs, zs, rfl, rfl, hH, hB, hs9, q⟩ := h
  rcases hB with hB | hB
  · exact mt_extend pz s τ H _ _ v us Q I rx ra9 ⟨l, b, xs, zs, rfl, rfl, hH, hB, hs9, q⟩
  · cases rx
    obtain ⟨u, rfl, ru⟩ := ra9.one
    cases ru
    obtain ⟨z, xs9, n, r, hl, e⟩ := I.lstM hH
    obtain ⟨ys9, r2, p2, hl2⟩ := I.tuple hB
    obtain ⟨⟨c2, dd2, dt2, sl2⟩, e2, hc2, n2, hd2⟩ := id p2
    replace hc2 : c2 = .type "tuple" := hc2
    replace hd2 : dt2 = .seq ys9.toArray n2 := hd2
    subst hc2 hd2
    have le9 := r2.length
    have sz9 : xs9.toArray.size + ys9.toArray.size ≤ sizeLine := by rw [List.size_toArray, List.size_toArray]; omega
    have hlong : ¬ (!xs9.toArray.isEmpty && Builtin.List.listTooLong (xs9.toArray.size + ys9.toArray.size)) = true := by
      rw [notLongL sz9, Bool.and_false]
      exact Bool.false_ne_true
    refine call_meets F.slot_list_extend ⟨_, e, rfl⟩ F.entry_list_extend (F.args_list_extend_2 _ _)
      (pd_extend_tuple l xs9.toArray n b ys9.toArray n2 dd2 sl2 hlong (by rw [List.size_toArray]; omega) (by omega)) ⟨e, e2, ?_⟩
    refine ⟨.non, _, I.lset (its' := xs9 ++ ys9) hH e (by simp) (r.append r2) ?_, rfl, q⟩
    rw [List.length_append]
    omega
theorem lm_extend {K : PySem.W.Frag} : LM K (rExtendU K) dExtend := fun x vs H dx ds m Qd Q rm rx r h k => by
  match ds, r, h with
  | [.tup zs], r, h =>
    obtain ⟨a, es, zs', e, e1, hs9, q⟩ := h
    cases e1
    obtain ⟨rfl, rfl, _, ws, e2, r2⟩ := lst_rep rm rx e
    obtain ⟨v, rfl, ra9⟩ := repL1 r
    cases ra9 with
    | @tup _ b us sb rb => exact ⟨a, b, ws, us, rfl, rfl, e2, .inr sb, by rw [← r2.length, ← rb.length]; exact hs9, k _ _ _ _ (.lst e2) (rm.setL e2 (r2.append rb)) .non q⟩
  | [.ref b], r, h =>
    obtain ⟨a, es, zs, e, e1, hs9, q⟩ := h
    obtain ⟨rfl, rfl, _, ws, e2, r2⟩ := lst_rep rm rx e
    obtain ⟨v, rfl, ra9⟩ := repL1 r
    cases ra9
    unfold seqW at e1
    cases e3 : m b with
    | none => simp only [e3] at e1; cases e1
    | some o =>
      have z := rm b o e3
      cases o with
      | lst ys =>
        simp only [e3] at e1; cases e1
        obtain ⟨us, e4, rb⟩ := z
        exact ⟨a, b, ws, us, rfl, rfl, e2, .inl e4, by rw [← r2.length, ← rb.length]; exact hs9, k _ _ _ _ (.lst e2) (rm.setL e2 (r2.append rb)) .non q⟩
      | _ => simp only [e3] at e1; cases e1
  | [.non], _, h => obtain ⟨_, _, _, _, e, _⟩ := h; cases e
  | [.bl _], _, h => obtain ⟨_, _, _, _, e, _⟩ := h; cases e
  | [.int _], _, h => obtain ⟨_, _, _, _, e, _⟩ := h; cases e
  | [.str _], _, h => obtain ⟨_, _, _, _, e, _⟩ := h; cases e
  | [.rol _], _, h => obtain ⟨_, _, _, _, e, _⟩ := h; cases e
  | [.dic _ _], _, h => obtain ⟨_, _, _, _, e, _⟩ := h; cases e
  | [.dicT _ _], _, h => obtain ⟨_, _, _, _, e, _⟩ := h; cases e
  | [.obj _ _ _], _, h => obtain ⟨_, _, _, _, e, _⟩ := h; cases e
end
end PD
namespace PD
open PySem PySem.Spec PyProof.Rows L2
section
variable {X : Cx}
theorem isEmptyL {K : PySem.W.Frag} {H : Hp} {ds : List D} {vs : List V} (r : RepL K H ds vs) : ds.isEmpty = vs.isEmpty := by
  cases r <;> rfl
theorem gt_tru {a : Expr} {da : DE} (ha : GE X a da) (he : ∀ whole, isTrue a X.env whole = (do let v ← whole; standAt a.pos; holding [v] (truthy v)) := by intro _; rfl) : GT X a (dTru da) := by
  obtain ⟨ta, p, l⟩ := ha.ex
  refine .of ⟨_, pt_truth p he, fun s H sd m Qd Q rs rm h k => ?_⟩
  refine l s H sd m _ _ rs rm h fun v H1 dv m1 t1 rm1 r1 h1 => ?_
  obtain ⟨b, e, q⟩ := h1
  refine ⟨b, ?_, k b H1 m1 t1 rm1 q⟩
  cases r1 with
  | non => cases e; rfl
  | bl c => cases e; rfl
  | int i => cases e; rfl
  | str z => cases e
  | @tup ds a vs sa ra =>
    cases e
    exact .inr (.inl ⟨vs, sa, by rw [← isEmptyL ra]⟩)
  | dic _ _ _ => cases e
  | dicT _ _ _ => cases e
  | obj _ _ _ => cases e
  | rol s r =>
    cases e
    exact .inl ⟨_, s.sq, by rw [← isEmptyL r]⟩
  | ref a =>
    have e : (seqOf m1 (.ref a)).map (fun ds => !ds.isEmpty) = some b := e
    cases e2 : seqOf m1 (.ref a) with
    | none => rw [e2] at e; cases e
    | some ds =>
      rw [e2] at e; cases e
      obtain ⟨vs, sl, r⟩ := ref_rep rm1 e2
      exact .inl ⟨vs, sl, by rw [← isEmptyL r]⟩
def dNext : DS := fun E s m => E.nx s m
def dSeq (t u : DS) : DS := fun E s m => t { E with nx := u E } s m
theorem gss_nil : GSs X [] dNext := ⟨_, pss_nil, fun s H sd m Ed E rs rm h k1 _ _ _ => k1 s H sd m (.refl H) rs rm h⟩
theorem LS.seq {K : PySem.W.Frag} {t u : TS} {d e : DS} (l : LS K t d) (l2 : LS K u e) : LS K (tSeq t u) (dSeq d e) := fun s H sd m Ed E rs rm h k1 k2 k3 k4 => by
  refine l s H sd m { Ed with nx := e Ed } { E with nx := u E } rs rm h (fun s' H' sd' m' t1 rs1 rm1 h1 => ?_) k2 k3 k4
  exact l2 s' H' sd' m' Ed E rs1 rm1 h1 (fun tB H2 sd2 m2 t2 a b c => k1 tB H2 sd2 m2 (t1.trans t2) a b c) (fun v H2 dv m2 t2 a b c => k2 v H2 dv m2 (t1.trans t2) a b c)
    (fun tB H2 sd2 m2 t2 a b c => k3 tB H2 sd2 m2 (t1.trans t2) a b c) (fun tB H2 sd2 m2 t2 a b c => k4 tB H2 sd2 m2 (t1.trans t2) a b c)
theorem gss_cons {st : Stmt} {rest : List Stmt} {d e : DS} (h1 : GS X st d) (h2 : GSs X rest e) : GSs X (st :: rest) (dSeq d e) := by
  obtain ⟨t, p, l⟩ := h1.ex
  obtain ⟨u, q, l2⟩ := h2.ex
  exact ⟨_, pss_cons p q, l.seq l2⟩
theorem gss_one {st : Stmt} {d : DS} (h1 : GS X st d) : GSs X [st] d := by
  obtain ⟨t, p, l⟩ := h1.ex
  exact ⟨_, pss_one p, l⟩
def dDrop (a : DE) : DS := fun E s m => a s m fun _ m1 => E.nx s m1
theorem gs_expr {e : Expr} {pos : Pos} {d : DE} (he : GE X e d) (hs : swapsWith e none pos.line X.env = pure false := by rfl) : GS X (.Expr e pos) (dDrop d) := by
  obtain ⟨t, p, l⟩ := he.ex
  exact ⟨_, ps_expr p hs, fun s H sd m Ed E rs rm h k1 _ _ _ => l s H sd m _ _ rs rm h fun v H1 dv m1 t1 rm1 r1 h1 => k1 s H1 sd m1 t1 (rs.mono t1) rm1 h1⟩
def dRet (a : DE) : DS := fun E s m => a s m E.rt
theorem gs_ret {e : Expr} {pos : Pos} {d : DE} (he : GE X e d) : GS X (.Return (some e) pos) (dRet d) := by
  obtain ⟨t, p, l⟩ := he.ex
  exact ⟨_, ps_ret p, fun s H sd m Ed E rs rm h _ k2 _ _ => l s H sd m _ _ rs rm h fun v H1 dv m1 t1 rm1 r1 h1 => k2 v H1 dv m1 t1 rm1 r1 h1⟩
def dRetN : DS := fun E _ m => E.rt .non m
def dIfS (c : DT) (t u : DS) : DS := fun E s m => c s m fun b m1 => if b = true then t E s m1 else u E s m1
theorem gs_if {c : Expr} {a b : List Stmt} {pos : Pos} {dc : DT} {t u : DS} (hc : GT X c dc) (ha : GSs X a t) (hb : GSs X b u) : GS X (.If c a b pos) (dIfS dc t u) := by
  obtain ⟨tc, p, l⟩ := hc.ex
  obtain ⟨ta, q, l2⟩ := ha.ex
  obtain ⟨tb, q2, l3⟩ := hb.ex
  refine ⟨_, ps_if p q q2, fun s H sd m Ed E rs rm h k1 k2 k3 k4 => ?_⟩
  refine l s H sd m _ _ rs rm h fun b H1 m1 t1 rm1 h1 => ?_
  have c1 : ∀ tB H2 sd2 m2, TX H1 H2 → RS X.K H2 sd2 tB → RM X.K H2 m2 → Ed.nx sd2 m2 → E.nx tB H2 := fun tB H2 sd2 m2 t2 a b c => k1 tB H2 sd2 m2 (t1.trans t2) a b c
  have c2 : ∀ v H2 dv m2, TX H1 H2 → RM X.K H2 m2 → Rep X.K H2 dv v → Ed.rt dv m2 → E.rt v H2 := fun v H2 dv m2 t2 a b c => k2 v H2 dv m2 (t1.trans t2) a b c
  have c3 : ∀ tB H2 sd2 m2, TX H1 H2 → RS X.K H2 sd2 tB → RM X.K H2 m2 → Ed.bk sd2 m2 → E.bk tB H2 := fun tB H2 sd2 m2 t2 a b c => k3 tB H2 sd2 m2 (t1.trans t2) a b c
  have c4 : ∀ tB H2 sd2 m2, TX H1 H2 → RS X.K H2 sd2 tB → RM X.K H2 m2 → Ed.ct sd2 m2 → E.ct tB H2 := fun tB H2 sd2 m2 t2 a b c => k4 tB H2 sd2 m2 (t1.trans t2) a b c
  cases b with
  | true =>
    show ta E s H1
    exact l2 s H1 sd m1 Ed E (rs.mono t1) rm1 h1 c1 c2 c3 c4
  | false =>
    show tb E s H1
    exact l3 s H1 sd m1 Ed E (rs.mono t1) rm1 h1 c1 c2 c3 c4
abbrev DG := D → Sd → Mu → (Sd → Mu → Prop) → Prop
abbrev DGs := List D → Sd → Mu → (Sd → Mu → Prop) → Prop
/-- js: the slots that may be set -/
def Own (js : List Nat) (s tB : L2.St) : Prop := ∀ vs : List Nat, (∀ j ∈ js, j ∈ vs) → wipe tB vs = wipe s vs
def LG (K : PySem.W.Frag) (g : TG) (dg : DG) (js : List Nat) : Prop := ∀ x dx s H sd m (Qd : Sd → Mu → Prop) (Q : L2.St → Hp → Prop), Rep K H dx x → RS K H sd s → RM K H m → dg dx sd m Qd →
  (∀ s' H' sd' m', TX H H' → RS K H' sd' s' → RM K H' m' → Qd sd' m' → Own js s s' → Q s' H') → g x s H Q
def LGs (K : PySem.W.Frag) (g : TGs) (dg : DGs) (js : List Nat) : Prop := ∀ xs dxs s H sd m (Qd : Sd → Mu → Prop) (Q : L2.St → Hp → Prop), RepL K H dxs xs → RS K H sd s → RM K H m → dg dxs sd m Qd →
  (∀ s' H' sd' m', TX H H' → RS K H' sd' s' → RM K H' m' → Qd sd' m' → Own js s s' → Q s' H') → g xs s H Q
def liftG (K : PySem.W.Frag) (dg : DG) (js : List Nat) : TG := fun x s H Q => ∃ dx sd m Qd, Rep K H dx x ∧ RS K H sd s ∧ RM K H m ∧ dg dx sd m Qd ∧ ∀ s' H' sd' m', TX H H' → RS K H' sd' s' → RM K H' m' → Qd sd' m' → Own js s s' → Q s' H'
theorem liftG_le (K : PySem.W.Frag) (dg : DG) (js : List Nat) : LG K (liftG K dg js) dg js := fun x dx s H sd m Qd Q rx rs rm h k => ⟨dx, sd, m, Qd, rx, rs, rm, h, k⟩
structure GG (X : Cx) (tg : Expr) (dg : DG) (js : List Nat) : Prop where
  mk ::
  pg : PG X tg (liftG X.K dg js)
theorem GG.of {X : Cx} {tg : Expr} {g : TG} {dg : DG} {js : List Nat} (p : PG X tg g) (l : LG X.K g dg js) : GG X tg dg js :=
  ⟨⟨fun pz s τ H v u Q I r ⟨dx, sd, m, Qd, rx, rs, rm, h, k⟩ => p.run pz s τ H v u Q I r (l v dx τ H sd m Qd Q rx rs rm h k)⟩⟩
theorem GG.lg {X : Cx} {tg : Expr} {dg : DG} {js : List Nat} (h : GG X tg dg js) : LG X.K (liftG X.K dg js) dg js := liftG_le _ _ _
structure GGs (X : Cx) (ts : List Expr) (dg : DGs) (js : List Nat) : Prop where
  ex : ∃ g, PGs X ts g ∧ LGs X.K g dg js
theorem wipe_set {v : Option V} {j : Nat} : ∀ {vs : List Nat} {s : L2.St}, j ∈ vs → wipe (s.set j v) vs = wipe s vs
  | [], _, h => by cases h
  | i :: vs, s, h => by
    unfold wipe
    by_cases e : j = i
    · subst e
      by_cases h2 : j ∈ vs
      · rw [wipe_set h2]
      · have : ∀ {ws : List Nat} {s : L2.St}, j ∉ ws → wipe (s.set j v) ws = (wipe s ws).set j v := fun {ws} {s} => by
          induction ws with
          | nil => intro _; rfl
          | cons w ws ih =>
            intro hn
            unfold wipe
            rw [ih fun z => hn (List.mem_cons_of_mem _ z)]
            rw [List.set_comm _ _ (fun z => hn (by rw [z]; exact List.mem_cons_self ..))]
        rw [this h2, List.set_set]
    · rw [wipe_set (by rcases List.mem_cons.mp h with z | z; exact absurd z e; exact z)]
def dgN (j : Nat) : DG := fun d s m Q => Q (s.set j (some d)) m
theorem gg_name {pos : Pos} {i : Nat} {x : Str} (hN : X.N.Nodup) (hi : X.N[i]? = some x) (hx : Loc X.env.scope x) (hf : X.fn x = true ∨ X.env.scope.names.lookup x = some .local := by first | exact .inl rfl | exact .inr rfl | assumption) : GG X (.Name x pos) (dgN i) [i] :=
  .of (pg_name hN hi hx hf) fun x dx s H sd m Qd Q rx rs rm h k => k _ H _ m (.refl H) (rs.set rx i) rm h fun vs hv => wipe_set (hv i (List.mem_singleton.mpr rfl))
def dgNil : DGs := fun ds s m Q => match ds with | [] => Q s m | _ => False
def dgCons (g : DG) (r : DGs) : DGs := fun ds s m Q => match ds with | d :: ds => g d s m fun tA m1 => r ds tA m1 Q | [] => False
theorem ggs_nil : GGs X [] dgNil [] :=
  ⟨_, pgs_nil, fun xs dxs s H sd m Qd Q rx rs rm h k => by
    cases rx with
    | nil => exact ⟨rfl, k s H sd m (.refl H) rs rm h fun _ _ => rfl⟩
    | cons a b => exact h.elim⟩
theorem ggs_cons {e : Expr} {es : List Expr} {dg : DG} {dgs : DGs} {js ks : List Nat} (h1 : GG X e dg js) (h2 : GGs X es dgs ks) (hs : (assignEach (e :: es) X.env).map (·.2) = assign e X.env :: (assignEach es X.env).map (·.2) := by rfl) : GGs X (e :: es) (dgCons dg dgs) (js ++ ks) := by
  obtain ⟨gs, p2, l2⟩ := h2.ex
  exact ⟨_, pgs_cons h1.pg p2 hs, fun xs dxs s H sd m Qd Q rx rs rm h k => by
    cases rx with
    | nil => exact h.elim
    | cons a b =>
      refine ⟨_, _, rfl, h1.lg _ _ s H sd m _ _ a rs rm h fun tA H1 sd1 m1 t1 rs1 rm1 q1 o1 => ?_⟩
      exact l2 _ _ tA H1 sd1 m1 _ _ (b.mono t1) rs1 rm1 q1 fun tB H2 sd2 m2 t2 rs2 rm2 q2 o2 => k tB H2 sd2 m2 (t1.trans t2) rs2 rm2 q2 fun vs hv =>
        (o2 vs fun j hj => hv j (List.mem_append_right _ hj)).trans (o1 vs fun j hj => hv j (List.mem_append_left _ hj))⟩
def dgTup (n : Nat) (g : DGs) : DG := fun d s m Q => match d with | .tup ds => ds.length = n ∧ g ds s m Q | _ => False
theorem gg_tup {es : List Expr} {k n : Nat} {pos : Pos} {dg : DGs} {js : List Nat} (hc : X.calm = true) (h : GGs X es dg js) (hn : (assignEach es X.env).length = n := by rfl) (hst : (assignEach es X.env).findIdx? (·.1) = none := by rfl) : GG X (.Tuple es k pos) (dgTup n dg) js := by
  obtain ⟨g, p, l⟩ := h.ex
  exact .of (pg_tup hc p hn hst) fun x dx s H sd m Qd Q rx rs rm hh k => by
    cases rx with
    | @tup ds a vs sa ra => exact ⟨a, vs, rfl, sa, by rw [← ra.length]; exact hh.1, l _ _ s H sd m Qd Q ra rs rm hh.2 k⟩
    | _ => exact hh.elim
def dAsg (e : DE) (g : DG) : DS := fun E s m => e s m fun x m1 => g x s m1 E.nx
theorem gs_asg {tg e : Expr} {pos : Pos} {de : DE} {dg : DG} {js : List Nat} (he : GE X e de) (hg : GG X tg dg js) (hs : swapsWithSole [tg] e pos.line X.env = pure false := by rfl) (hw : swappedStores [tg] e X.env = pure none := by rfl) (h1 : (assignEach [tg] X.env).map (·.2) = [assign tg X.env] := by rfl) : GS X (.Assign [tg] e pos) (dAsg de dg) := by
  obtain ⟨t, p, l⟩ := he.ex
  refine ⟨_, ps_asg p hg.pg hs hw h1, fun s H sd m Ed E rs rm h k1 _ _ _ => ?_⟩
  refine l s H sd m _ _ rs rm h fun v H1 dv m1 t1 rm1 r1 h1 => ?_
  exact hg.lg v dv s H1 sd m1 _ _ r1 (rs.mono t1) rm1 h1 fun tB H2 sd2 m2 t2 rs2 rm2 q2 _ => k1 tB H2 sd2 m2 (t1.trans t2) rs2 rm2 q2
def dSet (i : Nat) (e : DE) : DS := dAsg e (dgN i)
theorem gs_set {i : Nat} {x : Str} {e : Expr} {pos pos' : Pos} {de : DE} (hN : X.N.Nodup) (hi : X.N[i]? = some x) (hx : Loc X.env.scope x) (he : GE X e de) (hs : swapsWith e (some (.Name x pos')) pos.line X.env = pure false := by rfl) (hf : X.fn x = true ∨ X.env.scope.names.lookup x = some .local := by first | exact .inl rfl | exact .inr rfl | assumption) :
    GS X (.Assign [.Name x pos'] e pos) (dSet i de) := by
  obtain ⟨t, p, l⟩ := he.ex
  refine ⟨_, ps_set hN hi hx p hs hf, fun s H sd m Ed E rs rm h k1 _ _ _ => ?_⟩
  exact l s H sd m _ _ rs rm h fun v H1 dv m1 t1 rm1 r1 h1 => k1 _ H1 _ m1 t1 ((rs.mono t1).set r1 i) rm1 h1
def dSub3 : D → D → D → Mu → (Mu → Prop) → Prop := fun o i v m Q => match i with
  | .int k => ∃ a es, lstOf m o = some (a, es) ∧ ∃ j, ixN es.length k = some j ∧ Q (mset m a (.lst (es.set j v)))
  | _ => False
def dgSub (o i : DE) : DG := fun v s m Q => o s m fun ov9 m1 => i s m1 fun iv m2 => dSub3 ov9 iv v m2 fun m3 => Q s m3
theorem gg_sub {o i : Expr} {pos : Pos} {d1 d2 : DE} (ho : GE X o d1) (hi : GE X i d2) (ha : ∀ v, assign (.Subscript o i pos) X.env v = (do
      let ov9 ← holding [v] (eval o X.env)
      let iv ← holding [v, ov9] (eval i X.env)
      standAt pos
      holding [v, ov9, iv] (setItem ov9 iv v)
      release [v, ov9, iv] []) := by intro _; rfl) : GG X (.Subscript o i pos) (dgSub d1 d2) [] :=
  .of (pg_sub ho.pe hi.pe set_list ha) fun x dx s H sd m Qd Q rx rs rm h k => by
    refine liftE_le _ d1 s H sd m _ _ rs rm h fun v H1 dv m1 t1 rm1 r1 h1 => ?_
    refine liftE_le _ d2 s H1 sd m1 _ _ (rs.mono t1) rm1 h1 fun u H2 du m2 t2 rm2 r2 h2 => ?_
    cases r2 with
    | int z =>
      obtain ⟨a, es, e, j, e2, q⟩ := h2
      obtain ⟨rfl, rfl, _, ws, e3, r3⟩ := lst_rep rm2 (r1.mono t2) e
      have t12 := t1.trans t2
      exact ⟨a, ws, z, j, rfl, rfl, e3, by rw [← r3.length]; exact e2, k s _ sd _ (t12.trans (.lst e3)) (rs.mono (t12.trans (.lst e3))) (rm2.setL e3 (RepL.set (rx.mono t12) j r3)) q fun _ _ => rfl⟩
    | _ => exact h2.elim
def dAug (i : Nat) (e : DE) (r : D2) : DS := fun E s m => match s[i]? with | some (some x) => e s m fun y m1 => r x y m1 fun z m2 => E.nx (s.set i (some z)) m2 | _ => False
end
end PD
namespace PD
open PySem PySem.Spec PyProof.Rows L2
abbrev DI := Sd → Mu → (List D → (Mu → Prop) → Mu → Prop) → Prop
structure JOk (K : PySem.W.Frag) (J : It) (es : List D) (st : Mu → Prop) (H1 : Hp) : Prop where
  go : ∀ i H m, TX H1 H → RM K H m → st m → i < es.length → J.go i H
  yld : ∀ i H x H' m, TX H1 H → RM K H m → st m → i < es.length → J.yld i H x H' → ∃ d, es[i]? = some d ∧ TX H H' ∧ RM K H' m ∧ Rep K H' d x
  stop : ∀ i H m, TX H1 H → RM K H m → st m → es.length ≤ i → J.stop i H
def LI (K : PySem.W.Frag) (wi : TI) (di : DI) : Prop := ∀ s H sd m (Rd : List D → (Mu → Prop) → Mu → Prop) (R : It → Hp → Prop), RS K H sd s → RM K H m → di sd m Rd →
  (∀ J H1 es st m1, TX H H1 → RM K H1 m1 → JOk K J es st H1 → Rd es st m1 → R J H1) → wi s H R
structure GI (X : Cx) (tg iter : Expr) (wi : TI) (di : DI) : Prop where
  pi : PI X tg iter wi
  li : LI X.K wi di
def GIE (X : Cx) (tg iter : Expr) (di : DI) : Prop := ∃ wi, GI X tg iter wi di
/-- es walked -/
def dLoop (st : Mu → Prop) (g : DG) (tb : DS) (E : DEnds) : List D → Sd → Mu → Prop
  | [] => fun s m => st m ∧ E.nx s m
  | d :: es => fun s m => st m ∧ g d s m fun s2 m2 => tb { E with nx := dLoop st g tb E es, ct := dLoop st g tb E es, bk := E.nx } s2 m2
def dFor (di : DI) (g : DG) (tb : DS) : DS := fun E s m => di s m fun es st m1 => dLoop st g tb E es s m1
section
variable {X : Cx}
theorem gs_for {tg iter : Expr} {body : List Stmt} {pos : Pos} {di : DI} {dg : DG} {js : List Nat} {d : DS} (hp : PassesOwn (model X.prog X.w) X.A X.env X.xe) (hc : X.calm = true) (hi : GIE X tg iter di) (hg : GG X tg dg js) (hb : GSs X body d) (hs : ∀ x, foldedSetIterable iter X.env x = pure x := by intro _; rfl) :
    GS X (.For tg iter body [] pos) (dFor di dg d) := by
  obtain ⟨wi, hi⟩ := hi
  obtain ⟨tb, p, l⟩ := hb.ex
  refine ⟨_, ps_for hp hc hi.pi hg.pg p hs, fun s H sd m Ed E rs rm h k1 k2 k3 k4 => ?_⟩
  refine hi.li s H sd m _ _ rs rm h fun J H1 es st m1 t1 rm1 jo h1 => ?_
  refine ⟨fun i n s' H' => i ≤ es.length ∧ n = es.length - i ∧ ∃ sd' m', TX H1 H' ∧ RS X.K H' sd' s' ∧ RM X.K H' m' ∧ dLoop st dg d Ed (es.drop i) sd' m', ⟨es.length, Nat.zero_le _, by omega, sd, m1, .refl _, rs.mono t1, rm1, h1⟩, ?_⟩
  rintro i n s' H' ⟨hle, rfl, sd', m', t2, rs2, rm2, q⟩
  by_cases hlt : i < es.length
  · rw [List.drop_eq_getElem_cons hlt] at q
    obtain ⟨hst, q⟩ := q
    refine .inr ⟨jo.go i H' m' t2 rm2 hst hlt, fun s2 H2 => ∃ sd2 m2, TX H1 H2 ∧ RS X.K H2 sd2 s2 ∧ RM X.K H2 m2 ∧ dLoop st dg d Ed (es.drop (i + 1)) sd2 m2, fun s2 H2 ⟨sd2, m2, a, b, c, e⟩ => ⟨es.length - (i + 1), by omega, hlt, rfl, sd2, m2, a, b, c, e⟩, fun x H3 hy => ?_⟩
    obtain ⟨dx, e, t3, rm3, rx⟩ := jo.yld i H' x H3 m' t2 rm2 hst hlt hy
    rw [List.getElem?_eq_getElem hlt] at e
    cases e
    refine hg.lg x _ s' H3 sd' m' _ _ rx (rs2.mono t3) rm3 q fun s4 H4 sd4 m4 t4 rs4 rm4 q4 _ => ?_
    have t14 : TX H1 H4 := t2.trans (t3.trans t4)
    refine l s4 H4 sd4 m4 _ _ rs4 rm4 q4 (fun s5 H5 sd5 m5 t5 a b c => ⟨sd5, m5, t14.trans t5, a, b, c⟩) (fun v H5 dv m5 t5 a b c => k2 v H5 dv m5 (t1.trans (t14.trans t5)) a b c)
      (fun s5 H5 sd5 m5 t5 a b c => k1 s5 H5 sd5 m5 (t1.trans (t14.trans t5)) a b c) (fun s5 H5 sd5 m5 t5 a b c => ⟨sd5, m5, t14.trans t5, a, b, c⟩)
  · have e : i = es.length := by omega
    subst e
    rw [List.drop_length] at q
    exact .inl ⟨jo.stop _ H' m' t2 rm2 q.1 (Nat.le_refl _), k1 s' H' sd' m' (t1.trans t2) rs2 rm2 q.2⟩
def dISeq (a : DE) : DI := fun s m R => a s m fun x m1 => match x with
  | .tup ds => R ds (fun _ => True) m1
  | .rol ds => R ds (fun _ => True) m1
  | .ref p => ∃ ds, seqOf m1 (.ref p) = some ds ∧ R ds (fun m' => seqOf m' (.ref p) = some ds) m1
  | _ => False
theorem gi_seq {tg l : Expr} {a : DE} (h : GE X l a) : GIE X tg l (dISeq a) :=
  ⟨iSeq X.K (liftE X.K a), pi_seq h.pe, fun s H sd m Rd R rs rm hh k => by
    refine liftE_le _ a s H sd m _ _ rs rm hh fun v H1 dv m1 t1 rm1 r1 h1 => ?_
    cases r1 with
    | @tup ds p vs sa ra =>
      refine ⟨p, rfl, .inr ⟨vs, sa, k _ H1 ds (fun _ => True) m1 t1 rm1 ⟨fun i H' m' t' _ _ hi => ?_, fun i H' x H2 m' t' rm' _ _ hy => ?_, fun i H' m' t' _ _ hi => ?_⟩ h1⟩⟩
      · have hi' : i < vs.length := by rw [← ra.length]; exact hi
        exact ⟨vs, vs[i], t'.sqT sa, List.getElem?_eq_getElem hi'⟩
      · obtain ⟨rfl, f⟩ := hy
        obtain ⟨d, e, q⟩ := ra.getV (f _ (t'.sqT sa))
        exact ⟨d, e, .refl _, rm', q.mono t'⟩
      · exact ⟨vs, t'.sqT sa, by rw [← ra.length]; exact hi⟩
    | @rol ds p vs sa ra =>
      refine ⟨p, rfl, .inl ⟨vs, sa.sq, k _ H1 ds (fun _ => True) m1 t1 rm1 ⟨fun i H' m' t' _ _ hi => ?_, fun i H' x H2 m' t' rm' _ _ hy => ?_, fun i H' m' t' _ _ hi => ?_⟩ h1⟩⟩
      · have hi' : i < vs.length := by rw [← ra.length]; exact hi
        exact ⟨vs, vs[i], (t'.ro sa).sq, List.getElem?_eq_getElem hi'⟩
      · obtain ⟨rfl, f⟩ := hy
        obtain ⟨d, e, q⟩ := ra.getV (f _ (t'.ro sa).sq)
        exact ⟨d, e, .refl _, rm', q.mono t'⟩
      · exact ⟨vs, (t'.ro sa).sq, by rw [← ra.length]; exact hi⟩
    | ref p =>
      obtain ⟨ds, e, q⟩ := h1
      obtain ⟨vs, sl, r⟩ := ref_rep rm1 e
      refine ⟨p, rfl, .inl ⟨vs, sl, k _ H1 ds (fun m' => seqOf m' (.ref p) = some ds) m1 t1 rm1 ⟨fun i H' m' t' rm' st hi => ?_, fun i H' x H2 m' t' rm' st _ hy => ?_, fun i H' m' t' rm' st hi => ?_⟩ q⟩⟩
      · obtain ⟨ws, sl', r'⟩ := ref_rep rm' st
        have hi' : i < ws.length := by rw [← r'.length]; exact hi
        exact ⟨ws, ws[i], sl', List.getElem?_eq_getElem hi'⟩
      · obtain ⟨rfl, f⟩ := hy
        obtain ⟨ws, sl', r'⟩ := ref_rep rm' st
        obtain ⟨d, e, q⟩ := r'.getV (f _ sl')
        exact ⟨d, e, .refl _, rm', q⟩
      · obtain ⟨ws, sl', r'⟩ := ref_rep rm' st
        exact ⟨ws, sl', by rw [← r'.length]; exact hi⟩
    | _ => exact h1.elim⟩
def rangeD (lo : Int) (n : Nat) : List D := (List.range n).map fun (i : Nat) => .int (lo + (i : Int))
theorem jo_range {K : PySem.W.Frag} {lo : Int} {n : Nat} {H1 : Hp} : JOk K (Itr lo n) (rangeD lo n) (fun _ => True) H1 := by
  have hl : (rangeD lo n).length = n := by unfold rangeD; rw [List.length_map, List.length_range]
  refine ⟨fun i H m _ _ _ h => ?_, fun i H x H' m _ rm _ h hy => ?_, fun i H m _ _ _ h => ?_⟩
  · rw [hl] at h; exact h
  · obtain ⟨rfl, rfl⟩ := hy
    rw [hl] at h
    exact ⟨.int (lo + (i : Int)), by unfold rangeD; rw [List.getElem?_map, List.getElem?_range h]; rfl, .refl _, rm, .int _⟩
  · rw [hl] at h; exact h
def dIRng1 (a : DA) : DI := fun s m R => a s m fun ds m1 => match ds with
  | [.int j] => -(2 ^ 62) ≤ j ∧ j < 2 ^ 62 ∧ R (rangeD 0 j.toNat) (fun _ => True) m1
  | _ => False
def dIRng2 (a : DA) : DI := fun s m R => a s m fun ds m1 => match ds with
  | [.int i, .int j] => (-(2 ^ 62) ≤ i ∧ i < 2 ^ 62 ∧ -(2 ^ 62) ≤ j ∧ j < 2 ^ 62) ∧ R (rangeD i (j - i).toNat) (fun _ => True) m1
  | _ => False
theorem gi_rng1 {tg a : Expr} {p pos : Pos} {da : DA} (hg : Gl X "range") (hm : X.mg "range" = none) (ha : GA X [a] da) (hs : starEach [a] X.env = [(false, eval a X.env)] := by rfl) :
    GIE X tg (.Call (.Name "range" p) [a] [] pos) (dIRng1 da) := by
  obtain ⟨ta, q, l⟩ := ha.ex
  refine ⟨_, pi_range1 hg hm q hs, fun s H sd m Rd R rs rm h k => ?_⟩
  refine l s H sd m _ _ rs rm h fun vs H1 ds m1 t1 rm1 r1 h1 => ?_
  match ds, r1, h1 with
  | [.int j], r1, h1 =>
    obtain ⟨v, rfl, rv⟩ := repL1 r1
    cases rv
    exact ⟨j, rfl, h1.1, h1.2.1, k _ H1 _ _ m1 t1 rm1 jo_range h1.2.2⟩
def enumD (i : Nat) : List D → List D
  | [] => []
  | d :: ds => .tup [.int (i : Int), d] :: enumD (i + 1) ds
theorem enumD_len : ∀ (ds : List D) (i : Nat), (enumD i ds).length = ds.length
  | [], _ => rfl
  | d :: ds, i => by unfold enumD; rw [List.length_cons, List.length_cons, enumD_len ds]
theorem enumD_get : ∀ (ds : List D) (i j : Nat) {d : D}, ds[j]? = some d → (enumD i ds)[j]? = some (.tup [.int ((i + j : Nat) : Int), d])
  | [], _, _, _, h => by simp at h
  | d :: ds, i, 0, _, h => by
    have e := Option.some.inj h
    subst e; rfl
  | d :: ds, i, j + 1, e, h => by
    have z := enumD_get ds (i + 1) j (d := e) (by simpa using h)
    unfold enumD
    rw [List.getElem?_cons_succ, z]
    rw [show i + 1 + j = i + (j + 1) by omega]
def dIEnum (a : DA) : DI := fun s m R => a s m fun ds m1 => match ds with
  | [.tup es] => R (enumD 0 es) (fun _ => True) m1
  | [.ref p] => ∃ es, seqOf m1 (.ref p) = some es ∧ R (enumD 0 es) (fun m' => seqOf m' (.ref p) = some es) m1
  | _ => False
theorem enum_item {K : PySem.W.Frag} {i : Nat} {x : V} {d : D} {H : Hp} {T : Addr} {m : Mu} {es : List D} (rm : RM K H m) (hT : H T = none) (e : es[i]? = some d) (r : Rep K H d x) :
    ∃ d', (enumD 0 es)[i]? = some d' ∧ TX H (upd H T (.tup [.int (i : Nat), x])) ∧ RM K (upd H T (.tup [.int (i : Nat), x])) m ∧ Rep K (upd H T (.tup [.int (i : Nat), x])) d' (.ref T) := by
  refine ⟨_, enumD_get es 0 i e, .new hT, rm.skip hT, ?_⟩
  rw [Nat.zero_add]
  exact .tup upd_same (.cons (.int _) (.cons (r.mono (.new hT)) .nil))
theorem gi_enum {e : Expr} {p pos tpos : Pos} {elts : List Expr} {kk : Nat} {da : DA} (hg : Gl X "enumerate") (hm : X.mg "enumerate" = none) (ha : GA X [e] da) (hs : starEach [e] X.env = [(false, eval e X.env)] := by rfl) :
    GIE X (.Tuple elts kk tpos) (.Call (.Name "enumerate" p) [e] [] pos) (dIEnum da) := by
  obtain ⟨ta, q, l⟩ := ha.ex
  refine ⟨_, pi_enumT hg hm q hs, fun s H sd m Rd R rs rm h k => ?_⟩
  refine l s H sd m _ _ rs rm h fun vs H1 ds m1 t1 rm1 r1 h1 => ?_
  match ds, r1, h1 with
  | [.tup es], r1, h1 =>
    obtain ⟨v, rfl, rv⟩ := repL1 r1
    cases rv with
    | @tup _ a ws sa ra =>
      refine ⟨a, rfl, .inr ⟨ws, sa, k _ H1 _ (fun _ => True) m1 t1 rm1 ⟨fun i H' m' t' _ _ hi => ?_, fun i H' x H2 m' t' rm' _ _ hy => ?_, fun i H' m' t' _ _ hi => ?_⟩ h1⟩⟩
      · rw [enumD_len] at hi
        have hi' : i < ws.length := by rw [← ra.length]; exact hi
        exact ⟨ws, ws[i], t'.sqT sa, List.getElem?_eq_getElem hi'⟩
      · obtain ⟨T, y, rfl, hT, rfl, f⟩ := hy
        obtain ⟨d, e, q⟩ := ra.getV (f _ (t'.sqT sa))
        exact enum_item rm' hT e (q.mono t')
      · rw [enumD_len] at hi
        exact ⟨ws, t'.sqT sa, by rw [← ra.length]; exact hi⟩
  | [.ref p], r1, h1 =>
    obtain ⟨es, e, q⟩ := h1
    obtain ⟨v, rfl, rv⟩ := repL1 r1
    cases rv
    obtain ⟨ws, sl, r⟩ := ref_rep rm1 e
    refine ⟨p, rfl, .inl ⟨ws, sl, k _ H1 _ (fun m' => seqOf m' (.ref p) = some es) m1 t1 rm1 ⟨fun i H' m' t' rm' st hi => ?_, fun i H' x H2 m' t' rm' st _ hy => ?_, fun i H' m' t' rm' st hi => ?_⟩ q⟩⟩
    · rw [enumD_len] at hi
      obtain ⟨us, sl', r'⟩ := ref_rep rm' st
      have hi' : i < us.length := by rw [← r'.length]; exact hi
      exact ⟨us, us[i], sl', List.getElem?_eq_getElem hi'⟩
    · obtain ⟨T, y, rfl, hT, rfl, f⟩ := hy
      obtain ⟨us, sl', r'⟩ := ref_rep rm' st
      obtain ⟨d, e, q⟩ := r'.getV (f _ sl')
      exact enum_item rm' hT e q
    · rw [enumD_len] at hi
      obtain ⟨us, sl', r'⟩ := ref_rep rm' st
      exact ⟨us, sl', by rw [← r'.length]; exact hi⟩
def dWhile (c : DT) (tb : DS) : DS := fun E s m => ∃ W : Nat → Sd → Mu → Prop, (∃ n, W n s m) ∧ ∀ n s m, W n s m →
  c s m fun b m1 => if b = true then tb { E with nx := fun s' m' => ∃ n', n' < n ∧ W n' s' m', ct := fun s' m' => ∃ n', n' < n ∧ W n' s' m', bk := E.nx } s m1 else E.nx s m1
theorem gs_while {c : Expr} {body : List Stmt} {pos : Pos} {dc : DT} {d : DS} (hp : PassesOwn (model X.prog X.w) X.A X.env X.xe) (hc : GT X c dc) (hb : GSs X body d) : GS X (.While c body [] pos) (dWhile dc d) := by
  obtain ⟨tc, p, l⟩ := hc.ex
  obtain ⟨tb, q, l2⟩ := hb.ex
  refine ⟨_, ps_while hp p q, fun s H sd m Ed E rs rm h k1 k2 k3 k4 => ?_⟩
  obtain ⟨W, ⟨n0, w0⟩, turn⟩ := h
  refine ⟨fun n s' H' => ∃ sd' m', TX H H' ∧ RS X.K H' sd' s' ∧ RM X.K H' m' ∧ W n sd' m', ⟨n0, sd, m, .refl _, rs, rm, w0⟩, ?_⟩
  rintro n s' H' ⟨sd', m', t1, rs1, rm1, w⟩
  refine l s' H' sd' m' _ _ rs1 rm1 (turn n sd' m' w) fun b H2 m2 t2 rm2 h2 => ?_
  have t12 : TX H H2 := t1.trans t2
  cases b with
  | true =>
    refine ⟨fun s3 H3 => ∃ n', n' < n ∧ ∃ sd3 m3, TX H H3 ∧ RS X.K H3 sd3 s3 ∧ RM X.K H3 m3 ∧ W n' sd3 m3, fun s3 H3 ⟨n', a, b⟩ => ⟨n', a, b⟩, ?_⟩
    exact l2 s' H2 sd' m2 _ _ (rs1.mono t2) rm2 h2 (fun s5 H5 sd5 m5 t5 a b ⟨n', c, e⟩ => ⟨n', c, sd5, m5, t12.trans t5, a, b, e⟩) (fun v H5 dv m5 t5 a b c => k2 v H5 dv m5 (t12.trans t5) a b c)
      (fun s5 H5 sd5 m5 t5 a b c => k1 s5 H5 sd5 m5 (t12.trans t5) a b c) (fun s5 H5 sd5 m5 t5 a b ⟨n', c, e⟩ => ⟨n', c, sd5, m5, t12.trans t5, a, b, e⟩)
  | false => exact k1 s' H2 sd' m2 t12 (rs1.mono t2) rm2 h2
def wipeD (s : Sd) : List Nat → Sd
  | [] => s
  | v :: vs => (wipeD s vs).set v none
theorem RS.wipe {K : PySem.W.Frag} {H : Hp} {sd : Sd} {s : L2.St} (r : RS K H sd s) : ∀ vs : List Nat, RS K H (wipeD sd vs) (wipe s vs)
  | [] => r
  | v :: vs => by
    have ih := RS.wipe r vs
    unfold wipeD L2.wipe
    refine ⟨by rw [List.length_set, List.length_set]; exact ih.len, fun i d e => ?_⟩
    rw [List.getElem?_set] at e
    rw [List.getElem?_set]
    by_cases hv : v = i
    · rw [if_pos hv] at e
      split at e
      · cases e
      · cases e
    · rw [if_neg hv] at e ⊢
      exact ih.at_ i d e
theorem wipe_wipe (s : L2.St) (vs : List Nat) : wipe (wipe s vs) vs = wipe s vs := by
  have go : ∀ ws : List Nat, (∀ w ∈ ws, w ∈ vs) → wipe (wipe s ws) vs = wipe s vs := fun ws => by
    induction ws with
    | nil => intro _; rfl
    | cons w ws ih =>
      intro h
      show wipe ((wipe s ws).set w none) vs = wipe s vs
      rw [wipe_set (h w (List.mem_cons_self ..)), ih fun x hx => h x (List.mem_cons_of_mem _ hx)]
  exact go vs fun _ h => h
def dYes : DT := fun _ m Q => Q true m
structure GTs (X : Cx) (ifs : List Expr) (d : DT) : Prop where
  mk ::
  pts : PTs X ifs (liftT X.K d)
theorem gts_nil : GTs X [] dYes := ⟨⟨fun pins s σ H Q I ⟨sd, m, Qd, rs, rm, h, k⟩ => pts_nil.run pins s σ H Q I (k true H m (.refl H) rm h)⟩⟩
theorem gts_one {c : Expr} {d : DT} (h : GT X c d) : GTs X [c] d := ⟨pts_one h.pt⟩
def dComp (st : Mu → Prop) (g : DG) (t : DT) (e : DE) (p : Addr) (s : Sd) (Q : DK) : List D → List D → Mu → Prop
  | [], acc => fun m => st m ∧ m p = some (.lst acc) ∧ Q (.ref p) m
  | d :: es, acc => fun m => st m ∧ g d s m fun s2 m2 => t s2 m2 fun b m3 =>
      if b = true then e s2 m3 fun y m4 => m4 p = some (.lst acc) ∧ acc.length < sizeLine ∧ dComp st g t e p s Q es (acc ++ [y]) (mset m4 p (.lst (acc ++ [y]))) else dComp st g t e p s Q es acc m3
def dLc (di : DI) (g : DG) (t : DT) (e : DE) (vs : List Nat) : DE := fun s m Q => di s m fun es st m1 => ∀ p, m1 p = none → dComp st g t e p (wipeD s vs) Q es [] (mset m1 p (.lst []))
theorem le_lc {s : L2.St} {H : Hp} {Q : VK} {sd : Sd} {m : Mu} {Qd : DK} {tg iter : Expr} {vs : List Nat} {wi : TI} {di : DI} {g : TG} {dg : DG} {js : List Nat} {dt : DT} {de : DE} (hi : GI X tg iter wi di) (lg : LG X.K g dg js) (hj : ∀ j ∈ js, j ∈ vs)
    (rs : RS X.K H sd s) (rm : RM X.K H m) (h : dLc di dg dt de vs sd m Qd) (k : ∀ v H' dv m', TX H H' → RM X.K H' m' → Rep X.K H' dv v → Qd dv m' → Q v H') : tLc wi g (liftT X.K dt) (liftE X.K de) vs s H Q := by
  refine hi.li s H sd m _ _ rs rm h fun J H1 es st m1 t1 rm1 jo h1 => ?_
  intro p hp
  have h2 := h1 p (rm1.fresh hp)
  have tn : TX H1 (upd H1 p (.lst [])) := .new hp
  refine ⟨fun i n H' => i ≤ es.length ∧ n = es.length - i ∧ ∃ m' acc, TX H1 H' ∧ RM X.K H' m' ∧ dComp st dg dt de p (wipeD sd vs) Qd (es.drop i) acc m', ⟨es.length, Nat.zero_le _, by omega, _, [], tn, rm1.newL hp .nil, h2⟩, ?_⟩
  rintro i n H' ⟨hle, rfl, m', acc, t2, rm2, q⟩
  by_cases hlt : i < es.length
  · rw [List.drop_eq_getElem_cons hlt] at q
    obtain ⟨hst, q⟩ := q
    refine .inr ⟨jo.go i H' m' t2 rm2 hst hlt, fun H2 => ∃ m2 acc, TX H1 H2 ∧ RM X.K H2 m2 ∧ dComp st dg dt de p (wipeD sd vs) Qd (es.drop (i + 1)) acc m2, fun H2 ⟨m2, acc, a, b, e⟩ => ⟨es.length - (i + 1), by omega, hlt, rfl, m2, acc, a, b, e⟩, fun x H3 hy => ?_⟩
    obtain ⟨dx, e, t3, rm3, rx⟩ := jo.yld i H' x H3 m' t2 rm2 hst hlt hy
    rw [List.getElem?_eq_getElem hlt] at e
    cases e
    refine lg x _ (wipe s vs) H3 (wipeD sd vs) m' _ _ rx ((rs.mono (t1.trans (t2.trans t3))).wipe _) rm3 q fun s4 H4 sd4 m4 t4 rs4 rm4 q4 ow => ?_
    refine ⟨by rw [ow _ hj, wipe_wipe], ?_⟩
    have t14 : TX H1 H4 := t2.trans (t3.trans t4)
    refine liftT_le _ dt s4 H4 sd4 m4 _ _ rs4 rm4 q4 fun b H5 m5 t5 rm5 q5 => ?_
    cases b with
    | true =>
      show liftE X.K de s4 H5 _
      refine liftE_le _ de s4 H5 sd4 m5 _ _ (rs4.mono t5) rm5 q5 fun y H6 dy m6 t6 rm6 ry q6 => ?_
      obtain ⟨e6, hz, q6⟩ := q6
      obtain ⟨ws, e7, r7⟩ := rm6 p _ e6
      exact ⟨ws, e7, by rw [← r7.length]; exact hz, _, acc ++ [dy], t14.trans (t5.trans (t6.trans (.lst e7))), rm6.setL e7 (r7.append (.cons ry .nil)), q6⟩
    | false =>
      exact ⟨m5, acc, t14.trans t5, rm5, q5⟩
  · have e : i = es.length := by omega
    subst e
    rw [List.drop_length] at q
    exact .inl ⟨jo.stop _ H' m' t2 rm2 q.1 (Nat.le_refl _), k _ H' _ m' (t1.trans t2) rm2 (.ref p) q.2.2⟩
theorem ge_lc {elt tg iter : Expr} {ifs : List Expr} {scope : Scope} {own : List (Str × Nat)} {pos : Pos} {di : DI} {dg : DG} {js : List Nat} {dt : DT} {de : DE} (hc : X.calm = true) (hN : X.N.Nodup) (hi : GIE X tg iter di) (ok : BlkOk X.N X.env.scope scope own)
    (hg : ∀ (s : Shared) (H : Hp) (C : Addr) (cl : List (Str × Addr)) (fp : List Addr), GG (X.blk s H scope (compEnvC scope cl C X.env) fp) tg dg js) (ht : ∀ (s : Shared) (H : Hp) (C : Addr) (cl : List (Str × Addr)) (fp : List Addr), GTs (X.blk s H scope (compEnvC scope cl C X.env) fp) ifs dt)
    (he : ∀ (s : Shared) (H : Hp) (C : Addr) (cl : List (Str × Addr)) (fp : List Addr), GE (X.blk s H scope (compEnvC scope cl C X.env) fp) elt de) (hj : ∀ j ∈ js, j ∈ own.map (·.2)) (hs : ∀ x, foldedSetIterable iter X.env x = pure x := by intro _; rfl) :
    GE X (.ListComp elt [⟨tg, iter, ifs, 0⟩] scope pos) (dLc di dg dt de (own.map (·.2))) := by
  obtain ⟨wi, hi⟩ := hi
  refine ⟨⟨fun pins s0 s H Q I ⟨sd, m, Qd, rs, rm, h, k⟩ => (pe_lc (g := liftG X.K dg js) (tt := liftT X.K dt) (te := liftE X.K de) hc hN hi.pi ok (fun s H C cl fp => (hg s H C cl fp).pg) (fun s H C cl fp => (ht s H C cl fp).pts) (fun s H C cl fp => (he s H C cl fp).pe) hs).run pins s0 s H Q I ?_⟩⟩
  exact le_lc hi (hg s0 H 0 [] []).lg hj rs rm h k
theorem gs_setLc {i : Nat} {y : Str} {py spos : Pos} {elt tg iter : Expr} {ifs : List Expr} {scope : Scope} {own : List (Str × Nat)} {pos : Pos} {di : DI} {dg : DG} {js : List Nat} {dt : DT} {de : DE} (hc : X.calm = true) (hN : X.N.Nodup) (hy : X.N[i]? = some y) (hyl : X.env.scope.names.lookup y = some .local)
    (hsw : swapsWith (.ListComp elt [⟨tg, iter, ifs, 0⟩] scope pos) (some (.Name y py)) spos.line X.env = pure true) (hi : GIE X tg iter di) (ok : BlkOk X.N X.env.scope scope own)
    (hg : ∀ (s : Shared) (H : Hp) (C : Addr) (cl : List (Str × Addr)) (fp : List Addr), GG (X.blk s H scope (compEnvC scope cl C X.env) fp) tg dg js) (ht : ∀ (s : Shared) (H : Hp) (C : Addr) (cl : List (Str × Addr)) (fp : List Addr), GTs (X.blk s H scope (compEnvC scope cl C X.env) fp) ifs dt)
    (he : ∀ (s : Shared) (H : Hp) (C : Addr) (cl : List (Str × Addr)) (fp : List Addr), GE (X.blk s H scope (compEnvC scope cl C X.env) fp) elt de) (hj : ∀ j ∈ js, j ∈ own.map (·.2)) (hs : ∀ x, foldedSetIterable iter X.env x = pure x := by intro _; rfl) :
    GS X (.Assign [.Name y py] (.ListComp elt [⟨tg, iter, ifs, 0⟩] scope pos) spos) (dSet i (dLc di dg dt de (own.map (·.2)))) := by
  obtain ⟨wi, hi⟩ := hi
  have P : PS X (.Assign [.Name y py] (.ListComp elt [⟨tg, iter, ifs, 0⟩] scope pos) spos) (fun E s H => ∃ sd m Ed, RS X.K H sd s ∧ RM X.K H m ∧ dSet i (dLc di dg dt de (own.map (·.2))) Ed sd m ∧
      ∀ s' H' sd' m', TX H H' → RS X.K H' sd' s' → RM X.K H' m' → Ed.nx sd' m' → E.nx s' H') :=
    ⟨fun pins s0 s H E I ⟨sd, m, Ed, rs, rm, h, k⟩ => (ps_setLc (g := liftG X.K dg js) (tt := liftT X.K dt) (te := liftE X.K de) hc hN hy hyl hsw hi.pi ok (fun s H C cl fp => (hg s H C cl fp).pg) (fun s H C cl fp => (ht s H C cl fp).pts) (fun s H C cl fp => (he s H C cl fp).pe) hs).run pins s0 s H E I
      (le_lc (Qd := fun x m1 => Ed.nx (sd.set i (some x)) m1) hi (hg s0 H 0 [] []).lg hj rs rm h fun v H' dv m' t rm' rv q => k _ H' _ m' t ((rs.mono t).set rv i) rm' q)⟩
  exact ⟨_, P, fun s H sd m Ed E rs rm h k1 _ _ _ => ⟨sd, m, Ed, rs, rm, h, k1⟩⟩
end
end PD
namespace PD
open PySem PySem.Spec PyProof.Rows L2
def startD (N : List Str) (ds : List D) : Sd := ds.map some ++ List.replicate (N.length - ds.length) none
def endsOf (Qd : DK) : DEnds := { nx := fun _ m' => ∃ m'', Sub m'' m' ∧ Qd .non m'', rt := fun v m' => ∃ m'', Sub m'' m' ∧ Qd v m'' }
theorem rs_start {K : PySem.W.Frag} {H : Hp} {N : List Str} {ds : List D} {vs : List V} (r : RepL K H ds vs) : RS K H (startD N ds) (L2.start N vs) := by
  refine ⟨by unfold startD L2.start; simp [r.length], fun i d e => ?_⟩
  unfold startD at e
  unfold L2.start
  have hl := r.length
  by_cases h : i < ds.length
  · rw [List.getElem?_append_left (by rw [List.length_map]; exact h), List.getElem?_map, List.getElem?_eq_getElem h] at e
    cases e
    obtain ⟨v, e2, q⟩ := r.get (List.getElem?_eq_getElem h)
    refine ⟨v, ?_, q⟩
    rw [List.getElem?_append_left (by rw [List.length_map]; omega), List.getElem?_map, e2]
    rfl
  · rw [List.getElem?_append_right (by rw [List.length_map]; omega), List.getElem?_replicate] at e
    split at e
    · cases e
    · cases e
section
variable {P : Program} {w : World} {K : PySem.W.Frag} {mg : Str → Option Value} {base : Heap}
theorem fn_ok {x qual : Str} {st : Stmt} {f : Addr} {fd : FuncData} {N ps : List Str} {k : Nat} {sd : SpD} {d : DS} (F : Fun K x qual st f fd) (S : FnScope N ps (defScope st))
    (hb : ∀ (cdv : Value) (A : Around) (outer : List Env) (s : Shared) (H : Hp) (E : XK), Room k (A.deeper (envOfC qual (defScope st) s.heap.objs.size f cdv)) →
      GSs (cxOf CX0 P w K mg base N qual (defScope st) f cdv A outer s H E).nox (defBody st) d)
    (hd : ∀ ds m Qd, sd ds m Qd → d (endsOf Qd) (startD N ds) m) : FnOk P w K mg base CX0 (k + 1) f fd ps (spL K ps.length sd) := by
  refine F.ok S (fun vs H Q E ⟨ds, m, Qd, r, rm, h, _⟩ => by rw [← r.length]; exact h.1) fun cdv A outer s H vs Q E hr ⟨ds, m, Qd, r, rm, ⟨_, h⟩, kq⟩ => ?_
  obtain ⟨t, p, l⟩ := (hb cdv A outer s H E hr).ex
  refine ⟨t, p, ?_⟩
  refine l (L2.start N vs) H (startD N ds) m (endsOf Qd) _ (rs_start r) rm (hd ds m Qd h) ?_ ?_ ?_ ?_
  · intro s' H' sd' m' t' rs' rm' ⟨m'', sb, q⟩
    exact kq .non H' .non m'' t' (rm'.sub sb) .non q
  · intro v H' dv m' t' rm' rv ⟨m'', sb, q⟩
    exact kq v H' dv m'' t' (rm'.sub sb) rv q
  · intro _ _ _ _ _ _ _ h; exact h.elim
  · intro _ _ _ _ _ _ _ h; exact h.elim
end
end PD
namespace PD
open PySem PySem.Spec PyProof.Rows L2
section
variable {m : Mu} {a b : Str} {i j : Int} {p q : Bool} {xs ys : List D} {x y z u v : D} {A : Addr}
theorem seqOf_tup : seqOf m (.tup xs) = some xs := rfl
theorem seqOf_rol : seqOf m (.rol xs) = some xs := rfl
theorem seqOf_ref (h : m A = some (.lst xs)) : seqOf m (.ref A) = some xs := by unfold seqOf; simp only [h]
theorem seqW_tup : seqW m (.tup xs) = some xs := rfl
theorem seqW_ref (h : m A = some (.lst xs)) : seqW m (.ref A) = some xs := by unfold seqW; simp only [h]
theorem lstOf_ref (h : m A = some (.lst xs)) : lstOf m (.ref A) = some (A, xs) := by unfold lstOf; simp only [h]
theorem eqK_ss : eqK m (.str a) (.str b) = some (a == b) := rfl
theorem eqK_ii : eqK m (.int i) (.int j) = some (i == j) := rfl
theorem eqK_bb : eqK m (.bl p) (.bl q) = some (p == q) := rfl
theorem eqK_nn : eqK m .non .non = some true := rfl
theorem eqK_ts : eqK m (.tup xs) (.str b) = some false := rfl
theorem eqK_st : eqK m (.str b) (.tup xs) = some false := rfl
theorem eqK_ti : eqK m (.tup xs) (.int i) = some false := rfl
theorem eqK_is : eqK m (.int i) (.str b) = some false := rfl
theorem eqK_ns : eqK m .non (.str b) = some false := rfl
theorem flatD_str : flatD (.str a) = true := rfl
theorem flatD_int : flatD (.int i) = true := rfl
theorem flatD_bl : flatD (.bl p) = true := rfl
theorem flatD_non : flatD .non = true := rfl
theorem isNon_non : isNon .non = true := rfl
theorem isNon_bl : isNon (.bl p) = false := rfl
theorem isNon_int : isNon (.int i) = false := rfl
theorem isNon_str : isNon (.str a) = false := rfl
theorem isNon_tup : isNon (.tup xs) = false := rfl
theorem tyD_non : tyD m .non = some "NoneType" := rfl
theorem tyD_bl : tyD m (.bl p) = some "bool" := rfl
theorem tyD_int : tyD m (.int i) = some "int" := rfl
theorem tyD_str : tyD m (.str a) = some "str" := rfl
theorem tyD_tup : tyD m (.tup xs) = some "tuple" := rfl
theorem truD_bl : truD m (.bl p) = some p := rfl
theorem truD_int : truD m (.int i) = some (i != 0) := rfl
theorem truD_tup : truD m (.tup xs) = some (!xs.isEmpty) := rfl
theorem truD_ref (h : m A = some (.lst xs)) : truD m (.ref A) = some (!xs.isEmpty) := by
  show (seqOf m (.ref A)).map _ = _
  rw [seqOf_ref h]; rfl
theorem atI_0 {α : Type} {x : α} {xs : List α} : atI (x :: xs) 0 = some x := atI_nat (j := 0) rfl
theorem atI_1 {α : Type} {x y : α} {xs : List α} : atI (x :: y :: xs) 1 = some y := atI_nat (j := 1) rfl
theorem atI_2 {α : Type} {x y z : α} {xs : List α} : atI (x :: y :: z :: xs) 2 = some z := atI_nat (j := 2) rfl
theorem atI_3 {α : Type} {x y z u : α} {xs : List α} : atI (x :: y :: z :: u :: xs) 3 = some u := atI_nat (j := 3) rfl
theorem atI_4 {α : Type} {x y z u v : α} {xs : List α} : atI (x :: y :: z :: u :: v :: xs) 4 = some v := atI_nat (j := 4) rfl
theorem atI_m1 {α : Type} {x : α} : atI [x] (-1) = some x := atI_last [] x
theorem atI_m2 {α : Type} {x y : α} : atI [x, y] (-1) = some y := atI_last [x] y
theorem atI_m3 {α : Type} {x y z : α} : atI [x, y, z] (-1) = some z := atI_last [x, y] z
theorem ixN_0 {n : Nat} : ixN (n + 1) 0 = some 0 := by unfold ixN; rw [if_pos (by omega), if_pos (by omega)]; rfl
theorem ixN_40 : ixN 4 0 = some 0 := rfl
theorem ixN_41 : ixN 4 1 = some 1 := rfl
theorem ixN_42 : ixN 4 2 = some 2 := rfl
theorem ixN_43 : ixN 4 3 = some 3 := rfl
theorem seqI_0 {n : Nat} : seqIndex? 0 (n + 1) = some 0 := (ixN_seq ixN_0).1
theorem mset_skip {m : Mu} {a b : Addr} {o o' : MO} (h : b ≠ a) (e : m b = some o) : mset m a o' b = some o := by rw [mset_ne h]; exact e
section
variable {Q : DK} {s : Sd} {B : Addr}
theorem dSub_i : dSub (.int i) (.int j) m Q = Q (.int (i - j)) m := rfl
theorem dInt2_i {C : Int → Int → Prop} {g : Int → Int → Int} : dInt2 C g (.int i) (.int j) m Q = (C i j ∧ Q (.int (g i j)) m) := rfl
theorem dNeg_i : dNeg (.int i) m Q = Q (.int (-i)) m := rfl
theorem dCmp_i {g : Int → Int → Bool} : dCmp g (.int i) (.int j) m Q = Q (.bl (g i j)) m := rfl
theorem dIsN_n : dIsN x .non m Q = Q (.bl (isNon x)) m := rfl
theorem dNotN_n : dNotN x .non m Q = Q (.bl (!isNon x)) m := rfl
theorem dInG_t {f : Bool → Bool} : dInG f x (.tup xs) m Q = (flatD x = true ∧ xs.all flatD = true ∧ Q (.bl (f (inF x xs))) m) := propext ⟨fun ⟨_, e, h⟩ => by cases e; exact h, fun h => ⟨_, rfl, h⟩⟩
theorem dInG_r {f : Bool → Bool} : dInG f x (.ref A) m Q = ∃ ds, seqOf m (.ref A) = some ds ∧ flatD x = true ∧ ds.all flatD = true ∧ Q (.bl (f (inF x ds))) m := rfl
theorem dIx_s : dIx (.str a) (.int i) m Q = (a.length ≤ sizeLine ∧ ∃ c, atI a.cps.toList i = some c ∧ Q (.str ⟨#[c]⟩) m) := rfl
theorem dIx_t : dIx (.tup xs) (.int i) m Q = ∃ d, atI xs i = some d ∧ Q d m := propext ⟨fun ⟨_, e, h⟩ => by cases e; exact h, fun h => ⟨_, rfl, h⟩⟩
theorem dIx_r : dIx (.ref A) (.int i) m Q = ∃ ds, seqOf m (.ref A) = some ds ∧ ∃ d, atI ds i = some d ∧ Q d m := rfl
theorem dLen_s : dLen [.str a] m Q = (a.length ≤ sizeLine ∧ Q (.int a.length) m) := rfl
theorem dLen_t : dLen [.tup xs] m Q = Q (.int xs.length) m := propext ⟨fun ⟨_, e, h⟩ => by cases e; exact h, fun h => ⟨_, rfl, h⟩⟩
theorem dLen_r : dLen [.ref A] m Q = ∃ es, seqOf m (.ref A) = some es ∧ Q (.int es.length) m := rfl
theorem dTuple_1 : dTuple [x] m Q = ∃ es, seqOf m x = some es ∧ Q (.tup es) m := rfl
theorem dList_1 : dList [x] m Q = ∃ es, seqOf m x = some es ∧ ∀ p, m p = none → Q (.ref p) (mset m p (.lst es)) := rfl
theorem dInt1_i : dInt1 [.int i] m Q = Q (.int i) m := rfl
def dRevV (x : D) (m1 : Mu) (Q : DK) : Prop := match x with
  | .tup ds => Q (.tup ds.reverse) m1
  | .ref a => ∃ ds, seqOf m1 (.ref a) = some ds ∧ ∀ p, m1 p = none → Q (.ref p) (mset m1 p (.lst ds.reverse))
  | _ => False
theorem dRev_v {de : DE} : dRev de s m Q = de s m fun x m1 => dRevV x m1 Q := rfl
theorem dRevV_t : dRevV (.tup xs) m Q = Q (.tup xs.reverse) m := rfl
theorem dRevV_r : dRevV (.ref A) m Q = ∃ ds, seqOf m (.ref A) = some ds ∧ ∀ p, m p = none → Q (.ref p) (mset m p (.lst ds.reverse)) := rfl
variable {R : List D → (Mu → Prop) → Mu → Prop}
def dISeqV (x : D) (m1 : Mu) (R : List D → (Mu → Prop) → Mu → Prop) : Prop := match x with
  | .tup ds => R ds (fun _ => True) m1
  | .rol ds => R ds (fun _ => True) m1
  | .ref p => ∃ ds, seqOf m1 (.ref p) = some ds ∧ R ds (fun m' => seqOf m' (.ref p) = some ds) m1
  | _ => False
theorem dISeq_v {de : DE} : dISeq de s m R = de s m fun x m1 => dISeqV x m1 R := rfl
theorem dISeqV_t : dISeqV (.tup xs) m R = R xs (fun _ => True) m := rfl
theorem dISeqV_l : dISeqV (.rol xs) m R = R xs (fun _ => True) m := rfl
theorem dISeqV_r : dISeqV (.ref A) m R = ∃ ds, seqOf m (.ref A) = some ds ∧ R ds (fun m' => seqOf m' (.ref A) = some ds) m := rfl
def dIEnumV (ds : List D) (m1 : Mu) (R : List D → (Mu → Prop) → Mu → Prop) : Prop := match ds with
  | [.tup es] => R (enumD 0 es) (fun _ => True) m1
  | [.ref p] => ∃ es, seqOf m1 (.ref p) = some es ∧ R (enumD 0 es) (fun m' => seqOf m' (.ref p) = some es) m1
  | _ => False
theorem dIEnum_v {da : DA} : dIEnum da s m R = da s m fun ds m1 => dIEnumV ds m1 R := rfl
theorem dIEnumV_t : dIEnumV [.tup xs] m R = R (enumD 0 xs) (fun _ => True) m := rfl
theorem dIEnumV_r : dIEnumV [.ref A] m R = ∃ es, seqOf m (.ref A) = some es ∧ R (enumD 0 es) (fun m' => seqOf m' (.ref A) = some es) m := rfl
theorem dPop_0 : dPop x [] m Q = ∃ a es d, lstOf m x = some (a, es) ∧ es[es.length - 1]? = some d ∧ Q d (mset m a (.lst es.dropLast)) := rfl
theorem dPop_i : dPop x [.int i] m Q = ∃ a es, lstOf m x = some (a, es) ∧ -(2 ^ 63) ≤ i ∧ i < 2 ^ 63 ∧ ∃ k, seqIndex? i es.length = some k ∧ ∃ d, es[k]? = some d ∧ Q d (mset m a (.lst (es.eraseIdx k))) := rfl
theorem dAppend_1 : dAppend x [y] m Q = ∃ a es, lstOf m x = some (a, es) ∧ es.length < sizeLine ∧ Q .non (mset m a (.lst (es ++ [y]))) := rfl
theorem dExtend_1 : dExtend x [y] m Q = ∃ a es zs, lstOf m x = some (a, es) ∧ seqW m y = some zs ∧ es.length + zs.length ≤ sizeLine ∧ Q .non (mset m a (.lst (es ++ zs))) := rfl
theorem dSub3_i {v : D} {R : Mu → Prop} : dSub3 x (.int i) v m R = ∃ a es, lstOf m x = some (a, es) ∧ ∃ j, ixN es.length i = some j ∧ R (mset m a (.lst (es.set j v))) := rfl
def dRng1V (ds : List D) (m1 : Mu) (R : List D → (Mu → Prop) → Mu → Prop) : Prop := match ds with
  | [.int j] => -(2 ^ 62) ≤ j ∧ j < 2 ^ 62 ∧ R (rangeD 0 j.toNat) (fun _ => True) m1
  | _ => False
theorem dIRng1_v {da : DA} : dIRng1 da s m R = da s m fun ds m1 => dRng1V ds m1 R := rfl
theorem dRng1V_i : dRng1V [.int i] m R = (-(2 ^ 62) ≤ i ∧ i < 2 ^ 62 ∧ R (rangeD 0 i.toNat) (fun _ => True) m) := rfl
end
theorem isT_NoneType_bool : isT "NoneType" "bool" = false := by decide
theorem isT_NoneType_int : isT "NoneType" "int" = false := by decide
theorem isT_NoneType_str : isT "NoneType" "str" = false := by decide
theorem isT_NoneType_tuple : isT "NoneType" "tuple" = false := by decide
theorem isT_NoneType_list : isT "NoneType" "list" = false := by decide
theorem isT_bool_bool : isT "bool" "bool" = true := by decide
theorem isT_bool_int : isT "bool" "int" = true := by decide
theorem isT_bool_str : isT "bool" "str" = false := by decide
theorem isT_bool_tuple : isT "bool" "tuple" = false := by decide
theorem isT_bool_list : isT "bool" "list" = false := by decide
theorem isT_int_bool : isT "int" "bool" = false := by decide
theorem isT_int_int : isT "int" "int" = true := by decide
theorem isT_int_str : isT "int" "str" = false := by decide
theorem isT_int_tuple : isT "int" "tuple" = false := by decide
theorem isT_int_list : isT "int" "list" = false := by decide
theorem isT_str_bool : isT "str" "bool" = false := by decide
theorem isT_str_int : isT "str" "int" = false := by decide
theorem isT_str_str : isT "str" "str" = true := by decide
theorem isT_str_tuple : isT "str" "tuple" = false := by decide
theorem isT_str_list : isT "str" "list" = false := by decide
theorem isT_tuple_bool : isT "tuple" "bool" = false := by decide
theorem isT_tuple_int : isT "tuple" "int" = false := by decide
theorem isT_tuple_str : isT "tuple" "str" = false := by decide
theorem isT_tuple_tuple : isT "tuple" "tuple" = true := by decide
theorem isT_tuple_list : isT "tuple" "list" = false := by decide
theorem isT_list_bool : isT "list" "bool" = false := by decide
theorem isT_list_int : isT "list" "int" = false := by decide
theorem isT_list_str : isT "list" "str" = false := by decide
theorem isT_list_tuple : isT "list" "tuple" = false := by decide
theorem isT_list_list : isT "list" "list" = true := by decide
theorem sub_refl_fin {Qd : DK} {v : D} (h : Qd v m) : ∃ m'', Sub m'' m ∧ Qd v m'' := ⟨m, .refl m, h⟩
theorem loop_inv {st : Mu → Prop} {g : DG} {tb : DS} {E : DEnds} (J : List D → Sd → Mu → Prop)
    (hs : ∀ d rem s m (R : Sd → Mu → Prop), (∀ s m, J rem s m → R s m) → J (d :: rem) s m → st m ∧ g d s m fun s2 m2 => tb { E with nx := R, ct := R, bk := E.nx } s2 m2)
    (he : ∀ s m, J [] s m → st m ∧ E.nx s m) : ∀ {es : List D} {s : Sd} {m : Mu}, J es s m → dLoop st g tb E es s m
  | [], s, m, h => he s m h
  | d :: es, s, m, h => hs d es s m _ (fun s' m' h' => loop_inv J hs he h') h
theorem comp_inv {st : Mu → Prop} {g : DG} {t : DT} {e : DE} {p : Addr} {s : Sd} {Q : DK} (J : List D → List D → Mu → Prop)
    (hs : ∀ d rem acc m (R : List D → Mu → Prop), (∀ acc m, J rem acc m → R acc m) → J (d :: rem) acc m → st m ∧ g d s m fun s2 m2 => t s2 m2 fun b m3 =>
      if b = true then e s2 m3 fun y m4 => m4 p = some (.lst acc) ∧ acc.length < sizeLine ∧ R (acc ++ [y]) (mset m4 p (.lst (acc ++ [y]))) else R acc m3)
    (he : ∀ acc m, J [] acc m → st m ∧ m p = some (.lst acc) ∧ Q (.ref p) m) : ∀ {es acc : List D} {m : Mu}, J es acc m → dComp st g t e p s Q es acc m
  | [], acc, m, h => he acc m h
  | d :: es, acc, m, h => hs d es acc m _ (fun acc' m' h' => comp_inv J hs he h') h
/-- each item's answer is f of it, kept where c; nothing else changes -/
theorem comp_pure {st : Mu → Prop} {g : DG} {t : DT} {e : DE} {p : Addr} {s : Sd} {Q : DK} {m : Mu} (c : D → Bool) (f : D → D) (hst : ∀ a, st (mset m p (.lst a))) {es0 : List D} (hz : es0.length ≤ 100000)
    (h : ∀ d ∈ es0, ∀ a (R1 : D → Mu → Prop) (R2 : Mu → Prop), (c d = true → R1 (f d) (mset m p (.lst a))) → (c d = false → R2 (mset m p (.lst a))) → g d s (mset m p (.lst a)) fun s2 m2 => t s2 m2 fun b m3 => if b = true then e s2 m3 R1 else R2 m3)
    (hq : Q (.ref p) (mset m p (.lst ((es0.filter c).map f)))) : dComp st g t e p s Q es0 [] (mset m p (.lst [])) := by
  refine comp_inv (fun rem acc m' => ∃ pre, es0 = pre ++ rem ∧ acc = (pre.filter c).map f ∧ m' = mset m p (.lst acc)) (fun d rem acc m1 R hR ⟨pre, e1, e2, e3⟩ => ?_) (fun acc m1 ⟨pre, e1, e2, e3⟩ => ?_) ⟨[], rfl, rfl, rfl⟩
  · subst e3
    refine ⟨hst _, h d (by rw [e1]; simp) acc _ _ (fun hc => ⟨mset_same, ?_, ?_⟩) fun hc => ?_⟩
    · rw [e2, List.length_map]
      have h1 := List.length_filter_le c pre
      have h2 : pre.length < es0.length := by rw [e1]; simp
      exact Nat.lt_of_lt_of_le (by omega : _ < 100000) (by decide)
    · refine hR _ _ ⟨pre ++ [d], by rw [e1]; simp, ?_, mset_mset⟩
      rw [e2, List.filter_append, List.map_append]
      simp [hc]
    · refine hR _ _ ⟨pre ++ [d], by rw [e1]; simp, ?_, rfl⟩
      rw [e2, List.filter_append, List.map_append]
      simp [hc]
  · subst e3
    rw [List.append_nil] at e1
    subst e1 e2
    exact ⟨hst _, mset_same, hq⟩
theorem filter_yes {α : Type} : ∀ l : List α, l.filter (fun _ => true) = l
  | [] => rfl
  | a :: l => by rw [List.filter_cons, if_pos rfl, filter_yes l]
theorem rangeD_len (lo : Int) (n : Nat) : (rangeD lo n).length = n := by unfold rangeD; rw [List.length_map, List.length_range]
/-- a loop over range(n): what holds ahead of turn i -/
theorem loop_range {st : Mu → Prop} {g : DG} {tb : DS} {E : DEnds} {n : Nat} (J : Nat → Sd → Mu → Prop)
    (hs : ∀ (i : Nat) s m (R : Sd → Mu → Prop), i < n → (∀ s m, J (i + 1) s m → R s m) → J i s m → st m ∧ g (.int (i : Int)) s m fun s2 m2 => tb { E with nx := R, ct := R, bk := E.nx } s2 m2)
    (he : ∀ s m, J n s m → st m ∧ E.nx s m) {s : Sd} {m : Mu} (h : J 0 s m) : dLoop st g tb E (rangeD 0 n) s m := by
  refine loop_inv (fun rem s m => ∃ i, i ≤ n ∧ rem = (rangeD 0 n).drop i ∧ J i s m) (fun d rem s m R hR ⟨i, hi, e, hj⟩ => ?_) (fun s m ⟨i, hi, e, hj⟩ => ?_) ⟨0, Nat.zero_le _, rfl, h⟩
  · have hlt : i < n := by
      by_cases q : i < n
      · exact q
      · have e2 : i = n := by omega
        subst e2
        rw [List.drop_of_length_le (by rw [rangeD_len]; exact Nat.le_refl _)] at e
        cases e
    have hl : i < (rangeD 0 n).length := by rw [rangeD_len]; exact hlt
    rw [List.drop_eq_getElem_cons hl] at e
    injection e with e1 e2
    have e3 : (rangeD 0 n)[i] = .int (i : Int) := by unfold rangeD; simp
    rw [e3] at e1
    subst e1
    exact hs i s m R hlt (fun s' m' h' => hR s' m' ⟨i + 1, hlt, e2, h'⟩) hj
  · have e2 : i = n := by
      by_cases q : i < n
      · have hl : i < (rangeD 0 n).length := by rw [rangeD_len]; exact q
        rw [List.drop_eq_getElem_cons hl] at e
        cases e
      · omega
    subst e2
    exact he s m hj
theorem FnOk_falso {P : Program} {w : World} {K : PySem.W.Frag} {mg : Str → Option Value} {base : Heap} {k n : Nat} {f : Addr} {fd : FuncData} {ps : List Str} : FnOk P w K mg base CX0 k f fd ps (spL K n fun _ _ _ => False) :=
  ⟨fun _ _ _ _ ⟨_, _, _, _, _, h, _⟩ => h.2.elim, fun _ _ _ _ _ _ _ _ _ _ _ _ _ ⟨_, _, _, _, _, h, _⟩ => h.2.elim⟩
theorem atI_getD {α : Type} {xs : List α} {i : Nat} (h : i < xs.length) : atI xs (i : Int) = some xs[i] := atI_nat (List.getElem?_eq_getElem h)
/-- a cut between a statement and what follows -/
theorem seq_cut {t u : DS} {E : DEnds} {s : Sd} {m : Mu} (Mid : Sd → Mu → Prop) (h1 : ∀ R : Sd → Mu → Prop, (∀ s' m', Mid s' m' → R s' m') → t { E with nx := R } s m) (h2 : ∀ s' m', Mid s' m' → u E s' m') : dSeq t u E s m := h1 _ h2
/-- all lists but two are kept -/
def OffS (a q : Addr) (m m' : Mu) : Prop := ∀ x o, x ≠ a → x ≠ q → m x = some o → m' x = some o
theorem OffS.refl (a q : Addr) (m : Mu) : OffS a q m m := fun _ _ _ _ h => h
theorem OffS.trans {a q : Addr} {m m1 m2 : Mu} (h : OffS a q m m1) (h' : OffS a q m1 m2) : OffS a q m m2 := fun x o n1 n2 e => h' x o n1 n2 (h x o n1 n2 e)
theorem OffS.new {a q p : Addr} {m m1 : Mu} {o : MO} (h : OffS a q m m1) (hp : m1 p = none) : OffS a q m (mset m1 p o) := fun x u n1 n2 e => mset_new hp (h x u n1 n2 e)
end
end PD
namespace PD
open PySem PySem.Spec PyProof.Rows L2
/-- a wish for errors: the class, the fields (the last one set first), the store -/
abbrev DX := Value → List (Str × D) → Mu → Prop
def FldR (K : PySem.W.Frag) (H : Hp) (fs : List (Str × D)) (d : Option Addr) : Prop := ∃ dd vs, d = some dd ∧ H dd = some (.xd vs) ∧ vs.map (·.1) = fs.map (·.1) ∧ RepL K H (fs.map (·.2)) (vs.map (·.2))
def wX (K : PySem.W.Frag) (Ed : DX) : WX := fun cls d _ H => ∃ fs m, RM K H m ∧ FldR K H fs d ∧ Ed cls fs m
abbrev SpX := List D → Mu → DK → DX → Prop
def spX (K : PySem.W.Frag) (n : Nat) (sd : SpX) : Sp := fun vs H Q E => ∃ ds m Qd Ed, RepL K H ds vs ∧ RM K H m ∧ (ds.length = n ∧ sd ds m Qd Ed) ∧ (∀ v H' dv m', TX H H' → RM K H' m' → Rep K H' dv v → Qd dv m' → Q v H') ∧ ∀ cls d H' fs m', RM K H' m' → FldR K H' fs d → Ed cls fs m' → E cls d H'
def dCallX (n : Nat) (sd : SpX) (Ed : DX) (a : DA) : DE := fun s m Q => a s m fun ds m1 => ds.length = n ∧ sd ds m1 Q Ed
section
variable {X : Cx} {Ed : DX}
theorem ge_callX {k n : Nat} {f : Addr} {fd : FuncData} {ps : List Str} {sd : SpX} {x : Str} {p pos : Pos} {e : Expr} {es : List Expr} {da : DA} (F : FnOk X.prog X.w X.K X.mg X.base (L2.CX X.prog X.w) k f fd ps (spX X.K n sd)) (tk : Takes X (wX X.K Ed)) (hr : Room k X.A) (hg : Gl X x) (hm : X.mg x = some (.ref f)) (hk : PySem.W.keepIn X.K (.ref f) = true) (hb : Binds X.K fd ps [])
    (ha : GA X (e :: es) da) (hdb : (x == ("__debug__" : Str)) = false := by decide) (he : starEach (e :: es) X.env = (false, eval e X.env) :: starEach es X.env := by rfl) (hpl : (backTo pos (starEach es X.env)).any (·.1) = false := by rfl) :
    GE X (.Call (.Name x p) (e :: es) [] pos) (dCallX n sd Ed da) := by
  obtain ⟨ta, q, l⟩ := ha.ex
  refine .of ⟨_, pe_callS (E := WE (wX X.K Ed)) F hr hg hm hk hb (passAt tk) q hdb he hpl, fun s H sd' m Qd Q rs rm h k => ?_⟩
  refine l s H sd' m _ _ rs rm h fun vs H1 ds m1 t1 rm1 r1 h1 => ?_
  exact ⟨ds, m1, Qd, Ed, r1, rm1, h1, fun v' H' dv' m' t' a b c => k v' H' dv' m' (t1.trans t') a b c, fun cls d H' fs m' a b c => ⟨fs, m', a, b, c⟩⟩
/-- raise C(..), the making told by its own reading -/
def dRaise (cls : Value) (ns : List Str) (Ed : DX) (a : DA) : DS := fun _ s m => a s m fun ds m1 => ds.length = ns.length ∧ Ed cls (ns.zip ds).reverse m1
end
section
variable {P : Program} {w : World} {K : PySem.W.Frag} {mg : Str → Option Value} {base : Heap}
theorem fn_okX {x qual : Str} {st : Stmt} {f : Addr} {fd : FuncData} {N ps : List Str} {k : Nat} {sd : SpX} {d : DX → DS} (F : Fun K x qual st f fd) (S : FnScope N ps (defScope st))
    (hb : ∀ (cdv : Value) (A : Around) (outer : List Env) (s : Shared) (H : Hp) (E : XK) (Ed : DX), Room k (A.deeper (envOfC qual (defScope st) s.heap.objs.size f cdv)) →
      Takes (cxOf (L2.CX P w) P w K mg base N qual (defScope st) f cdv A outer s H E) (wX K Ed) →
      GSs (cxOf (L2.CX P w) P w K mg base N qual (defScope st) f cdv A outer s H E) (defBody st) (d Ed))
    (hd : ∀ ds m Qd Ed, sd ds m Qd Ed → ds.length = ps.length → d Ed (endsOf Qd) (startD N ds) m) : FnOk P w K mg base (L2.CX P w) (k + 1) f fd ps (spX K ps.length sd) := by
  refine F.okX S (fun vs H Q E ⟨ds, m, Qd, Ed, r, rm, h, _⟩ => by rw [← r.length]; exact h.1) fun cdv A outer s H vs Q E hr ⟨ds, m, Qd, Ed, r, rm, ⟨hl, h⟩, kq, ke⟩ => ?_
  have tk : Takes (cxOf (L2.CX P w) P w K mg base N qual (defScope st) f cdv A outer s H E) (wX K Ed) :=
    Takes.imp (takes_of (E := E) rfl rfl rfl rfl) fun c d' σ H' ⟨fs, m', a, b, c'⟩ => ke c d' H' fs m' a b c'
  obtain ⟨t, p, l⟩ := (hb cdv A outer s H E Ed hr tk).ex
  refine ⟨t, p, ?_⟩
  refine l (L2.start N vs) H (startD N ds) m (endsOf Qd) _ (rs_start r) rm (hd ds m Qd Ed h hl) ?_ ?_ ?_ ?_
  · intro s' H' sd' m' t' rs' rm' ⟨m'', sb, q⟩
    exact kq .non H' .non m'' t' (rm'.sub sb) .non q
  · intro v H' dv m' t' rm' rv ⟨m'', sb, q⟩
    exact kq v H' dv m'' t' (rm'.sub sb) rv q
  · intro _ _ _ _ _ _ _ h; exact h.elim
  · intro _ _ _ _ _ _ _ h; exact h.elim
end
end PD
namespace PD
open PySem PySem.Spec PyProof.Rows L2
/-- what __init__(self, ns) does to a fresh error -/
def iniSp (K : PySem.W.Frag) (ns : List Str) : Sp := fun vs H Q _ => ∃ (a C : Addr) (us : List V), vs = .ref a :: us ∧ us.length = ns.length ∧ OexC K C ∧ (∀ n ∈ ns, PySem.W.findIn K (.ref C) n = some none) ∧ H a = some (exo a C none) ∧
  ∀ d, H d = none → d ≠ a → Q .non (upd (upd H d (exd d (ns.zip us).reverse)) a (exo a C (some d)))
theorem upd_over {H : Hp} {a d : Addr} {A B A' : HO} (h : d ≠ a) : upd (upd (upd H d A) a B) d A' = upd (upd H d A') a B := by
  funext x
  by_cases h1 : x = d
  · subst h1; rw [upd_same, upd_ne h, upd_same]
  · rw [upd_ne h1]
    by_cases h2 : x = a
    · subst h2; rw [upd_same, upd_same]
    · rw [upd_ne h2, upd_ne h2, upd_ne h1, upd_ne h1]
theorem upd_gone {H : Hp} {a d : Addr} {A B E F : HO} (ha : H a = none) (h : d ≠ a) : upd (del (upd (upd (upd H a E) d A) a B) a) d F = upd H d F := by
  funext x
  by_cases h1 : x = d
  · subst h1; rw [upd_same, upd_same]
  · rw [upd_ne h1, upd_ne h1]
    by_cases h2 : x = a
    · subst h2; rw [del_same, ha]
    · rw [del_ne h2, upd_ne h2, upd_ne h1, upd_ne h2]
section
variable {P : Program} {w : World} {K : PySem.W.Frag} {mg : Str → Option Value} {base : Heap}
theorem ini_one {qual n : Str} {st : Stmt} {f : Addr} {fd : FuncData} (F : Fun K "__init__" qual st f fd) (S : FnScope ["self", n] ["self", n] (defScope st))
    (hb : ∀ (cdv : Value) (A : Around) (outer : List Env) (s : Shared) (H : Hp) (E : XK), PSs (cxOf CX0 P w K mg base ["self", n] qual (defScope st) f cdv A outer s H E).nox (defBody st) (tOst K n (tVar 0) (tVar 1))) :
    FnOk P w K mg base CX0 1 f fd ["self", n] (iniSp K [n]) := by
  refine F.ok S (fun vs H Q E ⟨a, C, us, e, hl, _⟩ => by rw [e]; show us.length + 1 = 2; rw [hl]; rfl) fun cdv A outer s H vs Q E hr ⟨a, C, us, e, hl, T, hno, ha, q⟩ => ⟨_, hb cdv A outer s H E, ?_⟩
  subst e
  match us, hl with
  | [u], _ =>
    refine ⟨u, rfl, .ref a, rfl, a, C, rfl, T, hno n (List.mem_singleton.mpr rfl), .inl ⟨ha, fun d h1 h2 => ?_⟩⟩
    exact q d h1 h2
theorem ini_two {qual n n2 : Str} {st : Stmt} {f : Addr} {fd : FuncData} (F : Fun K "__init__" qual st f fd) (S : FnScope ["self", n, n2] ["self", n, n2] (defScope st))
    (hb : ∀ (cdv : Value) (A : Around) (outer : List Env) (s : Shared) (H : Hp) (E : XK), PSs (cxOf CX0 P w K mg base ["self", n, n2] qual (defScope st) f cdv A outer s H E).nox (defBody st) (tSeq (tOst K n (tVar 0) (tVar 1)) (tOst K n2 (tVar 0) (tVar 2)))) :
    FnOk P w K mg base CX0 1 f fd ["self", n, n2] (iniSp K [n, n2]) := by
  refine F.ok S (fun vs H Q E ⟨a, C, us, e, hl, _⟩ => by rw [e]; show us.length + 1 = 3; rw [hl]; rfl) fun cdv A outer s H vs Q E hr ⟨a, C, us, e, hl, T, hno, ha, q⟩ => ⟨_, hb cdv A outer s H E, ?_⟩
  subst e
  match us, hl with
  | [u, u2], _ =>
    refine ⟨u, rfl, .ref a, rfl, a, C, rfl, T, hno n (by simp), .inl ⟨ha, fun d h1 h2 => ?_⟩⟩
    refine ⟨u2, rfl, .ref a, rfl, a, C, rfl, T, hno n2 (by simp), .inr ⟨d, _, upd_same, by rw [upd_ne h2, upd_same], by simp, ?_⟩⟩
    rw [upd_over h2]
    exact q d h1 h2
end
section
variable {X : Cx} {Ed : DX}
/-- raise C(e, ..) of an own error whose __init__ keeps its parameters -/
theorem gs_raise {x : Str} {C fI : Addr} {k : Nat} {fd : FuncData} {ns : List Str} {e : Expr} {es : List Expr} {da : DA} {p pos pos2 : Pos} (hc : X.calm = true) (tk : Takes X (wX X.K Ed)) (T : OexC X.K C) (hno : ∀ n ∈ ns, PySem.W.findIn X.K (.ref C) n = some none)
    (iC : PySem.W.findIn X.K (.ref C) "__init__" = some (some (.ref fI))) (tI : PySem.W.typeIn X.K (.ref fI) = some (.type "function"))
    (F1 : FnOk X.prog X.w X.K X.mg X.base CX0 k fI fd ("self" :: ns) (iniSp X.K ns)) (hr : Room (k + 1) X.A) (hb : Binds X.K fd ("self" :: ns) []) (hg : Gl X x) (hm : X.mg x = some (.ref C)) (ha : GA X (e :: es) da) (hns : ns.length ≤ 900)
    (hdb : (x == ("__debug__" : Str)) = false := by decide) (he : starEach (e :: es) X.env = (false, eval e X.env) :: starEach es X.env := by rfl) (hpl : (backTo pos (starEach es X.env)).any (·.1) = false := by rfl) :
    GS X (.Raise (some (.Call (.Name x p) (e :: es) [] pos)) none pos2) (dRaise (.ref C) ns Ed da) := by
  obtain ⟨ta, q, l⟩ := ha.ex
  refine ⟨_, ps_raise hc tk (pmk_oex T iC tI F1 hr hb .nil pass0 hg hm q hdb he hpl), fun s H sd m Ed' E rs rm h _ _ _ _ => ?_⟩
  refine l s H sd m _ _ rs rm h fun vs H1 ds m1 t1 rm1 r1 ⟨hl, h1⟩ => ?_
  have hlv : vs.length = ns.length := by rw [← r1.length]; exact hl
  refine ⟨by omega, fun a ha => ⟨a, C, vs, by rw [List.append_nil], hlv, T, hno, upd_same, fun d hd hda => ⟨rfl, d, _, upd_same, by rw [upd_ne hda, upd_same], by rw [upd_ne hda] at hd; exact hd, ?_⟩⟩⟩
  rw [upd_ne hda] at hd
  rw [upd_gone ha hda]
  have z1 : (ns.zip vs).map (·.1) = ns := List.map_fst_zip (by omega)
  have z2 : (ns.zip ds).map (·.1) = ns := List.map_fst_zip (by omega)
  have z3 : (ns.zip vs).map (·.2) = vs := List.map_snd_zip (by omega)
  have z4 : (ns.zip ds).map (·.2) = ds := List.map_snd_zip (by omega)
  refine ⟨(ns.zip ds).reverse, m1, rm1.skip hd, ⟨d, _, rfl, upd_same, ?_, ?_⟩, h1⟩
  · rw [List.map_reverse, List.map_reverse, z1, z2]
  · rw [List.map_reverse, List.map_reverse, z3, z4]
    exact r1.rev.mono (.new hd)
end
end PD
namespace PD
open PySem PySem.Spec PyProof.Rows L2
theorem TX.ins {H : Hp} {a C dx : Addr} {us : List (Str × V)} {o : HO} (h : H a = some (.ins C dx us)) : TX H (upd H a o) := fun b u i e => by
  rw [upd_ne]
  · exact e
  · rintro rfl
    rw [h] at e; cases e; exact i.elim
theorem RM.setI {K : PySem.W.Frag} {H : Hp} {m : Mu} {p C dx dx' : Addr} {fs : List (Str × D)} {us ws : List (Str × V)} (r : RM K H m) (h : H p = some (.ins C dx ws)) (e1 : us.map (·.1) = fs.map (·.1)) (q : RepL K H (fs.map (·.2)) (us.map (·.2))) : RM K (upd H p (.ins C dx' us)) (mset m p (.ins C fs)) := fun a o e => by
  by_cases ha : a = p
  · subst ha
    rw [mset_same] at e; cases e
    exact ⟨dx', us, upd_same, e1, q.mono (.ins h)⟩
  · rw [mset_ne ha] at e
    refine (r a o e).tx (.ins h) fun us z => ?_
    rw [upd_ne ha]; exact z
section
variable {X : Cx}
def putD (f : Str) (v : D) : List (Str × D) → List (Str × D)
  | [] => [(f, v)]
  | (g, x) :: r => if g = f then (g, v) :: r else (g, x) :: putD f v r
theorem put_names {f : Str} {y : V} {d : D} : ∀ {fs : List (Str × D)} {us : List (Str × V)}, us.map (·.1) = fs.map (·.1) → (putF f y us).map (·.1) = (putD f d fs).map (·.1)
  | [], [], _ => rfl
  | [], _ :: _, e => by cases e
  | _ :: _, [], e => by cases e
  | (g, b) :: fs, (g', v) :: us, e => by
    simp only [List.map_cons] at e
    injection e with e1 e2
    subst e1
    unfold putF putD
    by_cases h : g' = f
    · rw [if_pos h, if_pos h, List.map_cons, List.map_cons, e2]
    · rw [if_neg h, if_neg h, List.map_cons, List.map_cons, put_names e2]
theorem put_rep {K : PySem.W.Frag} {H : Hp} {f : Str} {y : V} {d : D} (ry : Rep K H d y) : ∀ {fs : List (Str × D)} {us : List (Str × V)}, us.map (·.1) = fs.map (·.1) → RepL K H (fs.map (·.2)) (us.map (·.2)) → RepL K H ((putD f d fs).map (·.2)) ((putF f y us).map (·.2))
  | [], [], _, _ => .cons ry .nil
  | [], _ :: _, e, _ => by cases e
  | _ :: _, [], e, _ => by cases e
  | (g, b) :: fs, (g', v) :: us, e, r => by
    simp only [List.map_cons] at e r
    injection e with e1 e2
    subst e1
    cases r with
    | cons r1 r2 =>
      unfold putF putD
      by_cases h : g' = f
      · rw [if_pos h, if_pos h]; exact .cons ry r2
      · rw [if_neg h, if_neg h]; exact .cons r1 (put_rep ry e2 r2)
def dSetF (C : Addr) (f : Str) (da dv : DE) : DS := fun E s m => dv s m fun y m1 => da s m1 fun x m2 => ∃ a fs, x = .ref a ∧ m2 a = some (.ins C fs) ∧ fs.length < 1000 ∧ E.nx s (mset m2 a (.ins C (putD f y fs)))
theorem gs_fld {C : Addr} {f : Str} {o value : Expr} {da dv : DE} {pos pos' : Pos} (c : Cls X.K C) (n : NoAttr X.K C f) (ha : GE X o da) (hv : GE X value dv) (hs : swapsWith value (some (.Attribute o f pos')) pos.line X.env = pure false := by rfl) : GS X (.Assign [.Attribute o f pos'] value pos) (dSetF C f da dv) := by
  obtain ⟨ta, pa, la⟩ := ha.ex
  obtain ⟨tv, pv', lv⟩ := hv.ex
  refine ⟨_, ps_fld pa pv' hs, fun s H sd m Ed E rs rm h k1 _ _ _ => ?_⟩
  refine lv s H sd m _ _ rs rm h fun y H1 dy m1 t1 rm1 r1 h1 => ?_
  refine la s H1 sd m1 _ _ (rs.mono t1) rm1 h1 fun x H2 dx2 m2 t2 rm2 r2 h2 => ?_
  obtain ⟨a, fs, rfl, e2, hl, h2⟩ := h2
  cases r2
  obtain ⟨dx, us, e4, e5, r⟩ := rm2 a _ e2
  have hlen : us.length = fs.length := by have z := congrArg List.length e5; rwa [List.length_map, List.length_map] at z
  exact ⟨a, C, dx, us, rfl, e4, c, n, by omega, k1 _ _ _ _ (t1.trans (t2.trans (.ins e4))) ((rs.mono (t1.trans t2)).mono (.ins e4)) (rm2.setI e4 (put_names e5) (put_rep (r1.mono t2) e5 r)) h2⟩
end
end PD
namespace PD
open PySem PySem.Spec PyProof.Rows L2
theorem RM.newI {K : PySem.W.Frag} {H : Hp} {m : Mu} {x dx C : Addr} (r : RM K H m) (h1 : H x = none) (h2 : H dx = none) (hne : dx ≠ x) : RM K (upd (upd H dx (.own x)) x (.ins C dx [])) (mset m x (.ins C [])) := fun a o e => by
  by_cases ha : a = x
  · subst ha
    rw [mset_same] at e; cases e
    exact ⟨dx, [], upd_same, rfl, .nil⟩
  · rw [mset_ne ha] at e
    exact (r.skip h2).skip (by rw [upd_ne hne.symm]; exact h1) a o e
section
variable {X : Cx} {Ed : DX}
/-- what a callee may let out is what the caller may -/
theorem passX (tk : Takes X (wX X.K Ed)) : Passes (L2.CX X.prog X.w) X (fun cls d H => wX X.K Ed cls d [] H) := passes_call tk fun _ _ _ _ h => h
/-- C(e, ..) -/
def dMakeX (C : Addr) (n : Nat) (sd : SpX) (Ed : DX) (da : DA) : DE := fun s m Q => da s m fun ds m1 => ds.length + 1 = n ∧ ∀ x, m1 x = none → sd (.ref x :: ds) (mset m1 x (.ins C [])) (fun v m2 => v = .non ∧ Q (.ref x) m2) Ed
theorem ge_makeX {C f : Addr} {k n : Nat} {fd : FuncData} {ps : List Str} {sd : SpX} {x : Str} {e : Expr} {es : List Expr} {da : DA} {p pos : Pos} (M : Mk X.K C f) (F : FnOk X.prog X.w X.K X.mg X.base (L2.CX X.prog X.w) k f fd ps (spX X.K n sd)) (tk : Takes X (wX X.K Ed)) (hr : Room (k + 1) X.A) (hg : Gl X x) (hm : X.mg x = some (.ref C)) (hb : Binds X.K fd ps [])
    (ha : GA X (e :: es) da) (hdb : (x == ("__debug__" : Str)) = false := by decide) (he : starEach (e :: es) X.env = (false, eval e X.env) :: starEach es X.env := by rfl) (hpl : (backTo pos (starEach es X.env)).any (·.1) = false := by rfl) :
    GE X (.Call (.Name x p) (e :: es) [] pos) (dMakeX C n sd Ed da) := by
  obtain ⟨ta, q, la⟩ := ha.ex
  refine .of ⟨_, pe_make (E := fun cls d H => wX X.K Ed cls d [] H) M F hr hg hm hb .nil (passX tk) q hdb he hpl, fun s H sd' m Qd Q rs rm h k => ?_⟩
  refine la s H sd' m _ _ rs rm h fun vs H1 ds m1 t1 rm1 r1 h1 => fun y dx hy hdx hne => ?_
  rw [List.append_nil]
  have ty : TX H1 (upd (upd H1 dx (.own y)) y (.ins C dx [])) := (TX.new hdx).trans (.new (by rw [upd_ne hne.symm]; exact hy))
  refine ⟨.ref y :: ds, mset m1 y (.ins C []), _, Ed, .cons (.ref y) (r1.mono ty), rm1.newI hy hdx hne, ⟨h1.1, h1.2 y (rm1.fresh hy)⟩, fun v' H' dv' m' t' a b ⟨c1, c2⟩ => ?_, fun cls d H' fs m' a b c => ⟨fs, m', a, b, c⟩⟩
  subst c1
  cases b
  exact ⟨rfl, k _ _ _ _ (t1.trans (ty.trans t')) a (.ref y) c2⟩
end
end PD
namespace PD
open PySem PySem.Spec PyProof.Rows L2
def toKey : D → Option Key
  | .int i => some (.inl i)
  | .str x => some (.inr x)
  | _ => none
theorem key_rep {K : PySem.W.Frag} {H : Hp} {d : D} {v : V} {k : Key} (r : Rep K H d v) (h : toKey d = some k) : v = kV k := by
  cases r <;> unfold toKey at h <;> cases h <;> rfl
def valD {κ : Type} [DecidableEq κ] (kvs : List (κ × D)) (k : κ) : Option D := (kvs.find? fun kv => decide (kv.1 = k)).map (·.2)
def putKD {κ : Type} [DecidableEq κ] (kvs : List (κ × D)) (k : κ) (d : D) : List (κ × D) :=
  if (kvs.any fun kv => decide (kv.1 = k)) = true then kvs.map (fun kv => if kv.1 = k then (kv.1, d) else kv) else kvs ++ [(k, d)]
section
variable {κ : Type} [DecidableEq κ] {K : PySem.W.Frag} {H : Hp} {k : κ}
theorem val_rep : ∀ {kvs : List (κ × D)} {us : List (κ × V)}, us.map (·.1) = kvs.map (·.1) → RepL K H (kvs.map (·.2)) (us.map (·.2)) → (∀ d, valD kvs k = some d → ∃ v, valV us k = some v ∧ Rep K H d v) ∧ (valD kvs k = none → valV us k = none)
  | [], [], _, _ => ⟨fun _ h => (nomatch h), fun _ => rfl⟩
  | [], _ :: _, e, _ => by cases e
  | _ :: _, [], e, _ => by cases e
  | (g, b) :: kvs, (g', v) :: us, e, r => by
    simp only [List.map_cons] at e r
    injection e with e1 e2
    subst e1
    cases r with
    | cons r1 r2 =>
      have ih := val_rep e2 r2
      by_cases h : g' = k
      · have z1 : valD ((g', b) :: kvs) k = some b := by simp [valD, h]
        have z2 : valV ((g', v) :: us) k = some v := valV_pos h
        rw [z1, z2]
        exact ⟨fun d e => by cases e; exact ⟨v, rfl, r1⟩, fun e => (nomatch e)⟩
      · have z1 : valD ((g', b) :: kvs) k = valD kvs k := by simp [valD, h]
        have z2 : valV ((g', v) :: us) k = valV us k := valV_neg h
        rw [z1, z2]
        exact ih
theorem any_keys : ∀ {kvs : List (κ × D)} {us : List (κ × V)}, us.map (·.1) = kvs.map (·.1) → (us.any fun kv => decide (kv.1 = k)) = (kvs.any fun kv => decide (kv.1 = k))
  | [], [], _ => rfl
  | [], _ :: _, e => by cases e
  | _ :: _, [], e => by cases e
  | (g, b) :: kvs, (g', v) :: us, e => by
    simp only [List.map_cons] at e
    injection e with e1 e2
    subst e1
    rw [List.any_cons, List.any_cons, any_keys e2]
theorem putK_map_names {y : V} {d : D} : ∀ {kvs : List (κ × D)} {us : List (κ × V)}, us.map (·.1) = kvs.map (·.1) → RepL K H (kvs.map (·.2)) (us.map (·.2)) → Rep K H d y →
    ((us.map fun kv => if kv.1 = k then (kv.1, y) else kv).map (·.1) = (kvs.map fun kv => if kv.1 = k then (kv.1, d) else kv).map (·.1)) ∧ RepL K H ((kvs.map fun kv => if kv.1 = k then (kv.1, d) else kv).map (·.2)) ((us.map fun kv => if kv.1 = k then (kv.1, y) else kv).map (·.2))
  | [], [], _, _, _ => ⟨rfl, .nil⟩
  | [], _ :: _, e, _, _ => by cases e
  | _ :: _, [], e, _, _ => by cases e
  | (g, b) :: kvs, (g', v) :: us, e, r, ry => by
    simp only [List.map_cons] at e r
    injection e with e1 e2
    subst e1
    cases r with
    | cons r1 r2 =>
      have ih := putK_map_names e2 r2 ry
      simp only [List.map_cons]
      by_cases h : g' = k
      · simp only [if_pos h]
        exact ⟨by rw [ih.1], .cons ry ih.2⟩
      · simp only [if_neg h]
        exact ⟨by rw [ih.1], .cons r1 ih.2⟩
theorem putK_rep {y : V} {d : D} {kvs : List (κ × D)} {us : List (κ × V)} (e : us.map (·.1) = kvs.map (·.1)) (r : RepL K H (kvs.map (·.2)) (us.map (·.2))) (ry : Rep K H d y) :
    (putK us k y).map (·.1) = (putKD kvs k d).map (·.1) ∧ RepL K H ((putKD kvs k d).map (·.2)) ((putK us k y).map (·.2)) := by
  unfold putK putKD
  rw [any_keys e]
  split
  · exact putK_map_names e r ry
  · rw [List.map_append, List.map_append, List.map_append, List.map_append, e]
    exact ⟨rfl, r.append (.cons ry .nil)⟩
end
theorem TX.dK {H : Hp} {a : Addr} {us : List (Key × V)} {o : HO} (h : H a = some (.dK us)) : TX H (upd H a o) := fun b u i e => by
  rw [upd_ne]
  · exact e
  · rintro rfl
    rw [h] at e; cases e; exact i.elim
theorem RM.setD {K : PySem.W.Frag} {H : Hp} {m : Mu} {p : Addr} {kvs : List (Key × D)} {us ws : List (Key × V)} (r : RM K H m) (h : H p = some (.dK ws)) (e1 : us.map (·.1) = kvs.map (·.1)) (q : RepL K H (kvs.map (·.2)) (us.map (·.2))) : RM K (upd H p (.dK us)) (mset m p (.dct kvs)) := fun a o e => by
  by_cases ha : a = p
  · subst ha
    rw [mset_same] at e; cases e
    exact ⟨us, upd_same, e1, q.mono (.dK h)⟩
  · rw [mset_ne ha] at e
    refine (r a o e).tx (.dK h) fun us z => ?_
    rw [upd_ne ha]; exact z
theorem RM.newD {K : PySem.W.Frag} {H : Hp} {m : Mu} {p : Addr} (r : RM K H m) (h : H p = none) : RM K (upd H p (.dK [])) (mset m p (.dct [])) := fun a o e => by
  by_cases ha : a = p
  · subst ha
    rw [mset_same] at e; cases e
    exact ⟨[], upd_same, rfl, .nil⟩
  · rw [mset_ne ha] at e
    exact r.skip h a o e
def dDNew : DE := fun _ m Q => ∀ p, m p = none → Q (.ref p) (mset m p (.dct []))
def dDGet (dd dk : DE) : DE := fun s m Q => dd s m fun x m1 => dk s m1 fun y m2 => ∃ a kvs k d, x = .ref a ∧ m2 a = some (.dct kvs) ∧ toKey y = some k ∧ valD kvs k = some d ∧ Q d m2
def dDPut (dd dk dv : DE) : DS := fun E s m => dv s m fun z m1 => dd s m1 fun x m2 => dk s m2 fun y m3 => ∃ a kvs k, x = .ref a ∧ m3 a = some (.dct kvs) ∧ toKey y = some k ∧ kvs.length < sizeLine ∧ E.nx s (mset m3 a (.dct (putKD kvs k z)))
section
variable {X : Cx} {o i value : Expr} {pos pos' : Pos} {dd dk dv : DE}
theorem ge_dnew : GE X (.Dict [] [] pos) dDNew :=
  .of ⟨_, pe_dnewK, fun s H sd m Qd Q rs rm h k => fun p hp => k _ _ _ _ (.new hp) (rm.newD hp) (.ref p) (h p (rm.fresh hp))⟩
theorem gs_dput (hu : X.A.units + 1 < cLine) (ho : GE X o dd) (hi : GE X i dk) (hv : GE X value dv) (hs : swapsWith value (some (.Subscript o i pos')) pos.line X.env = pure false := by rfl) : GS X (.Assign [.Subscript o i pos'] value pos) (dDPut dd dk dv) := by
  obtain ⟨td, pd, ld⟩ := ho.ex
  obtain ⟨ti, pi, li⟩ := hi.ex
  obtain ⟨tv, pv', lv⟩ := hv.ex
  refine ⟨_, ps_dput hu pd pi pv' hs, fun s H sd m Ed E rs rm h k1 _ _ _ => ?_⟩
  refine lv s H sd m _ _ rs rm h fun z H1 dz m1 t1 rm1 r1 h1 => ?_
  refine ld s H1 sd m1 _ _ (rs.mono t1) rm1 h1 fun x H2 dx m2 t2 rm2 r2 h2 => ?_
  refine li s H2 sd m2 _ _ (rs.mono (t1.trans t2)) rm2 h2 fun y H3 dy m3 t3 rm3 r3 h3 => ?_
  obtain ⟨a, kvs, kk, rfl, e2, e3, hl, h4⟩ := h3
  cases r2
  obtain ⟨us, e5, e6, r⟩ := rm3 a _ e2
  have hy := key_rep r3 e3
  subst hy
  have hlen : us.length = kvs.length := by have z := congrArg List.length e6; rwa [List.length_map, List.length_map] at z
  have pr := putK_rep (k := kk) e6 r (r1.mono (t2.trans t3))
  exact ⟨a, _, rfl, DPut.k e5 (by omega), k1 _ _ _ _ (t1.trans (t2.trans (t3.trans (.dK e5)))) ((rs.mono (t1.trans (t2.trans t3))).mono (.dK e5)) (rm3.setD e5 pr.1 pr.2) h4⟩
theorem val_some {K : PySem.W.Frag} {H : Hp} {k : Key} {kvs : List (Key × D)} {us : List (Key × V)} (e : us.map (·.1) = kvs.map (·.1)) (r : RepL K H (kvs.map (·.2)) (us.map (·.2))) : (valV us k).isSome = (valD kvs k).isSome := by
  have z := val_rep (k := k) e r
  cases q : valD kvs k with
  | none => rw [z.2 q]; rfl
  | some d => obtain ⟨v, e1, _⟩ := z.1 d q; rw [e1]; rfl
end
end PD
namespace PD
open PySem PySem.Spec PyProof.Rows L2
def zipD (xs ys : List D) : List D := (xs.zip ys).map fun p => .tup [p.1, p.2]
end PD
namespace PD
open PySem PySem.Spec PyProof.Rows L2
theorem rep_bools {K : PySem.W.Frag} {H : Hp} : ∀ {bs : List Bool} {vs : List V}, RepL K H (bs.map D.bl) vs → vs = bs.map V.bl
  | [], _, .nil => rfl
  | b :: bs, _, .cons (.bl _) r => by rw [rep_bools r]; rfl
theorem rep_strs {K : PySem.W.Frag} {H : Hp} : ∀ {xs : List Str} {vs : List V}, RepL K H (xs.map D.str) vs → vs = xs.map V.str
  | [], _, .nil => rfl
  | x :: xs, _, .cons (.str _) r => by rw [rep_strs r]; rfl
def dAll : DC := fun ds m Q => ∃ a bs, ds = [.ref a] ∧ m a = some (.lst ((bs : List Bool).map .bl)) ∧ Q (.bl (bs.all id)) m
section
variable {K : PySem.W.Frag}
theorem one_ref {H : Hp} {a : Addr} {vs : List V} (r : RepL K H [.ref a] vs) : vs = [.ref a] := by
  obtain ⟨v, rfl, rv⟩ := repL1 r
  cases rv
  rfl
theorem lc_all : LC K (rAll K) dAll := fun vs H ds m Qd Q rm r ⟨a, bs, e1, e2, h⟩ k => by
  subst e1
  obtain ⟨us, e3, r3⟩ := rm a _ e2
  rw [rep_bools r3] at e3
  exact ⟨a, bs, one_ref r, .of e3, k _ _ _ _ (.refl H) rm (.bl _) h⟩
end
end PD
namespace PD
open PySem PySem.Spec PyProof.Rows L2
theorem TX.sK {H : Hp} {P : Program} {w : World} {a : Addr} {S : Key → Bool} {n : Nat} {o : HO} (h : H a = some (SetK P w a S n)) : TX H (upd H a o) := fun b u i e => by
  rw [upd_ne]
  · exact e
  · rintro rfl
    rw [h] at e; cases e; exact i.elim
theorem RM.newS {K : PySem.W.Frag} {H : Hp} {m : Mu} {p : Addr} {P : Program} {w : World} {S : Key → Bool} {n : Nat} (r : RM K H m) (h : H p = none) : RM K (upd H p (SetK P w p S n)) (mset m p (.sset P w S n)) := fun a o e => by
  by_cases ha : a = p
  · subst ha
    rw [mset_same] at e; cases e
    exact upd_same
  · rw [mset_ne ha] at e
    exact r.skip h a o e
theorem RM.setS {K : PySem.W.Frag} {H : Hp} {m : Mu} {p : Addr} {P : Program} {w : World} {S S' : Key → Bool} {n n' : Nat} (r : RM K H m) (h : H p = some (SetK P w p S n)) : RM K (upd H p (SetK P w p S' n')) (mset m p (.sset P w S' n')) := fun a o e => by
  by_cases ha : a = p
  · subst ha
    rw [mset_same] at e; cases e
    exact upd_same
  · rw [mset_ne ha] at e
    refine (r a o e).tx (.sK h) fun us z => ?_
    rw [upd_ne ha]; exact z
def dSet0 (P : Program) (w : World) : DE := fun _ m Q => ∀ p, m p = none → Q (.ref p) (mset m p (.sset P w (fun _ => false) 0))
def dSAdd (P : Program) (w : World) (de : DE) (da : DA) : DE := fun s m Q => de s m fun x m1 => (∃ a S n, x = .ref a ∧ m1 a = some (.sset P w S n)) ∧ da s m1 fun ds m2 => ∃ a S n d k, x = .ref a ∧ ds = [d] ∧ toKey d = some k ∧ m2 a = some (.sset P w S n) ∧ n + 1 < scanBound ∧
  Q .non (mset m2 a (.sset P w (fun j => S j || decide (j = k)) (if S k = true then n else n + 1)))
def dSIn (P : Program) (w : World) (neg : Bool) : D2 := fun x y m Q => ∃ k a S n, toKey x = some k ∧ y = .ref a ∧ m a = some (.sset P w S n) ∧ Q (.bl (if neg then !S k else S k)) m
section
variable {X : Cx}
theorem ge_set0 {p pos : Pos} (hg : Gl X "set") (hm : X.mg "set" = none) : GE X (.Call (.Name "set" p) [] [] pos) (dSet0 X.prog X.w) :=
  .of ⟨_, pe_callTy0 cr_set0K hg hm (by decide +kernel), fun s H sd m Qd Q rs rm h k => ⟨rfl, fun p hp => k _ _ _ _ (.new hp) (rm.newS hp) (.ref p) (h p (rm.fresh hp))⟩⟩
theorem ge_sadd {o e : Expr} {es : List Expr} {de : DE} {da : DA} {apos cpos : Pos} (ho : GE X o de) (ha : GA X (e :: es) da)
    (base9 : attributeBase o "add" X.env (eval o X.env) = eval o X.env := by rfl)
    (few9 : ((backTo cpos (starEach (e :: es) X.env)).all (fun x => !x.1) && (backToKw cpos (keywordEach [] X.env)).all (fun x => x.1.isSome)
      && decide ((e :: es).length + ([] : List Keyword).length + (if ([] : List Keyword).isEmpty then 0 else 1) < 30)) = true := by rfl)
    (line9 : (apos.endLine == cpos.line) = true := by rfl) (hs : starEach (e :: es) X.env = (false, eval e X.env) :: starEach es X.env := by rfl) (plain9 : (backTo cpos (starEach es X.env)).any (·.1) = false := by rfl) :
    GE X (.Call (.Attribute o "add" apos) (e :: es) [] cpos) (dSAdd X.prog X.w de da) := by
  obtain ⟨te, pt, l⟩ := ho.ex
  obtain ⟨ta, q, la⟩ := ha.ex
  refine .of ⟨_, pe_saddK pt q base9 few9 line9 hs plain9, fun s H sd m Qd Q rs rm h k => ?_⟩
  refine l s H sd m _ _ rs rm h fun x H1 dx m1 t1 rm1 r1 h1 => ?_
  obtain ⟨⟨a, S, n, rfl, e2⟩, h2⟩ := h1
  cases r1
  refine ⟨⟨a, S, n, rfl, rm1 a _ e2⟩, ?_⟩
  refine la s H1 sd m1 _ _ (rs.mono t1) rm1 h2 fun vs H2 ds m2 t2 rm2 r2 h3 => ?_
  obtain ⟨a', S', n', d, kk, e3, rfl, e4, e5, room, h4⟩ := h3
  cases e3
  obtain ⟨v, rfl, rv⟩ := repL1 r2
  have hv := key_rep rv e4
  subst hv
  have e6 := rm2 a _ e5
  exact ⟨a, kk, S', n', rfl, rfl, e6, room, k _ _ _ _ (t1.trans (t2.trans (.sK e6))) (rm2.setS e6) .non h4⟩
theorem lr_sin {P : Program} {w : World} {K : PySem.W.Frag} {neg : Bool} : LR K (rSInK P w neg) (dSIn P w neg) := fun x y H dx dy m Qd Q rm rx ry h k => by
  obtain ⟨kk, a, S, n, e1, rfl, e2, h2⟩ := h
  cases ry
  exact ⟨kk, a, S, n, key_rep rx e1, rfl, rm a _ e2, k _ _ _ _ (.refl H) rm (.bl _) h2⟩
end
end PD
namespace PD
open PySem PySem.Spec PyProof.Rows L2
section
variable {X : Cx} {Ed : DX}
/-- C(e, ..) whose __init__ lets nothing out -/
def dMake (C : Addr) (n : Nat) (sd : SpD) (da : DA) : DE := fun s m Q => da s m fun ds m1 => ds.length + 1 = n ∧ ∀ x, m1 x = none → sd (.ref x :: ds) (mset m1 x (.ins C [])) (fun v m2 => v = .non ∧ Q (.ref x) m2)
end
end PD
namespace PD
open PySem PySem.Spec PyProof.Rows L2
def toKeys : List D → Option (List Key)
  | [] => some []
  | d :: ds => match toKey d, toKeys ds with
    | some k, some ks => some (k :: ks)
    | _, _ => none
theorem keys_rep {K : PySem.W.Frag} {H : Hp} : ∀ {ds : List D} {vs : List V} {ks : List Key}, RepL K H ds vs → toKeys ds = some ks → vs = ks.map kV
  | [], _, _, .nil, h => by cases h; rfl
  | d :: ds, _, _, .cons r rs, h => by
    unfold toKeys at h
    split at h
    · rename_i k ks h1 h2
      cases h
      rw [key_rep r h1, keys_rep rs h2]
      rfl
    · cases h
theorem TX.dT {H : Hp} {a : Addr} {us : List (List Key × V)} {o : HO} (h : H a = some (.dT us)) : TX H (upd H a o) := fun b u i e => by
  rw [upd_ne]
  · exact e
  · rintro rfl
    rw [h] at e; cases e; exact i.elim
theorem RM.setT {K : PySem.W.Frag} {H : Hp} {m : Mu} {p : Addr} {kvs : List (List Key × D)} {us ws : List (List Key × V)} (r : RM K H m) (h : H p = some (.dT ws)) (e1 : us.map (·.1) = kvs.map (·.1)) (q : RepL K H (kvs.map (·.2)) (us.map (·.2))) : RM K (upd H p (.dT us)) (mset m p (.dcT kvs)) := fun a o e => by
  by_cases ha : a = p
  · subst ha
    rw [mset_same] at e; cases e
    exact ⟨us, upd_same, e1, q.mono (.dT h)⟩
  · rw [mset_ne ha] at e
    refine (r a o e).tx (.dT h) fun us z => ?_
    rw [upd_ne ha]; exact z
theorem RM.newT {K : PySem.W.Frag} {H : Hp} {m : Mu} {p : Addr} (r : RM K H m) (h : H p = none) : RM K (upd H p (.dT [])) (mset m p (.dcT [])) := fun a o e => by
  by_cases ha : a = p
  · subst ha
    rw [mset_same] at e; cases e
    exact ⟨[], upd_same, rfl, .nil⟩
  · rw [mset_ne ha] at e
    exact r.skip h a o e
def dDNewT : DE := fun _ m Q => ∀ p, m p = none → Q (.ref p) (mset m p (.dcT []))
def dDGetT (dd : DE) (da : DA) : DE := fun s m Q => dd s m fun x m1 => da s m1 fun ds m2 => ds.length ≤ sizeLine ∧ ∃ a kvs ks d, x = .ref a ∧ m2 a = some (.dcT kvs) ∧ toKeys ds = some ks ∧ valD kvs ks = some d ∧ Q d m2
def dDPutT (dd : DE) (da : DA) (dv : DE) : DS := fun E s m => dv s m fun z m1 => dd s m1 fun x m2 => da s m2 fun ds m3 => ds.length ≤ sizeLine ∧ ∃ a kvs ks, x = .ref a ∧ m3 a = some (.dcT kvs) ∧ toKeys ds = some ks ∧ kvs.length < sizeLine ∧ E.nx s (mset m3 a (.dcT (putKD kvs ks z)))
section
variable {X : Cx} {o value : Expr} {es : List Expr} {pos pos' tp : Pos} {dd dv : DE} {da : DA} {kk : Nat}
theorem ge_dnewT : GE X (.Dict [] [] pos) dDNewT :=
  .of ⟨_, pe_dnewT, fun s H sd m Qd Q rs rm h k => fun p hp => k _ _ _ _ (.new hp) (rm.newT hp) (.ref p) (h p (rm.fresh hp))⟩
theorem gs_dputT (hu : X.A.units + 1 < cLine) (ho : GE X o dd) (ha : GA X es da) (hv : GE X value dv) (hs : swapsWith value (some (.Subscript o (.Tuple es kk tp) pos')) pos.line X.env = pure false := by rfl) : GS X (.Assign [.Subscript o (.Tuple es kk tp) pos'] value pos) (dDPutT dd da dv) := by
  obtain ⟨td, pd, ld⟩ := ho.ex
  obtain ⟨ta, pa, la⟩ := ha.ex
  obtain ⟨tv, pv', lv⟩ := hv.ex
  refine ⟨_, ps_dput hu pd (pe_tup pa) pv' hs, fun s H sd m Ed E rs rm h k1 _ _ _ => ?_⟩
  refine lv s H sd m _ _ rs rm h fun z H1 dz m1 t1 rm1 r1 h1 => ?_
  refine ld s H1 sd m1 _ _ (rs.mono t1) rm1 h1 fun x H2 dx m2 t2 rm2 r2 h2 => ?_
  refine la s H2 sd m2 _ _ (rs.mono (t1.trans t2)) rm2 h2 fun vs H3 ds m3 t3 rm3 r3 h3 => ?_
  obtain ⟨hz, a, kvs, ks, rfl, e2, e3, hl, h4⟩ := h3
  cases r2
  obtain ⟨us, e5, e6, r⟩ := rm3 a _ e2
  have hv := keys_rep r3 e3
  subst hv
  have hlen : us.length = kvs.length := by have z := congrArg List.length e6; rwa [List.length_map, List.length_map] at z
  refine ⟨by rw [← r3.length]; exact hz, fun p hp => ?_⟩
  have e5' : (upd H3 p (.tup (ks.map kV))) a = some (.dT us) := by rw [upd_ne (ne_of_none e5 hp)]; exact e5
  have tn : TX H3 (upd H3 p (.tup (ks.map kV))) := .new hp
  have pr := putK_rep (k := ks) e6 (r.mono tn) ((r1.mono (t2.trans t3)).mono tn)
  exact ⟨a, _, rfl, DPut.t e5' upd_same (by omega), k1 _ _ _ _ (t1.trans (t2.trans (t3.trans (tn.trans (.dT e5'))))) ((rs.mono (t1.trans (t2.trans (t3.trans tn)))).mono (.dT e5')) ((rm3.skip hp).setT e5' pr.1 pr.2) h4⟩
end
end PD
namespace PD
open PySem PySem.Spec PyProof.Rows L2
def dDGet2 (dd dk dx : DE) : DE := fun s m Q => dd s m fun x m1 => ∃ a, x = .ref a ∧ (∃ kvs, m1 a = some (.dct kvs)) ∧ dk s m1 fun y m2 => dx s m2 fun z m3 => ∃ kvs k, m3 a = some (.dct kvs) ∧ toKey y = some k ∧ Q ((valD kvs k).getD z) m3
end PD
namespace PD
open PySem PySem.Spec PyProof.Rows L2
def mdel (m : Mu) (a : Addr) : Mu := fun b => if b = a then none else m b
theorem mdel_ne {m : Mu} {a b : Addr} (h : b ≠ a) : mdel m a b = m b := by unfold mdel; rw [if_neg h]
theorem RM.frz {K : PySem.W.Frag} {H : Hp} {m : Mu} {p : Addr} {vs : List V} {od : Obj} (r : RM K H m) (h : H p = some (.lst vs)) : RM K (upd H p (.frz od (.lst vs))) (mdel m p) := fun a o e => by
  by_cases ha : a = p
  · subst ha; unfold mdel at e; rw [if_pos rfl] at e; cases e
  · rw [mdel_ne ha] at e
    refine (r a o e).tx (.lst h) fun us z => ?_
    rw [upd_ne ha]; exact z
def tFrz (t : TE) : TE := fun σ H Q => t σ H fun x H1 => Q x H1 ∨ ∃ p vs, x = .ref p ∧ H1 p = some (.lst vs) ∧ ∀ od, Q x (upd H1 p (.frz od (.lst vs)))
section
variable {X : Cx}
theorem pe_frz {e : Expr} {t : TE} (h : PE X e t) : PE X e (tFrz t) := by
  refine ⟨fun pins s σ H Q I hw => ?_⟩
  refine thn (h.run pins s σ H _ I hw) fun v s1 ⟨x, H1, I1, r, q⟩ => ?_
  rcases q with q | ⟨p, vs, rfl, hp, q⟩
  · exact ⟨x, H1, I1, r, q⟩
  · obtain ⟨od, I2⟩ := I1.lock hp trivial
    exact ⟨_, _, I2, r, q od⟩
def dFrzV (x : D) (m1 : Mu) (Q : DK) : Prop := match x with
  | .ref p => ∃ ds, m1 p = some (.lst ds) ∧ Q (.rol ds) (mdel m1 p)
  | x => Q x m1
def dFrz (d : DE) : DE := fun s m Q => d s m fun x m1 => dFrzV x m1 Q
theorem ge_frz {e : Expr} {d : DE} (h : GE X e d) : GE X e (dFrz d) := by
  obtain ⟨t, p, l⟩ := h.ex
  refine .of ⟨_, pe_frz p, fun s H sd m Qd Q rs rm h k => ?_⟩
  refine l s H sd m _ _ rs rm h fun v H1 dv m1 t1 rm1 r1 h1 => ?_
  cases r1 with
  | ref p =>
    obtain ⟨ds, e1, q⟩ := h1
    obtain ⟨vs, e2, r2⟩ := rm1 p _ e1
    exact .inr ⟨p, vs, rfl, e2, fun od => k _ _ _ _ (t1.trans (.lst e2)) (rm1.frz e2) (.rol (.inl ⟨od, upd_same⟩) (r2.mono (.lst e2))) q⟩
  | non => exact .inl (k _ _ _ _ t1 rm1 .non h1)
  | bl b => exact .inl (k _ _ _ _ t1 rm1 (.bl b) h1)
  | int i => exact .inl (k _ _ _ _ t1 rm1 (.int i) h1)
  | str z => exact .inl (k _ _ _ _ t1 rm1 (.str z) h1)
  | tup s r => exact .inl (k _ _ _ _ t1 rm1 (.tup s r) h1)
  | rol s r => exact .inl (k _ _ _ _ t1 rm1 (.rol s r) h1)
  | dic e n r => exact .inl (k _ _ _ _ t1 rm1 (.dic e n r) h1)
  | dicT e n r => exact .inl (k _ _ _ _ t1 rm1 (.dicT e n r) h1)
  | obj e n r => exact .inl (k _ _ _ _ t1 rm1 (.obj e n r) h1)
def lsq (m : Mu) : D → Option (List D)
  | .rol ds => some ds
  | .ref a => match m a with | some (.lst ds) => some ds | _ => none
  | _ => none
theorem lsq_rep {K : PySem.W.Frag} {H : Hp} {m : Mu} {d : D} {v : V} {ds : List D} (rm : RM K H m) (r : Rep K H d v) (h : lsq m d = some ds) : ∃ a vs, v = .ref a ∧ SqL K H a vs ∧ RepL K H ds vs := by
  cases r with
  | rol s q => unfold lsq at h; cases h; exact ⟨_, _, rfl, s.sq, q⟩
  | ref a =>
    unfold lsq at h
    cases e : m a with
    | none => simp only [e] at h; cases h
    | some o =>
      have q := rm a o e
      cases o with
      | lst es => simp only [e] at h; cases h; obtain ⟨vs, e2, r⟩ := q; exact ⟨a, vs, rfl, SqL.of e2, r⟩
      | _ => simp only [e] at h; cases h
  | _ => unfold lsq at h; cases h
theorem lsq_rol {m : Mu} {ds : List D} : lsq m (.rol ds) = some ds := rfl
theorem lsq_ref {m : Mu} {a : Addr} {ds : List D} (h : m a = some (.lst ds)) : lsq m (.ref a) = some ds := by unfold lsq; simp only [h]
/-- list + list -/
def rCatL (K : PySem.W.Frag) : R2 := fun x y H Q => ∃ l b xs zs, x = .ref l ∧ y = .ref b ∧ SqL K H l xs ∧ SqL K H b zs ∧ xs.length + zs.length ≤ sizeLine ∧ ∀ p, H p = none → Q (.ref p) (upd H p (.lst (xs ++ zs)))
theorem op_catL : OpR X (binaryOp .Add) (rCatL X.K) := by
  intro pins s σ H x y v u Q I rx ry h
  obtain ⟨l, b, xs, zs, rfl, rfl, hH, hB, hz, q⟩ := h
  cases rx
  cases ry
  obtain ⟨its, r, p1, hl⟩ := I.list hH
  obtain ⟨its2, r2, p2, hl2⟩ := I.list hB
  obtain ⟨⟨cls, dd, data, sl⟩, n, ho, hc, hdd, hd⟩ := p1
  obtain ⟨⟨cls2, dd2, data2, sl2⟩, n2, ho2, hc2, hdd2, hd2⟩ := p2
  simp only at hc hd hc2 hd2
  subst hc hd hc2 hd2
  have ea : its.toArray ++ its2.toArray = (its ++ its2).toArray := by simp
  have hz2 : its.toArray.size + its2.toArray.size ≤ sizeLine := by
    have z1 := r.length
    have z2 := r2.length
    simp only [List.size_toArray]; omega
  refine PySem.concat_meets ⟨_, ho, rfl⟩ ⟨_, ho2, rfl⟩ PySem.noFill_list_add PySem.seq_list_add PySem.F.slot_list_add PySem.F.entry_list_add (PySem.F.args_list_add_2 _ _) (list_addW l b its.toArray its2.toArray n n2 dd dd2 sl sl2 hz2) ⟨ho, ho2, ?_⟩
  rw [ea]
  exact ⟨.ref _, _, I.lnew (t' := s.toks) (r.append r2) (by rw [List.length_append]; omega), rfl, q _ I.fresh⟩
def dAddL : D2 := fun x y m Q => match x, y with
  | .int i, .int j => Q (.int (i + j)) m
  | .str i, .str j => i.length + j.length ≤ sizeLine ∧ Q (.str (i ++ j)) m
  | .tup a, .tup b => a.length + b.length ≤ sizeLine ∧ Q (.tup (a ++ b)) m
  | x, y => ∃ xs ys, lsq m x = some xs ∧ lsq m y = some ys ∧ xs.length + ys.length ≤ sizeLine ∧ ∀ p, m p = none → Q (.ref p) (mset m p (.lst (xs ++ ys)))
def rAddL (K : PySem.W.Frag) : R2 := fun x y H Q => rAddU K x y H Q ∨ rCatL K x y H Q
theorem op_addL : OpR X (binaryOp .Add) (rAddL X.K) := op_addU.or op_catL
theorem lr_addL {K : PySem.W.Frag} : LR K (rAddL K) dAddL := fun x y H dx dy m Qd Q rm rx ry h k => by
  have go : (∃ xs ys, lsq m dx = some xs ∧ lsq m dy = some ys ∧ xs.length + ys.length ≤ sizeLine ∧ ∀ p, m p = none → Qd (.ref p) (mset m p (.lst (xs ++ ys)))) → rAddL K x y H Q := by
    rintro ⟨xs, ys, h1, h2, hz, h⟩
    obtain ⟨a, vs, rfl, s1, r1⟩ := lsq_rep rm rx h1
    obtain ⟨b, ws, rfl, s2, r2⟩ := lsq_rep rm ry h2
    exact .inr ⟨a, b, vs, ws, rfl, rfl, s1, s2, by rw [← r1.length, ← r2.length]; exact hz, fun p hp => k _ _ _ _ (.new hp) (rm.newL hp (r1.append r2)) (.ref p) (h p (rm.fresh hp))⟩
  by_cases hi : (∃ i j, dx = .int i ∧ dy = .int j) ∨ (∃ i j, dx = .str i ∧ dy = .str j) ∨ ∃ i j, dx = .tup i ∧ dy = .tup j
  · refine .inl (lr_add x y H dx dy m Qd Q rm rx ry ?_ k)
    rcases hi with ⟨i, j, rfl, rfl⟩ | ⟨i, j, rfl, rfl⟩ | ⟨i, j, rfl, rfl⟩ <;> exact h
  · refine go ?_
    unfold dAddL at h
    split at h
    · exact absurd (.inl ⟨_, _, rfl, rfl⟩) hi
    · exact absurd (.inr (.inl ⟨_, _, rfl, rfl⟩)) hi
    · exact absurd (.inr (.inr ⟨_, _, rfl, rfl⟩)) hi
    · exact h
def dMulL : D2 := fun x y m Q => match x, y with
  | .int i, .int j => CMul i j ∧ Q (.int (i * j)) m
  | .str z, .int n => 0 ≤ n ∧ n ≤ 1000 ∧ z.length ≤ 1000 ∧ Q (.str (repS z n.toNat)) m
  | .ref a, .int n => ∃ xs, m a = some (.lst xs) ∧ -(2 ^ 63) ≤ n ∧ n < 2 ^ 63 ∧ xs.length * n.toNat ≤ sizeLine ∧ ∀ p, m p = none → Q (.ref p) (mset m p (.lst (List.replicate n.toNat xs).flatten))
  | _, _ => False
def rMulL : R2 := fun x y H Q => rMulU x y H Q ∨ rRep x y H Q
theorem op_mulL : OpR X (binaryOp .Mult) rMulL := op_mulU.or op_rep
theorem RepL.repl {K : PySem.W.Frag} {H : Hp} {ds : List D} {vs : List V} (r : RepL K H ds vs) : ∀ n : Nat, RepL K H (List.replicate n ds).flatten (List.replicate n vs).flatten
  | 0 => .nil
  | n + 1 => by rw [List.replicate_succ, List.replicate_succ, List.flatten_cons, List.flatten_cons]; exact r.append (RepL.repl r n)
theorem lr_mulL {K : PySem.W.Frag} : LR K rMulL dMulL := fun x y H dx dy m Qd Q rm rx ry h k => by
  cases rx with
  | int i =>
    cases ry with
    | int j => exact .inl (.inl ⟨i, j, rfl, rfl, h.1, k _ H _ m (.refl H) rm (.int _) h.2⟩)
    | _ => exact h.elim
  | str i =>
    cases ry with
    | int j => exact .inl (.inr ⟨i, j, rfl, rfl, h.1, h.2.1, h.2.2.1, k _ H _ m (.refl H) rm (.str _) h.2.2.2⟩)
    | _ => exact h.elim
  | ref a =>
    cases ry with
    | int j =>
      obtain ⟨xs, e, h1, h2, h3, h4⟩ := h
      obtain ⟨vs, e2, r⟩ := rm a _ e
      exact .inr ⟨a, j, vs, rfl, rfl, e2, h1, h2, by rw [← r.length]; exact h3, fun p hp => k _ _ _ _ (.new hp) (rm.newL hp (r.repl _)) (.ref p) (h4 p (rm.fresh hp))⟩
    | _ => exact h.elim
  | _ => exact h.elim
def dSlL (de : DE) (dl dh : DO) : DE := fun s m Q => de s m fun x m1 => dl s m1 fun lo m2 => dh s m2 fun hi m3 => match x with
  | .tup ds => Q (.tup (cutD ds lo hi)) m3
  | x => ∃ ds, lsq m3 x = some ds ∧ ∀ p, m3 p = none → Q (.ref p) (mset m3 p (.lst (cutD ds lo hi)))
theorem ge_sliceL {e : Expr} {lo hi : Option Expr} {pos p2 : Pos} {de : DE} {dl dh : DO} (he : GE X e de) (hl : GO X lo dl) (hh : GO X hi dh) : GE X (.Subscript e (.Slice lo hi none p2) pos) (dSlL de dl dh) := by
  obtain ⟨te, p, l⟩ := he.ex
  obtain ⟨tl, q, l2⟩ := hl.ex
  obtain ⟨th, q2, l3⟩ := hh.ex
  refine .of ⟨_, pe_slice (sl_tupA.or sl_list) p q q2, fun s H sd m Qd Q rs rm h k => ?_⟩
  refine l s H sd m _ _ rs rm h fun v H1 dv m1 t1 rm1 r1 h1 => ?_
  refine l2 s H1 sd m1 _ _ (rs.mono t1) rm1 h1 fun lo H2 m2 t2 rm2 h2 => ?_
  refine l3 s H2 sd m2 _ _ (rs.mono (t1.trans t2)) rm2 h2 fun hi H3 m3 t3 rm3 h3 => ?_
  have r3 := r1.mono (t2.trans t3)
  have t13 := t1.trans (t2.trans t3)
  by_cases ht : ∃ ds, dv = .tup ds
  · obtain ⟨ds, rfl⟩ := ht
    cases r3 with
    | @tup ds a vs sa ra =>
      refine .inl ⟨a, vs, rfl, sa, fun e => ?_, fun e p hp => ?_⟩
      · have e2 : cutD ds lo hi = ds := by
          unfold cutD
          rw [ra.length, e.1, e.2, List.drop_zero, Nat.sub_zero, ← ra.length, List.take_length]
        have h4 : Qd (.tup (cutD ds lo hi)) m3 := h3
        rw [e2] at h4
        exact k _ H3 _ m3 t13 rm3 (.tup sa ra) h4
      · exact k _ _ _ m3 (t13.trans (.new hp)) (rm3.skip hp) (.tup upd_same ((ra.cut lo hi).mono (.new hp))) h3
  · have h4 : ∃ ds, lsq m3 dv = some ds ∧ ∀ p, m3 p = none → Qd (.ref p) (mset m3 p (.lst (cutD ds lo hi))) := by
      split at h3
      · exact absurd ⟨_, rfl⟩ ht
      · exact h3
    obtain ⟨ds, e, q⟩ := h4
    obtain ⟨a, vs, rfl, sl, r⟩ := lsq_rep rm3 r3 e
    exact .inr ⟨a, vs, rfl, sl, fun p hp => k _ _ _ _ (t13.trans (.new hp)) (rm3.newL hp (r.cut lo hi)) (.ref p) (q p (rm3.fresh hp))⟩
def ltP (x y : D) : Bool := match toP x, toP y with
  | some p, some q => PySem.W.dataLt p q
  | _, _ => false
/-- both can be asked which is less -/
def ordP (x y : D) : Prop := ∃ p q, toP x = some p ∧ toP y = some q ∧ PySem.W.alike p q = true ∧ p ≠ .none ∧ min p.depth q.depth ≤ 60
def rLtS (K : PySem.W.Frag) (f : PyData → PyData → Bool) : R2 := fun x y H Q => ∃ p q, Dp K H x p ∧ Dp K H y q ∧ PySem.W.alike p q = true ∧ p ≠ .none ∧ min p.depth q.depth ≤ 60 ∧ Q (.bl (f p q)) H
theorem op_ltS (hu : X.A.units + 64 < cLine) : OpR X (compareOp .Lt) (rLtS X.K fun p q => PySem.W.dataLt p q) := fun pz s τ H x y v u Q I rx ry ⟨p, q, hp, hq, al, hn, hd, h⟩ => by
  obtain ⟨as, r1⟩ := Dp.reads I _ _ v hp rx
  obtain ⟨bs, r2⟩ := Dp.reads I _ _ u hq ry
  exact PySem.W.lt_data r1 r2 al hn (by omega) ⟨.bl _, H, I, rfl, h⟩
theorem op_gtS (hu : X.A.units + 64 < cLine) : OpR X (compareOp .Gt) (rLtS X.K fun p q => PySem.W.dataLt q p) := fun pz s τ H x y v u Q I rx ry ⟨p, q, hp, hq, al, hn, hd, h⟩ => by
  obtain ⟨as, r1⟩ := Dp.reads I _ _ v hp rx
  obtain ⟨bs, r2⟩ := Dp.reads I _ _ u hq ry
  exact PySem.W.gt_data r1 r2 al hn (by omega) ⟨.bl _, H, I, rfl, h⟩
def dLtS (f : D → D → Bool) : D2 := fun x y m Q => ordP x y ∧ Q (.bl (f x y)) m
theorem lr_ltS {K : PySem.W.Frag} {f : PyData → PyData → Bool} {g : D → D → Bool} (hg : ∀ x y p q, toP x = some p → toP y = some q → g x y = f p q) : LR K (rLtS K f) (dLtS g) := fun x y H dx dy m Qd Q rm rx ry ⟨⟨p, q, e1, e2, al, hn, hd⟩, h⟩ k =>
  ⟨p, q, rx.dp e1, ry.dp e2, al, hn, hd, by rw [← hg _ _ _ _ e1 e2]; exact k _ H _ m (.refl H) rm (.bl _) h⟩
theorem ltP_eq {x y : D} {p q : PyData} (e1 : toP x = some p) (e2 : toP y = some q) : ltP x y = PySem.W.dataLt p q := by unfold ltP; rw [e1, e2]
theorem lr_ltP {K : PySem.W.Frag} : LR K (rLtS K fun p q => PySem.W.dataLt p q) (dLtS ltP) := lr_ltS fun _ _ _ _ e1 e2 => ltP_eq e1 e2
theorem lr_gtP {K : PySem.W.Frag} : LR K (rLtS K fun p q => PySem.W.dataLt q p) (dLtS fun x y => ltP y x) := lr_ltS fun _ _ _ _ e1 e2 => ltP_eq e2 e1
theorem ordP_i (i j : Int) : ordP (.int i) (.int j) := ⟨.int i, .int j, rfl, rfl, rfl, (fun z => by cases z), by show min 0 0 ≤ 60; decide⟩
theorem ordP_s (i j : Str) : ordP (.str i) (.str j) := ⟨.str i, .str j, rfl, rfl, rfl, (fun z => by cases z), by show min 0 0 ≤ 60; decide⟩
theorem ltP_i (i j : Int) : ltP (.int i) (.int j) = decide (i < j) := PySem.W.dataLt_int i j
theorem ltP_s (i j : Str) : ltP (.str i) (.str j) = decide (i.cps.toList < j.cps.toList) := PySem.W.dataLt_str i j
theorem dLtS_i {f : D → D → Bool} {i j : Int} {m : Mu} {Q : DK} : dLtS f (.int i) (.int j) m Q = Q (.bl (f (.int i) (.int j))) m := propext ⟨fun h => h.2, fun h => ⟨ordP_i i j, h⟩⟩
theorem dLtS_s {f : D → D → Bool} {i j : Str} {m : Mu} {Q : DK} : dLtS f (.str i) (.str j) m Q = Q (.bl (f (.str i) (.str j))) m := propext ⟨fun h => h.2, fun h => ⟨ordP_s i j, h⟩⟩
def eqP (x y : D) : Bool := match toP x, toP y with
  | some p, some q => PyData.eqv p q
  | _, _ => false
def inP (x : D) (ds : List D) : Bool := ds.any fun y => eqP y x
def rInP (K : PySem.W.Frag) (neg : Bool) : R2 := fun x y H Q => ∃ (p : PyData) (ps : List PyData), Dp K H x p ∧ (Dp K H y (.list ps) ∨ Dp K H y (.tuple ps)) ∧ PyData.plainAll ps = true ∧ p.plain = true ∧ min (PyData.depthAll ps) p.depth ≤ 60 ∧ Q (.bl (if neg then !ps.any fun z => PyData.eqv z p else ps.any fun z => PyData.eqv z p)) H
theorem op_inP (hu : X.A.units + 64 < cLine) : OpR X (compareOp .In) (rInP X.K false) := fun pz s τ H x y v u Q I rx ry ⟨p, ps, hp, hq, h1, h2, hd, h⟩ => by
  obtain ⟨as, r1⟩ := Dp.reads I _ _ v hp rx
  rcases hq with hq | hq
  · obtain ⟨bs, r2⟩ := Dp.reads I _ _ u hq ry
    exact PySem.SeqAt.in_list_data r2 r1 h1 h2 (by omega) ⟨.bl _, H, I, rfl, h⟩
  · obtain ⟨bs, r2⟩ := Dp.reads I _ _ u hq ry
    exact PySem.SeqAt.in_tuple_data r2 r1 h1 h2 (by omega) ⟨.bl _, H, I, rfl, h⟩
theorem op_notInP (hu : X.A.units + 64 < cLine) : OpR X (compareOp .NotIn) (rInP X.K true) := fun pz s τ H x y v u Q I rx ry ⟨p, ps, hp, hq, h1, h2, hd, h⟩ => by
  obtain ⟨as, r1⟩ := Dp.reads I _ _ v hp rx
  rcases hq with hq | hq
  · obtain ⟨bs, r2⟩ := Dp.reads I _ _ u hq ry
    exact PySem.SeqAt.notIn_list_data r2 r1 h1 h2 (by omega) ⟨.bl _, H, I, rfl, h⟩
  · obtain ⟨bs, r2⟩ := Dp.reads I _ _ u hq ry
    exact PySem.SeqAt.notIn_tuple_data r2 r1 h1 h2 (by omega) ⟨.bl _, H, I, rfl, h⟩
end
end PD
namespace PySem.W
open PySem PySem.Calls PyProof.Rows
section
variable {prog : Program} {w : World} {A : Around} {E : Value → Shared → Prop} {s : Shared} {β : Type} {R : Value → β → Prop} {enc : β → PyData} {vs : List Value} {bs : List β}
theorem pd_minD_mem : ∀ (xs : List PyData) (x : PyData), minD x xs ∈ x :: xs
  | [], x => List.mem_cons_self ..
  | y :: ys, x => by
    have q : minD x (y :: ys) = minD (if dataLt y x then y else x) ys := rfl
    rw [q]
    rcases List.mem_cons.mp (pd_minD_mem ys (if dataLt y x then y else x)) with z | z
    · rw [z]; split <;> simp
    · exact List.mem_cons_of_mem _ (List.mem_cons_of_mem _ z)
end
end PySem.W
namespace PD
open PySem PySem.Spec PyProof.Rows L2
open PySem.W (EachIs AllAlike Sortable dataLe AlikeAll minD maxD)
def RD (K : PySem.W.Frag) (H : Hp) (u : Value) (d : D) : Prop := ∃ x : V, RelV x u ∧ Rep K H d x
def encP (d : D) : PyData := (toP d).getD .none
/-- all have data -/
def datL (ds : List D) : Prop := ∀ d ∈ ds, (toP d).isSome
section
variable {X : Cx}
theorem each_of {K : PySem.W.Frag} {H : Hp} : ∀ {ds : List D} {vs : List V} {us : List Value}, RepL K H ds vs → Vals vs us → EachIs (RD K H) us ds
  | _, _, _, .nil, .nil => .nil
  | _, _, _, .cons r t, .cons a b => .cons ⟨_, a, r⟩ (each_of t b)
theorem encP_some {d : D} (h : (toP d).isSome) : toP d = some (encP d) := by
  unfold encP
  cases e : toP d with
  | none => rw [e] at h; cases h
  | some p => rfl
theorem each_reads {pz : List (Addr × Obj)} {τ : L2.St} {H : Hp} {s : Shared} (I : Inv X pz τ H s) : ∀ {ds : List D} {us : List Value}, datL ds → EachIs (RD X.K H) us ds → EachIs (fun v b => ∃ as, Reads s.heap v (encP b) as) us ds
  | _, _, _, .nil => .nil
  | _, _, h, .cons ⟨x, a, r⟩ t => .cons (Dp.reads I _ _ _ (r.dp (encP_some (h _ (List.mem_cons_self ..)))) a) (each_reads I (fun d hd => h d (List.mem_cons_of_mem _ hd)) t)
/-- what sorted, min and max ask of the items -/
structure OrdL (ds : List D) : Prop where
  dat : datL ds
  al : ∀ x ∈ ds, ∀ y ∈ ds, PySem.W.alike (encP x) (encP y) = true
  dep : ∀ x ∈ ds, (encP x).depth ≤ 50
theorem OrdL.all {ds : List D} (h : OrdL ds) : AllAlike (ds.map encP) := fun d hd d' hd' => by
  obtain ⟨x, hx, rfl⟩ := List.mem_map.mp hd
  obtain ⟨y, hy, rfl⟩ := List.mem_map.mp hd'
  exact h.al x hx y hy
def rMinS (K : PySem.W.Frag) (f : PyData → List PyData → PyData) : List V → Hp → VK → Prop := fun vs H Q => ∃ (a : Addr) (xs : List V) (d : D) (ds : List D), vs = [V.ref a] ∧ (SqL K H a xs ∨ SqT K H a xs) ∧ RepL K H (d :: ds) xs ∧ OrdL (d :: ds) ∧ (∀ x ∈ d :: ds, encP x ≠ .none) ∧
  ∀ x ∈ d :: ds, encP x = f (encP d) (ds.map encP) → ∀ v, Rep K H x v → Q v H
theorem depthAll_le {n : Nat} : ∀ {ps : List PyData}, (∀ p ∈ ps, p.depth ≤ n) → PyData.depthAll ps ≤ n
  | [], _ => by unfold PyData.depthAll; exact Nat.zero_le _
  | p :: ps, h => by
    unfold PyData.depthAll
    have h1 := h p (List.mem_cons_self ..)
    have h2 := depthAll_le (ps := ps) fun q hq => h q (List.mem_cons_of_mem _ hq)
    omega
theorem OrdL.alike {ds : List D} (h : OrdL ds) (hn : ∀ x ∈ ds, encP x ≠ .none) : AlikeAll (ds.map encP) := ⟨h.all, fun p hp => by
  obtain ⟨x, hx, rfl⟩ := List.mem_map.mp hp
  exact hn x hx⟩
theorem readsAll_of {h : Heap} : ∀ {us : List Value} {ds : List D}, EachIs (fun v b => ∃ as, Reads h v (encP b) as) us ds → ∃ as, ReadsAll h us (ds.map encP) as
  | _, _, e => PySem.W.each_readsAll encP e
theorem each_get {α β : Type} {R : α → β → Prop} : ∀ {as : List α} {bs : List β} {i : Nat} {a : α}, EachIs R as bs → as[i]? = some a → ∃ b, bs[i]? = some b ∧ R a b
  | _, _, _, _, .nil, e => by simp at e
  | _, _, 0, _, .cons h t, e => by simp at e; subst e; exact ⟨_, rfl, h⟩
  | _, _, i + 1, a, .cons h t, e => by
    obtain ⟨b, h1, h2⟩ := each_get (i := i) (a := a) t (by simpa using e)
    exact ⟨b, by simpa using h1, h2⟩
theorem min_fin {pins : List (Addr × Obj)} {σ : L2.St} {H : Hp} {s : Shared} {its : List Value} {d : D} {ds : List D} {f : PyData → List PyData → PyData} (I : Inv X pins σ H s) (ord : OrdL (d :: ds)) (e : EachIs (RD X.K H) its (d :: ds)) (hm : ∀ x xs, f x xs ∈ x :: xs)
    {Q : VK} (q : ∀ x ∈ d :: ds, encP x = f (encP d) (ds.map encP) → ∀ v, Rep X.K H x v → Q v H) {i : Nat} {v : Value} {h' : Heap} {tk : Nat} {bs : List Addr} (hi : its[i]? = some v) (hr : Reads h' v (f (encP d) (ds.map encP)) bs) (hk : ∀ b o, s.heap.get? b = some o → h'.get? b = some o) :
    EP X pins σ Q v { s with heap := h', toks := tk } := by
  have I1 : Inv X pins σ H { s with heap := h', toks := tk } := I.kept hk
  obtain ⟨x, hx, y, rv, ry⟩ := each_get e hi
  have hxm : x ∈ d :: ds := List.mem_of_getElem? hx
  obtain ⟨as, r2⟩ := Dp.reads I1 _ _ _ (ry.dp (encP_some (ord.dat x hxm))) rv
  obtain ⟨z, hz, hze⟩ : ∃ z ∈ d :: ds, encP z = f (encP d) (ds.map encP) := by
    have := hm (encP d) (ds.map encP)
    rw [show encP d :: ds.map encP = (d :: ds).map encP from rfl] at this
    obtain ⟨z, hz, e⟩ := List.mem_map.mp this
    exact ⟨z, hz, e⟩
  have ee : encP x = f (encP d) (ds.map encP) := PySem.W.alike_unique _ _ _ _ _ (by rw [← hze]; exact ord.al x hxm z hz) r2 hr
  exact ⟨y, H, I1, rv, q x hxm ee y ry⟩
theorem cr_minS (hc : X.calm = true) (hu : X.A.units + 64 < cLine) : CallR X (.builtin "min") (rMinS X.K minD) := by
  intro pins s σ H vs us Q I r h
  obtain ⟨a, xs, d, ds, rfl, hs, rep, ord, hn, q⟩ := h
  rw [Vals.ref1 r]
  have hd : X.A.units + 1 + PyData.depthAll (encP d :: ds.map encP) < cLine := by
    have := depthAll_le (n := 50) (ps := (d :: ds).map encP) fun p hp => by
      obtain ⟨x, hx, rfl⟩ := List.mem_map.mp hp
      exact ord.dep x hx
    rw [List.map_cons] at this
    omega
  rcases hs with hs | hs
  · obtain ⟨its, rv, pl, hz⟩ := I.list hs
    have e := each_of rep rv
    obtain ⟨as, hr⟩ := readsAll_of (each_reads I ord.dat e)
    exact PySem.W.min_list_data (I.ok.hd hc) pl.isList hr (ord.alike hn) hd fun i v h' tk bs hi hrd hk => min_fin I ord e (fun x xs => PySem.W.pd_minD_mem xs x) q (by simpa using hi) hrd hk
  · obtain ⟨its, rv, pl, hz⟩ := I.tuple hs
    have e := each_of rep rv
    obtain ⟨as, hr⟩ := readsAll_of (each_reads I ord.dat e)
    exact PySem.W.min_tuple_data (I.ok.hd hc) pl hr (ord.alike hn) hd fun i v h' tk bs hi hrd hk => min_fin I ord e (fun x xs => PySem.W.pd_minD_mem xs x) q (by simpa using hi) hrd hk
/-- min, max: of one sequence, or of two ints -/
def dMinU (f : PyData → List PyData → PyData) (g : Int → Int → Int) : DC := fun ds m Q => match ds with
  | [x] => ∃ d es, seqOf m x = some (d :: es) ∧ OrdL (d :: es) ∧ (∀ x ∈ d :: es, encP x ≠ .none) ∧ ∀ x ∈ d :: es, encP x = f (encP d) (es.map encP) → Q x m
  | [.int i, .int j] => Q (.int (g i j)) m
  | _ => False
def rMinU (K : PySem.W.Frag) (f : PyData → List PyData → PyData) (g : Int → Int → Int) : List V → Hp → VK → Prop := fun xs H Q => (∃ i j, xs = [.int i, .int j] ∧ Q (.int (g i j)) H) ∨ rMinS K f xs H Q
theorem lc_minU {K : PySem.W.Frag} {f : PyData → List PyData → PyData} {g : Int → Int → Int} : LC K (rMinU K f g) (dMinU f g) := fun vs H ds m Qd Q rm r h k => by
  match ds, r, h with
  | [x], r, h =>
    obtain ⟨d, es, e, ord, hn, q⟩ := h
    obtain ⟨v, rfl, ra9⟩ := repL1 r
    obtain ⟨a, ws, rfl, s, r2⟩ := seq_rep rm ra9 e
    exact .inr ⟨a, ws, d, es, rfl, s, r2, ord, hn, fun x hx he v rv => k _ _ _ _ (.refl H) rm rv (q x hx he)⟩
  | [.int i, .int j], r, h =>
    obtain ⟨v, u, rfl, rv, ru⟩ := repL2 r
    cases rv
    cases ru
    exact .inl ⟨i, j, rfl, k _ H _ m (.refl H) rm (.int _) h⟩
theorem cr_minU (hc : X.calm = true) (hu : X.A.units + 64 < cLine) : CallR X (.builtin "min") (rMinU X.K minD fun i j => if j < i then j else i) := (call_min2 hc).or (cr_minS hc hu)
def dSumL : DC := fun ds m Q => match ds with
  | [x] => ∃ ns : List Int, seqOf m x = some (ns.map .int) ∧ Q (.int ns.sum) m
  | _ => False
theorem lr_inP {K : PySem.W.Frag} {neg : Bool} : LR K (rInP K neg) (fun x y m Q => ∃ ds p ps, seqOf m y = some ds ∧ toP x = some p ∧ toPs ds = some ps ∧ PyData.plainAll ps = true ∧ p.plain = true ∧ min (PyData.depthAll ps) p.depth ≤ 60 ∧ Q (.bl (if neg then !ps.any fun z => PyData.eqv z p else ps.any fun z => PyData.eqv z p)) m) := fun x y H dx dy m Qd Q rm rx ry ⟨ds, p, ps, e, e1, e2, h1, h2, h3, h4⟩ k => by
  obtain ⟨a, vs, rfl, s, r⟩ := seq_rep rm ry e
  refine ⟨p, ps, rx.dp e1, ?_, h1, h2, h3, k _ H _ m (.refl H) rm (.bl _) h4⟩
  rcases s with s | s
  · exact .inl (.lst s (r.dp e2))
  · exact .inr (.tup s (r.dp e2))
end
end PD
namespace TXS
open PySem PySem.Spec PyProof.Rows L2 PySem.Froz
/-- the table's places rise, and it tells its order -/
def TxS (w : World) (dat : SD) : Prop := Ris dat.2.2.place.toList ∧ (w.params.followText "set-order" = true ∨ dat.2.2.led = true)
theorem tailTx_s {w : World} {ep : Nat} {es : Array (Int × Value)} {tb : SetTable} {wd : Bool} (r : Ris tb.place.toList) (l : w.params.followText "set-order" = true ∨ tb.led = true) : TxS w (tailTx ep es tb wd) := by
  unfold tailTx
  split
  · exact ⟨relayAll_ris _ _ _, l.imp id fun z => by show (relayAll tb es _).2.1.led = true; rw [relayAll_led]; exact z⟩
  · exact ⟨r, l⟩
theorem addTx_s {w : World} {hv : Int} {v : Value} {dat : SD} (st : TxS w dat) : TxS w (addTx hv v dat) := by
  obtain ⟨es, ep, tb⟩ := dat
  have r1 := layNew_ris tb es hv v st.1
  have l1 : w.params.followText "set-order" = true ∨ (layNew tb es hv v).2.1.led = true := st.2.imp id fun z => by rw [layNew_led]; exact z
  unfold addTx
  refine tailTx_s ?_ ?_
  · dsimp only; split
    · exact r1
    · exact r1
  · dsimp only; split
    · exact l1
    · exact l1
/-- at a stands the set of the unlike texts l -/
def TxAt (P : Program) (w : World) (h : Heap) (a : Addr) (l : List Str) : Prop := ∃ dat : SD, h.get? a = some (sObj "set" dat) ∧ TxOk P w dat l ∧ TxS w dat ∧ l.Nodup
theorem TxAt.at {P : Program} {w : World} {h h' : Heap} {a : Addr} {l : List Str} (R : TxAt P w h a l) (k : ∀ o, h.get? a = some o → h'.get? a = some o) : TxAt P w h' a l := by
  obtain ⟨dat, e, r⟩ := R
  exact ⟨dat, k _ e, r⟩
def putT (k : Str) (l : List Str) : List Str := if k ∈ l then l else k :: l
theorem putT_nodup {k : Str} {l : List Str} (h : l.Nodup) : (putT k l).Nodup := by
  unfold putT
  split
  · exact h
  · rename_i q; exact List.nodup_cons.mpr ⟨q, h⟩
theorem putT_mem {k x : Str} {l : List Str} : x ∈ putT k l ↔ x = k ∨ x ∈ l := by
  unfold putT
  split
  · rename_i q
    exact ⟨.inr, fun z => z.elim (fun e => e ▸ q) id⟩
  · exact List.mem_cons
theorem putT_len (k : Str) (l : List Str) : (putT k l).length ≤ l.length + 1 := by
  unfold putT
  split
  · omega
  · exact Nat.le_refl _
section
variable {P : Program} {w : World} {A : Around} {E : Value → Shared → Prop} {s : Shared}
theorem tx_add {a : Addr} {l : List Str} {k : Str} {u : Tok} {Q : Bool → Shared → Prop} (R : TxAt P w s.heap a l) (room : l.length + 1 < scanBound)
    (hQ : ∀ b h', Heap.SameBut a s.heap h' → TxAt P w h' a (putT k l) → Q b { s with heap := h' }) : wpAny (model P w) A (setAddHashed a (.str k u) (hashStr w k)) Q E s := by
  obtain ⟨dat, hob, F, st, nd⟩ := R
  by_cases hk : k ∈ l
  · obtain ⟨es, ep, tb⟩ := dat
    have hpay : (sObj "set" (es, ep, tb)).data = .set es ep tb := rfl
    have lz : es.size = l.length := F.sz
    have small : es.size < scanBound := by omega
    have same : putT k l = l := by unfold putT; rw [if_pos hk]
    have kk : (strKind P w).is k (.str k u) = true := is_str k u
    unfold setAddHashed setAddHashedIn
    refine wpAny_holding (wpAny_bind (wpAny_setState_of hob hpay F.fit ?_))
    dsimp only
    rw [byScan_of rfl small F.el]
    simp only [↓reduceIte]
    unfold setAddByScan
    refine wpAny_bind ?_
    refine wpAny_bind (wpAny_rule ?_)
    refine wpAny_bind (wpAny_setScan_of (knd := strKind P w) (k := k) kk hob hpay F.fit F.el ?_)
    cases place : List.findIdx? (fun e => (strKind P w).is k e.2) es.toList with
    | none =>
      obtain ⟨e, he, z⟩ := (F.mem k).mp hk
      have c := List.findIdx?_eq_none_iff.mp place e he
      rw [z] at c
      cases c
    | some j =>
      dsimp only
      refine wpAny_pure (wpAny_pure (hQ _ s.heap (Heap.SameBut.refl a s.heap) ?_))
      rw [same]
      exact ⟨_, hob, F, st, nd⟩
  · have more : putT k l = k :: l := by unfold putT; rw [if_neg hk]
    refine add_x hob F hk room (hQ _ _ (Heap.SameBut.update s.heap a _) ?_)
    rw [more]
    exact ⟨_, get_upd _ hob rfl, add_ok u F, addTx_s st, List.nodup_cons.mpr ⟨hk, nd⟩⟩
/-- what the texts put one after another leave -/
def allT : List Str → List Str → List Str
  | [], l => l
  | x :: xs, l => allT xs (putT x l)
theorem allT_nodup : ∀ {xs l : List Str}, l.Nodup → (allT xs l).Nodup
  | [], _, h => h
  | y :: ys, l, h => by unfold allT; exact allT_nodup (putT_nodup h)
theorem allT_mem {x : Str} : ∀ {xs l : List Str}, x ∈ allT xs l ↔ x ∈ xs ∨ x ∈ l
  | [], l => by simp [allT]
  | y :: xs, l => by
    unfold allT
    rw [allT_mem, putT_mem, List.mem_cons]
    constructor
    · rintro (h | h | h)
      · exact .inl (.inr h)
      · exact .inl (.inl h)
      · exact .inr h
    · rintro ((h | h) | h)
      · exact .inr (.inl h)
      · exact .inl h
      · exact .inr (.inr h)
theorem allT_len : ∀ (xs l : List Str), (allT xs l).length ≤ xs.length + l.length
  | [], l => by unfold allT; simp
  | x :: xs, l => by
    unfold allT
    have h1 := allT_len xs (putT x l)
    have h2 := putT_len x l
    rw [List.length_cons]
    omega
theorem allT_snoc (y : Str) : ∀ (xs l : List Str), allT (xs ++ [y]) l = putT y (allT xs l)
  | [], l => rfl
  | x :: xs, l => allT_snoc y xs (putT x l)
theorem tx_loop {I : Addr} {fp wr : List Addr} {G : Array GenState → Array GenState → Prop} {n : Nat} {Pv : Nat → Value → Prop} {St : Nat → Shared → Prop} {R : Result → Shared → Prop}
    (W : WalksS P w A.in1 I fp wr G n Pv St) (S : Addr) (out : S ∉ fp) (xs : List Str) (hn : n = xs.length) (room : xs.length + 1 < scanBound) (item : ∀ i v, Pv i v → ∃ k t, xs[i]? = some k ∧ v = .str k t)
    (hR : ∀ t', TxAt P w t'.heap S (allT xs []) → ∀ s0, Moved (S :: wr) G s0 t' → s0 = s → R (.ok (.ret .none)) t') :
    ∀ (left i : Nat) (t : Shared), n - i = left → i ≤ n → St i t → TxAt P w t.heap S (allT (xs.take i) []) → Moved (S :: wr) G s t →
      codeAny (model P w) A (.builtin "set.update.loop" ⟨[.ref S, .ref I], []⟩) R t := by
  have notW : S ∉ wr := fun z => out (W.sub _ z)
  have wider : ∀ b ∈ wr, b ∈ S :: wr := fun b hb => List.mem_cons_of_mem _ hb
  intro left
  induction left with
  | zero =>
    intro i t hl hi hst hT hm0
    obtain rfl : i = n := by omega
    refine codeAny_builtin F.entry_set_update_loop ?_
    rw [Around.under_plainId F.plain_set_update_loop _]
    refine wpAny_bind (W.done t _ _ hst fun t' hm => ?_)
    rw [List.take_of_length_le (Nat.le_of_eq hn.symm)] at hT
    exact wpAny_pure (hR t' (hT.at fun o e => hm.heap S o notW e) s (Moved.trans W.gtrans hm0 (hm.mono wider)) rfl)
  | succ left ih =>
    intro i t hl hi hst hT hm0
    have more : i < n := by omega
    refine codeAny_builtin F.entry_set_update_loop ?_
    rw [Around.under_plainId F.plain_set_update_loop _]
    refine wpAny_bind (W.item i t _ _ more hst fun v t' hv hst' hm => ?_)
    obtain ⟨k, tok, hx, rfl⟩ := item i v hv
    have hT' : TxAt P w t'.heap S (allT (xs.take i) []) := hT.at fun o e => hm.heap S o notW e
    have len1 : (allT (xs.take i) []).length + 1 < scanBound := by
      have z1 := allT_len (xs.take i) []
      have z2 := List.length_take_le i xs
      have z3 := List.length_take_le' i xs
      simp only [List.length_nil] at z1
      omega
    refine wpAny_bind (wpAny_holding ?_)
    unfold setAdd
    refine wpAny_holding ?_
    refine wpAny_bind ((strKind P w).pyHash (k := k) (strKind_is _ _ _ _) ?_)
    refine tx_add (s := { t' with toks := t'.toks + 1 }) hT' len1 fun b h' sb hT2 => ?_
    rw [← allT_snoc, show xs.take i ++ [k] = xs.take (i + 1) by rw [List.take_add_one, hx]; rfl] at hT2
    have frame : ∀ c o, c ≠ S → t'.heap.get? c = some o → h'.get? c = some o := fun c o hc e => by rw [sb.2 c hc]; exact e
    refine wpAny_pure ⟨plainId_quiet F.plain_set_update_loop _, ih (i + 1) _ (by omega) more (W.frame _ t' _ _ hst' (Nat.le_succ _) fun c hc o e => frame c o (fun z => out (z ▸ hc)) e) hT2 ?_⟩
    exact Moved.trans W.gtrans hm0 ((hm.mono wider).then_heap (Nat.le_succ _) fun c o hc e => frame c o (fun z => hc (by rw [z]; exact List.mem_cons_self)) e)
set_option maxHeartbeats 8000000 in
theorem set_of_list {l : Addr} {cells : Array Value} (xs : List Str) {Q : Value → Shared → Prop} (calm : A.handled = none) (seq : s.heap.IsList l cells) (txt : StrsAre cells.toList xs) (room : xs.length + 1 < scanBound)
    (fin : ∀ (h' : Heap) (tk : Nat), TxAt P w h' s.heap.objs.size (allT xs []) → (∀ b o, s.heap.get? b = some o → h'.get? b = some o) → Q (.ref s.heap.objs.size) { s with heap := h', toks := tk }) :
    wpAny (model P w) A (call (.type "set") [.ref l]) Q E s := by
  have num : cells.size = xs.length := by
    rw [← Array.length_toList]; exact txt.length
  have mro := F.called_set.mro
  obtain ⟨c9, tl9, mro9⟩ := mro
  have made9 := F.called_set.made
  have sub9 := F.called_set.sub
  refine wpAny_call (codeAny_of_tree ?_)
  refine wpAny_pure ⟨Code.quiet_builtin _ (by decide +kernel), codeAny_builtin F.entry_type_call ?_⟩
  rw [Around.under_plain (weight_type_call_type "set" [.ref l] []) rfl]
  have not9 := F.called_set.notType
  have can9 := F.called_set.canCreate
  have ct9 := F.typeCall_set_1 (.ref l)
  repeat (any_goals (first | assumption | wp_step))
  obtain ⟨empty9, he9⟩ : ∃ o : Obj, o = { cls := .type "set", dict := none, data := .set #[] 0 (.fresh 0 0 (!w.params.followText "set-order")) } := ⟨_, rfl⟩
  refine codeAny_mono (code_set_led1 (.ref l) (E := E) (Q₁ := fun obj s9 => obj = .ref s.heap.objs.size ∧ s9 = { s with heap := s.heap.push empty9 }) ⟨rfl, by rw [he9]⟩) fun r9 s9 out9 => ?_
  cases r9 with
  | error e => exact out9
  | ok fl =>
    cases fl with
    | ret obj =>
      obtain ⟨rfl, rfl⟩ := out9
      have at9 : (s.heap.push empty9).get? s.heap.objs.size = some ({ cls := .type "set", dict := none, data := .set #[] 0 (.fresh 0 0 (!w.params.followText "set-order")) } : Obj) := by rw [← he9]; exact Heap.get?_push_size _ (by rw [he9]; rfl)
      have ty9 : Shared.TypeIs { s with heap := s.heap.push empty9 } (.ref s.heap.objs.size) "set" := ⟨_, at9, rfl⟩
      have li9 := F.called_set.init.lookup
      have bi9 := F.called_set.init.bind (.ref s.heap.objs.size)
      repeat (any_goals (first | assumption | wp_step))
      refine codeAny_mono (codeAny_call_builtin (R := wants (fun r s8 => r = .none ∧ ∃ h' tk, s8 = { s with heap := h', toks := tk } ∧ TxAt P w h' s.heap.objs.size (allT xs []) ∧
          (∀ b o, s.heap.get? b = some o → h'.get? b = some o)) E) F.called_set.init.plain F.entry_set_init (check_set_init_1 ty9 ?_)) fun r8 s8 out8 => ?_
      · obtain ⟨⟨ocls, odict, odata, oslots⟩, hol, hcl, nl, hdl⟩ := seq
        simp only at hcl hdl
        subst hcl hdl
        have in9 : (s.heap.push empty9).get? l = some { cls := .type "list", dict := odict, data := .seq cells nl, slots := oslots } := Heap.get?_push_of_some _ hol
        have no1 := F.sub_list_set
        have no2 := F.sub_list_frozenset
        have no3 : (Value.type "list" == Value.type "dict") = false := by decide
        have seq9 : (s.heap.push empty9).IsList l cells := ⟨_, in9, rfl, nl, rfl⟩
        unfold Builtin.«set.__init__» noKeywords Builtin.Frozenset.updateFrom
        generalize it9 : pyIter = PI
        wp_walk
        subst it9
        refine wpAny_pyIter_list seq9 ?_
        refine wpAny_bind (wpAny_runValue ?_)
        have low : l < s.heap.objs.size := Heap.lt_size hol
        have calm3 : A.in1.in1.in1.handled = none := by simp [calm]
        have z9 : (s.heap.push empty9).objs.size = s.heap.objs.size + 1 := Heap.size_push ..
        have apart : l ≠ (s.heap.push empty9).objs.size := by rw [z9]; exact Nat.ne_of_lt (Nat.lt_succ_of_lt low)
        have off : s.heap.objs.size ∉ [(s.heap.push empty9).objs.size, l] := fun z => by
          rcases List.mem_cons.mp z with z | z
          · rw [z9] at z; exact absurd z (Nat.ne_of_lt (Nat.lt_succ_self _))
          · rw [← List.mem_singleton.mp z] at low; exact Nat.lt_irrefl _ low
        have item : ∀ (i : Nat) (v : Value), cells[i]? = some v → ∃ k t, xs[i]? = some k ∧ v = .str k t := fun i v hv => by
          have hi : i < xs.length := by rw [← num]; exact (Array.getElem?_eq_some_iff.mp hv).1
          obtain ⟨t, e⟩ := SS.strs_at txt i v (by rw [Array.getElem?_toList]; exact hv)
          refine ⟨xs[i], t, List.getElem?_eq_getElem hi, ?_⟩
          rw [e, List.getD_eq_getElem?_getD, List.getElem?_eq_getElem hi] <;> rfl
        refine tx_loop ((Walks.list calm3 _ l apart cells).toS) s.heap.objs.size off xs num room item ?hR (cells.size - 0) 0 _ (by omega) (Nat.zero_le _)
          ⟨⟨_, Heap.get?_push_size _ rfl, rfl, rfl⟩, (seq9.push _)⟩ ?hS0 (Moved.refl (fun _ => rfl))
        case hS0 =>
          have get9 : ((s.heap.push empty9).push { cls := .type "list_iterator", data := .fields #[.ref l, .int 0 0] }).get? s.heap.objs.size = some ({ cls := .type "set", dict := none, data := .set #[] 0 (.fresh 0 0 (!w.params.followText "set-order")) } : Obj) := Heap.get?_push_of_some _ at9
          refine ⟨(#[], 0, .fresh 0 0 (!w.params.followText "set-order")), get9, TxOk.nil (by rfl), ⟨List.Pairwise.nil, ?_⟩, List.nodup_nil⟩
          show _ ∨ (!w.params.followText "set-order") = true
          cases w.params.followText "set-order"
          · exact .inr rfl
          · exact .inl rfl
        case hR =>
          intro t' hT s0 hm hs0
          subst hs0
          obtain ⟨h', g2, d', tk', os'⟩ := t'
          have eg : g2 = s.gens := hm.gens
          have ed : d' = s.drawn := hm.drawn
          have eo : os' = s.os := hm.os
          subst eg ed eo
          refine wpAny_pure ?_
          refine wpAny_pure ⟨rfl, h', tk', rfl, hT, fun b o e => ?_⟩
          have hb0 : b < s.heap.objs.size := Heap.lt_size e
          exact hm.heap b o (fun z => by
            rcases List.mem_cons.mp z with z | z
            · exact absurd z (Nat.ne_of_lt hb0)
            · rcases List.mem_singleton.mp z with z
              rw [z9] at z; exact absurd z (Nat.ne_of_lt (Nat.lt_succ_of_lt hb0))) (Heap.get?_push_of_some _ (Heap.get?_push_of_some _ e))
      · cases r8 with
        | error e => exact out8
        | ok fl8 =>
          cases fl8 with
          | ret r =>
            obtain ⟨rfl, h', tk, rfl, hT, hk⟩ := out8
            repeat (any_goals (first | assumption | wp_step))
            exact fin _ _ hT hk
          | _ => exact out8.elim
    | _ => exact out9.elim
set_option maxHeartbeats 8000000 in
theorem set_of_tuple {l : Addr} {cells : Array Value} (xs : List Str) {Q : Value → Shared → Prop} (calm : A.handled = none) (seq : s.heap.IsTuple l cells) (txt : StrsAre cells.toList xs) (room : xs.length + 1 < scanBound)
    (fin : ∀ (h' : Heap) (tk : Nat), TxAt P w h' s.heap.objs.size (allT xs []) → (∀ b o, s.heap.get? b = some o → h'.get? b = some o) → Q (.ref s.heap.objs.size) { s with heap := h', toks := tk }) :
    wpAny (model P w) A (call (.type "set") [.ref l]) Q E s := by
  have num : cells.size = xs.length := by
    rw [← Array.length_toList]; exact txt.length
  have mro := F.called_set.mro
  obtain ⟨c9, tl9, mro9⟩ := mro
  have made9 := F.called_set.made
  have sub9 := F.called_set.sub
  refine wpAny_call (codeAny_of_tree ?_)
  refine wpAny_pure ⟨Code.quiet_builtin _ (by decide +kernel), codeAny_builtin F.entry_type_call ?_⟩
  rw [Around.under_plain (weight_type_call_type "set" [.ref l] []) rfl]
  have not9 := F.called_set.notType
  have can9 := F.called_set.canCreate
  have ct9 := F.typeCall_set_1 (.ref l)
  repeat (any_goals (first | assumption | wp_step))
  obtain ⟨empty9, he9⟩ : ∃ o : Obj, o = { cls := .type "set", dict := none, data := .set #[] 0 (.fresh 0 0 (!w.params.followText "set-order")) } := ⟨_, rfl⟩
  refine codeAny_mono (code_set_led1 (.ref l) (E := E) (Q₁ := fun obj s9 => obj = .ref s.heap.objs.size ∧ s9 = { s with heap := s.heap.push empty9 }) ⟨rfl, by rw [he9]⟩) fun r9 s9 out9 => ?_
  cases r9 with
  | error e => exact out9
  | ok fl =>
    cases fl with
    | ret obj =>
      obtain ⟨rfl, rfl⟩ := out9
      have at9 : (s.heap.push empty9).get? s.heap.objs.size = some ({ cls := .type "set", dict := none, data := .set #[] 0 (.fresh 0 0 (!w.params.followText "set-order")) } : Obj) := by rw [← he9]; exact Heap.get?_push_size _ (by rw [he9]; rfl)
      have ty9 : Shared.TypeIs { s with heap := s.heap.push empty9 } (.ref s.heap.objs.size) "set" := ⟨_, at9, rfl⟩
      have li9 := F.called_set.init.lookup
      have bi9 := F.called_set.init.bind (.ref s.heap.objs.size)
      repeat (any_goals (first | assumption | wp_step))
      refine codeAny_mono (codeAny_call_builtin (R := wants (fun r s8 => r = .none ∧ ∃ h' tk, s8 = { s with heap := h', toks := tk } ∧ TxAt P w h' s.heap.objs.size (allT xs []) ∧
          (∀ b o, s.heap.get? b = some o → h'.get? b = some o)) E) F.called_set.init.plain F.entry_set_init (check_set_init_1 ty9 ?_)) fun r8 s8 out8 => ?_
      · obtain ⟨⟨ocls, odict, odata, oslots⟩, hol, hcl, nl, hdl⟩ := seq
        simp only at hcl hdl
        subst hcl hdl
        have in9 : (s.heap.push empty9).get? l = some { cls := .type "tuple", dict := odict, data := .seq cells nl, slots := oslots } := Heap.get?_push_of_some _ hol
        have no1 := F.sub_tuple_set
        have no2 := F.sub_tuple_frozenset
        have no3 : (Value.type "tuple" == Value.type "dict") = false := by decide
        have seq9 : (s.heap.push empty9).IsTuple l cells := ⟨_, in9, rfl, nl, rfl⟩
        unfold Builtin.«set.__init__» noKeywords Builtin.Frozenset.updateFrom
        generalize it9 : pyIter = PI
        wp_walk
        subst it9
        refine wpAny_pyIter_tuple seq9 ?_
        refine wpAny_bind (wpAny_runValue ?_)
        have low : l < s.heap.objs.size := Heap.lt_size hol
        have calm3 : A.in1.in1.in1.handled = none := by simp [calm]
        have z9 : (s.heap.push empty9).objs.size = s.heap.objs.size + 1 := Heap.size_push ..
        have apart : l ≠ (s.heap.push empty9).objs.size := by rw [z9]; exact Nat.ne_of_lt (Nat.lt_succ_of_lt low)
        have off : s.heap.objs.size ∉ [(s.heap.push empty9).objs.size, l] := fun z => by
          rcases List.mem_cons.mp z with z | z
          · rw [z9] at z; exact absurd z (Nat.ne_of_lt (Nat.lt_succ_self _))
          · rw [← List.mem_singleton.mp z] at low; exact Nat.lt_irrefl _ low
        have item : ∀ (i : Nat) (v : Value), cells[i]? = some v → ∃ k t, xs[i]? = some k ∧ v = .str k t := fun i v hv => by
          have hi : i < xs.length := by rw [← num]; exact (Array.getElem?_eq_some_iff.mp hv).1
          obtain ⟨t, e⟩ := SS.strs_at txt i v (by rw [Array.getElem?_toList]; exact hv)
          refine ⟨xs[i], t, List.getElem?_eq_getElem hi, ?_⟩
          rw [e, List.getD_eq_getElem?_getD, List.getElem?_eq_getElem hi] <;> rfl
        refine tx_loop ((Walks.tuple calm3 _ l apart cells).toS) s.heap.objs.size off xs num room item ?hR (cells.size - 0) 0 _ (by omega) (Nat.zero_le _)
          ⟨⟨_, Heap.get?_push_size _ rfl, rfl, rfl⟩, (seq9.push _)⟩ ?hS0 (Moved.refl (fun _ => rfl))
        case hS0 =>
          have get9 : ((s.heap.push empty9).push { cls := .type "tuple_iterator", data := .fields #[.ref l, .int 0 0] }).get? s.heap.objs.size = some ({ cls := .type "set", dict := none, data := .set #[] 0 (.fresh 0 0 (!w.params.followText "set-order")) } : Obj) := Heap.get?_push_of_some _ at9
          refine ⟨(#[], 0, .fresh 0 0 (!w.params.followText "set-order")), get9, TxOk.nil (by rfl), ⟨List.Pairwise.nil, ?_⟩, List.nodup_nil⟩
          show _ ∨ (!w.params.followText "set-order") = true
          cases w.params.followText "set-order"
          · exact .inr rfl
          · exact .inl rfl
        case hR =>
          intro t' hT s0 hm hs0
          subst hs0
          obtain ⟨h', g2, d', tk', os'⟩ := t'
          have eg : g2 = s.gens := hm.gens
          have ed : d' = s.drawn := hm.drawn
          have eo : os' = s.os := hm.os
          subst eg ed eo
          refine wpAny_pure ?_
          refine wpAny_pure ⟨rfl, h', tk', rfl, hT, fun b o e => ?_⟩
          have hb0 : b < s.heap.objs.size := Heap.lt_size e
          exact hm.heap b o (fun z => by
            rcases List.mem_cons.mp z with z | z
            · exact absurd z (Nat.ne_of_lt hb0)
            · rcases List.mem_singleton.mp z with z
              rw [z9] at z; exact absurd z (Nat.ne_of_lt (Nat.lt_succ_of_lt hb0))) (Heap.get?_push_of_some _ (Heap.get?_push_of_some _ e))
      · cases r8 with
        | error e => exact out8
        | ok fl8 =>
          cases fl8 with
          | ret r =>
            obtain ⟨rfl, h', tk, rfl, hT, hk⟩ := out8
            repeat (any_goals (first | assumption | wp_step))
            exact fin _ _ hT hk
          | _ => exact out8.elim
    | _ => exact out9.elim
end
end TXS
namespace TXS
open PySem PySem.Spec PyProof.Rows L2 PySem.Froz
theorem perm_of_sub : ∀ {l ks : List Str}, l.Nodup → (∀ x ∈ l, x ∈ ks) → ks.length ≤ l.length → ks.Perm l
  | [], ks, _, _, h => by
    have : ks = [] := List.eq_nil_of_length_eq_zero (Nat.le_zero.mp h)
    rw [this]
  | x :: l, ks, nd, sub, h => by
    have hx : x ∈ ks := sub x (List.mem_cons_self ..)
    have nx := (List.nodup_cons.mp nd).1
    have p := List.perm_cons_erase hx
    have hl : (ks.erase x).length ≤ l.length := by
      rw [List.length_erase_of_mem hx, List.length_cons] at *
      omega
    exact p.trans ((perm_of_sub (List.nodup_cons.mp nd).2 (fun y hy => (List.mem_erase_of_ne (fun e => nx (by rw [← e]; exact hy))).mpr (sub y (List.mem_cons_of_mem _ hy))) hl).cons x)
end TXS
namespace PySem.W
open PySem PySem.Calls PyProof.Rows L2 TXS
end PySem.W
namespace PD
open PySem PySem.Spec PyProof.Rows L2 TXS
open PySem.W (EachIs AllAlike Sortable dataLe AlikeAll minD maxD)
/-- a set of the texts l at a -/
def SetTx (P : Program) (w : World) (a : Addr) (l : List Str) : HO := .ext fun h => TxAt P w h a l
section
variable {X : Cx}
theorem setTx_new {w : World} {P : Program} {H : Hp} {h : Heap} {a : Addr} {l : List Str} (R : TxAt P w h a l) : ObjOk P w H h a (SetTx P w a l) := by
  have ⟨_, e, _⟩ := R
  exact ⟨R, ⟨_, e⟩, fun h1 h2 p k => TxAt.at p k⟩
def rSetTx (K : PySem.W.Frag) (P : Program) (w : World) : List V → Hp → VK → Prop := fun vs H Q => ∃ (a : Addr) (xs : List Str), vs = [.ref a] ∧ (SqL K H a (xs.map V.str) ∨ SqT K H a (xs.map V.str)) ∧ xs.length ≤ 1000 ∧
  ∀ (p : Addr) (l : List Str), l.Nodup → (∀ x, x ∈ l ↔ x ∈ xs) → l.length ≤ xs.length → H p = none → Q (.ref p) (upd H p (SetTx P w p l))
theorem cr_setTx (hc : X.calm = true) : CallR X (.type "set") (rSetTx X.K X.prog X.w) := by
  intro pins s σ H vs us Q I r h
  obtain ⟨a, xs, rfl, hs, hz, q⟩ := h
  rw [Vals.ref1 r]
  have room : xs.length + 1 < scanBound := by
    have : 2000 < scanBound := by decide
    omega
  have fin : ∀ (h' : Heap) (tk : Nat), TxAt X.prog X.w h' s.heap.objs.size (allT xs []) → (∀ b o, s.heap.get? b = some o → h'.get? b = some o) → EP X pins σ Q (.ref s.heap.objs.size) { s with heap := h', toks := tk } := fun h' tk T k =>
    ⟨.ref _, _, I.laid (t' := tk) k (Nat.le_refl _) (setTx_new T), rfl, q _ _ (allT_nodup List.nodup_nil) (fun x => by rw [allT_mem]; simp) (by have := allT_len xs []; simpa using this) (I.hok.fresh (Nat.le_refl _))⟩
  rcases hs with hs | hs
  · obtain ⟨its, rv, pl, _⟩ := I.list hs
    exact set_of_list xs (I.ok.hd hc) pl.isList (by simpa using strsAre_of rv) room fin
  · obtain ⟨its, rv, pl, _⟩ := I.tuple hs
    exact set_of_tuple xs (I.ok.hd hc) pl (by simpa using strsAre_of rv) room fin
theorem RM.newO {K : PySem.W.Frag} {H : Hp} {m : Mu} {p : Addr} {u : HO} (r : RM K H m) (h : H p = none) : RM K (upd H p u) (mset m p (.oth u)) := fun a o e => by
  by_cases ha : a = p
  · subst ha
    rw [mset_same] at e; cases e
    exact upd_same
  · rw [mset_ne ha] at e
    exact r.skip h a o e
def dSetTx (P : Program) (w : World) : DC := fun ds m Q => match ds with
  | [d] => ∃ xs : List Str, seqOf m d = some (xs.map .str) ∧ xs.length ≤ 1000 ∧ ∀ (p : Addr) (l : List Str), l.Nodup → (∀ x, x ∈ l ↔ x ∈ xs) → l.length ≤ xs.length → m p = none → Q (.ref p) (mset m p (.oth (SetTx P w p l)))
  | _ => False
theorem lc_setTx {K : PySem.W.Frag} {P : Program} {w : World} : LC K (rSetTx K P w) (dSetTx P w) := fun vs H ds m Qd Q rm r h k => by
  match ds, r, h with
  | [d], r, h =>
    obtain ⟨xs, e, hz, q⟩ := h
    obtain ⟨v, rfl, ra9⟩ := repL1 r
    obtain ⟨a, ws, rfl, s, r2⟩ := seq_rep rm ra9 e
    have := rep_strs r2
    subst this
    exact ⟨a, xs, rfl, s, hz, fun p l nd hm hl hp => k _ _ _ _ (.new hp) (rm.newO hp) (.ref p) (q p l nd hm hl (rm.fresh hp))⟩
end
end PD
namespace PD
open PySem PySem.Spec PyProof.Rows L2
open PySem.W (EachIs AllAlike Sortable dataLe AlikeAll minD maxD)
theorem lt1 {a c : Nat} (h : a + 64 < c) : a + 1 < c := by omega
section
variable {m m1 m2 : Mu} {a b : Str} {i j : Int} {p q : Bool} {xs ys : List D} {x y z u v : D} {A B : Addr} {Q : DK} {s : Sd}
theorem dFrzV_i : dFrzV (.int i) m Q = Q (.int i) m := rfl
theorem dFrzV_s : dFrzV (.str a) m Q = Q (.str a) m := rfl
theorem dFrzV_b : dFrzV (.bl p) m Q = Q (.bl p) m := rfl
theorem dFrzV_n : dFrzV .non m Q = Q .non m := rfl
theorem dFrzV_t : dFrzV (.tup xs) m Q = Q (.tup xs) m := rfl
theorem dFrzV_l : dFrzV (.rol xs) m Q = Q (.rol xs) m := rfl
theorem dFrzV_r : dFrzV (.ref A) m Q = ∃ ds, m A = some (.lst ds) ∧ Q (.rol ds) (mdel m A) := rfl
theorem dAddL_i : dAddL (.int i) (.int j) m Q = Q (.int (i + j)) m := rfl
theorem dAddL_s : dAddL (.str a) (.str b) m Q = (a.length + b.length ≤ sizeLine ∧ Q (.str (a ++ b)) m) := rfl
theorem dAddL_t : dAddL (.tup xs) (.tup ys) m Q = (xs.length + ys.length ≤ sizeLine ∧ Q (.tup (xs ++ ys)) m) := rfl
theorem dAddL_rr : dAddL (.ref A) (.ref B) m Q = ∃ xs ys, lsq m (.ref A) = some xs ∧ lsq m (.ref B) = some ys ∧ xs.length + ys.length ≤ sizeLine ∧ ∀ p, m p = none → Q (.ref p) (mset m p (.lst (xs ++ ys))) := rfl
theorem dAddL_rl : dAddL (.ref A) (.rol ys) m Q = ∃ xs zs, lsq m (.ref A) = some xs ∧ lsq m (.rol ys) = some zs ∧ xs.length + zs.length ≤ sizeLine ∧ ∀ p, m p = none → Q (.ref p) (mset m p (.lst (xs ++ zs))) := rfl
theorem dAddL_lr : dAddL (.rol xs) (.ref B) m Q = ∃ zs ys, lsq m (.rol xs) = some zs ∧ lsq m (.ref B) = some ys ∧ zs.length + ys.length ≤ sizeLine ∧ ∀ p, m p = none → Q (.ref p) (mset m p (.lst (zs ++ ys))) := rfl
theorem dAddL_ll : dAddL (.rol xs) (.rol ys) m Q = ∃ zs us, lsq m (.rol xs) = some zs ∧ lsq m (.rol ys) = some us ∧ zs.length + us.length ≤ sizeLine ∧ ∀ p, m p = none → Q (.ref p) (mset m p (.lst (zs ++ us))) := rfl
theorem dMulL_i : dMulL (.int i) (.int j) m Q = (CMul i j ∧ Q (.int (i * j)) m) := rfl
theorem dMulL_s : dMulL (.str a) (.int j) m Q = (0 ≤ j ∧ j ≤ 1000 ∧ a.length ≤ 1000 ∧ Q (.str (repS a j.toNat)) m) := rfl
theorem dMulL_r : dMulL (.ref A) (.int j) m Q = ∃ xs, m A = some (.lst xs) ∧ -(2 ^ 63) ≤ j ∧ j < 2 ^ 63 ∧ xs.length * j.toNat ≤ sizeLine ∧ ∀ p, m p = none → Q (.ref p) (mset m p (.lst (List.replicate j.toNat xs).flatten)) := rfl
def dSlLV (lo hi : Option Int) (x : D) (m3 : Mu) (Q : DK) : Prop := match x with
  | .tup ds => Q (.tup (cutD ds lo hi)) m3
  | x => ∃ ds, lsq m3 x = some ds ∧ ∀ p, m3 p = none → Q (.ref p) (mset m3 p (.lst (cutD ds lo hi)))
theorem dSlL_v {de : DE} {dl dh : DO} : dSlL de dl dh s m Q = de s m fun x m1 => dl s m1 fun lo m2 => dh s m2 fun hi m3 => dSlLV lo hi x m3 Q := rfl
theorem dSlLV_t {lo hi : Option Int} : dSlLV lo hi (.tup xs) m Q = Q (.tup (cutD xs lo hi)) m := rfl
theorem dSlLV_l {lo hi : Option Int} : dSlLV lo hi (.rol xs) m Q = ∃ ds, lsq m (.rol xs) = some ds ∧ ∀ p, m p = none → Q (.ref p) (mset m p (.lst (cutD ds lo hi))) := rfl
theorem dSlLV_r {lo hi : Option Int} : dSlLV lo hi (.ref A) m Q = ∃ ds, lsq m (.ref A) = some ds ∧ ∀ p, m p = none → Q (.ref p) (mset m p (.lst (cutD ds lo hi))) := rfl
theorem dMinU_2 {f : PyData → List PyData → PyData} {g : Int → Int → Int} : dMinU f g [.int i, .int j] m Q = Q (.int (g i j)) m := rfl
theorem dMinU_1 {f : PyData → List PyData → PyData} {g : Int → Int → Int} : dMinU f g [x] m Q = ∃ d es, seqOf m x = some (d :: es) ∧ OrdL (d :: es) ∧ (∀ x ∈ d :: es, encP x ≠ .none) ∧ ∀ x ∈ d :: es, encP x = f (encP d) (es.map encP) → Q x m := rfl
theorem dSumL_1 : dSumL [x] m Q = ∃ ns : List Int, seqOf m x = some (ns.map .int) ∧ Q (.int ns.sum) m := rfl
theorem dSetTx_1 {P : Program} {w : World} : dSetTx P w [x] m Q = ∃ xs : List Str, seqOf m x = some (xs.map .str) ∧ xs.length ≤ 1000 ∧ ∀ (p : Addr) (l : List Str), l.Nodup → (∀ x, x ∈ l ↔ x ∈ xs) → l.length ≤ xs.length → m p = none → Q (.ref p) (mset m p (.oth (SetTx P w p l))) := rfl
theorem dIx_l : dIx (.rol xs) (.int i) m Q = ∃ d, atI xs i = some d ∧ Q d m := propext ⟨fun ⟨_, e, h⟩ => by cases e; exact h, fun h => ⟨_, rfl, h⟩⟩
theorem dLen_l : dLen [.rol xs] m Q = Q (.int xs.length) m := propext ⟨fun ⟨_, e, h⟩ => by cases e; exact h, fun h => ⟨_, rfl, h⟩⟩
theorem dInG_l {f : Bool → Bool} : dInG f x (.rol xs) m Q = (flatD x = true ∧ xs.all flatD = true ∧ Q (.bl (f (inF x xs))) m) := propext ⟨fun ⟨_, e, h⟩ => by cases e; exact h, fun h => ⟨_, rfl, h⟩⟩
theorem truD_rol : truD m (.rol xs) = some (!xs.isEmpty) := rfl
theorem tyD_rol : tyD m (.rol xs) = some "list" := rfl
theorem dInt1_b : dInt1 [.bl p] m Q = Q (.int (if p = true then 1 else 0)) m := rfl
theorem mdel_mset {o : MO} : mdel (mset m A o) A = mdel m A := by funext b; unfold mdel mset; split <;> rfl
theorem mdel_none (h : m A = none) : mdel m A = m := by
  funext b; unfold mdel
  split
  · rename_i e; rw [e, h]
  · rfl
theorem Sub.del (h : Sub m m1) (h2 : m A = none) : Sub m (mdel m1 A) := fun c o e => by
  rw [mdel_ne (mne h2 e)]; exact h c o e
/-- all but one kept -/
def Off1 (a : Addr) (m m' : Mu) : Prop := ∀ x o, x ≠ a → m x = some o → m' x = some o
theorem Off1.refl (a : Addr) (m : Mu) : Off1 a m m := fun _ _ _ h => h
theorem Off1.trans {a : Addr} (h : Off1 a m m1) (h' : Off1 a m1 m2) : Off1 a m m2 := fun x o n e => h' x o n (h x o n e)
theorem Off1.set {a : Addr} {o : MO} (h : Off1 a m m1) : Off1 a m (mset m1 a o) := fun x u n e => by rw [mset_ne n]; exact h x u n e
theorem Off1.new {a p : Addr} {o : MO} (h : Off1 a m m1) (hp : m1 p = none) : Off1 a m (mset m1 p o) := fun x u n e => mset_new hp (h x u n e)
theorem Off1.del {a p : Addr} (h : Off1 a m m1) (hp : m p = none) : Off1 a m (mdel m1 p) := fun x u n e => by
  rw [mdel_ne (mne hp e)]; exact h x u n e
theorem Off1.free {a p : Addr} (h : Off1 a m m1) (n : p ≠ a) (e : m1 p = none) : m p = none := by
  cases q : m p with
  | none => rfl
  | some o => rw [h p o n q] at e; cases e
end
def gP (si : List Nat) (us ws : List Value) : List Value := if us.isEmpty = true ∧ ws.length = si.length then si.map fun i => ws.getD i Value.none else List.replicate (si.length + 1) Value.none
def gPV (si : List Nat) (vs zs : List V) : List V := if vs.isEmpty = true ∧ zs.length = si.length then si.map fun i => zs.getD i V.non else List.replicate (si.length + 1) V.non
def KwP (K : PySem.W.Frag) (fd : FuncData) (ps ks : List Str) (si : List Nat) : Prop := KBinds K fd ps ks (gP si) (gPV si)
theorem vals_getD : ∀ {zs : List V} {ws : List Value} (i : Nat), Vals zs ws → RelV (zs.getD i V.non) (ws.getD i Value.none)
  | _, _, _, .nil => rfl
  | _, _, 0, .cons a _ => a
  | _, _, i + 1, .cons _ b => vals_getD i b
theorem vals_map {zs : List V} {ws : List Value} (r : Vals zs ws) : ∀ si : List Nat, Vals (si.map fun i => zs.getD i V.non) (si.map fun i => ws.getD i Value.none)
  | [] => .nil
  | i :: si => .cons (vals_getD i r) (vals_map r si)
theorem vals_rep : ∀ n : Nat, Vals (List.replicate n V.non) (List.replicate n Value.none)
  | 0 => .nil
  | n + 1 => .cons rfl (vals_rep n)
theorem kw_perm {K : PySem.W.Frag} {x qual : Str} {st : Stmt} {f : Addr} {fd : FuncData} {ps ks : List Str} {si : List Nat} (F : Fun K x qual st f fd) (hz : si.length = ps.length)
    (h : ∀ (kV doc pm : Value) (an : Option Addr) (cdv ct : Value) (ws : List Value), ws.length = si.length → bindArgs (PySem.W.fnOf x qual (defArgs st) (defBody st) (defScope st) .none kV doc pm an cdv ct) ⟨[], ks.zip ws⟩ = pure (ps.zip (si.map fun i => ws.getD i Value.none))) : KwP K fd ps ks si := by
  obtain ⟨oc, od, kV, doc, pm, an, cdv, ct, osl, rfl, lk, hcd⟩ := F.ex
  refine ⟨fun s us ws hK hl => ?_, fun {vs us zs ws} r rz => ?_⟩
  · by_cases c : us.isEmpty = true ∧ ws.length = si.length
    · have e : gP si us ws = si.map fun i => ws.getD i Value.none := by unfold gP; rw [if_pos c]
      rw [e]
      have : us = [] := List.isEmpty_iff.mp c.1
      subst this
      exact .of_eq (h kV doc pm an cdv ct ws c.2)
    · have e : gP si us ws = List.replicate (si.length + 1) Value.none := by unfold gP; rw [if_neg c]
      rw [e, List.length_replicate, hz] at hl
      exact absurd hl (Nat.succ_ne_self _)
  · have l1 := r.length
    have l2 := rz.length
    unfold gP gPV
    have ee : (vs.isEmpty = true ∧ zs.length = si.length) ↔ (us.isEmpty = true ∧ ws.length = si.length) := by
      rw [List.isEmpty_iff_length_eq_zero, List.isEmpty_iff_length_eq_zero, l1, l2]
    by_cases c : us.isEmpty = true ∧ ws.length = si.length
    · rw [if_pos c, if_pos (ee.mpr c)]; exact vals_map rz si
    · rw [if_neg c, if_neg (fun z => c (ee.mp z))]; exact vals_rep _
def dCallP (n : Nat) (sd : SpD) (si : List Nat) (a : DA) : DE := fun s m Q => a s m fun ds m1 => ds.length = si.length ∧ si.length = n ∧ sd (si.map fun i => ds.getD i .non) m1 Q
theorem repl_getD {K : PySem.W.Frag} {H : Hp} : ∀ {ds : List D} {zs : List V} (i : Nat), RepL K H ds zs → Rep K H (ds.getD i .non) (zs.getD i V.non)
  | _, _, _, .nil => .non
  | _, _, 0, .cons a _ => a
  | _, _, i + 1, .cons _ b => repl_getD i b
theorem repl_map {K : PySem.W.Frag} {H : Hp} {ds : List D} {zs : List V} (r : RepL K H ds zs) : ∀ si : List Nat, RepL K H (si.map fun i => ds.getD i .non) (si.map fun i => zs.getD i V.non)
  | [] => .nil
  | i :: si => .cons (repl_getD i r) (repl_map r si)
end PD
namespace PD
open PySem PySem.Spec PyProof.Rows L2
end PD
namespace PD
open PySem PySem.Spec PyProof.Rows L2
end PD
namespace PD
open PySem PySem.Spec PyProof.Rows L2
/-- xs[:n] -/
theorem cut_take {α : Type} (xs : List α) (n : Nat) : cutD xs none (some (n : Int)) = xs.take n := by
  unfold cutD
  rw [HT.sIx_none, HT.sIx_nat, List.drop_zero, Nat.sub_zero]
  by_cases h : n ≤ xs.length
  · rw [Nat.min_eq_left h]
  · rw [Nat.min_eq_right (by omega), List.take_length, List.take_of_length_le (by omega)]
end PD
namespace PD
open PySem PySem.Spec PyProof.Rows L2
/-- the same over typed items -/
theorem loop_accT {β : Type} {st : Mu → Prop} {g : DG} {tb : DS} {E : DEnds} {m0 : Mu} {p : Addr} (Sl : Sd → Prop) (e : β → D) (f : β → List D) {us : List β} {init : List D} (hst : ∀ m', Sub m0 m' → st m')
    (hs : ∀ u ∈ us, ∀ acc s' m' (R : Sd → Mu → Prop), Sl s' → Sub m0 m' → m' p = some (.lst acc) → acc.length + (f u).length ≤ (init ++ us.flatMap f).length → (∀ s'' m'', Sl s'' → Sub m0 m'' → m'' p = some (.lst (acc ++ f u)) → R s'' m'') → g (e u) s' m' fun s2 m2 => tb { E with nx := R, ct := R, bk := E.nx } s2 m2)
    (he : ∀ s' m', Sl s' → Sub m0 m' → m' p = some (.lst (init ++ us.flatMap f)) → E.nx s' m') {s : Sd} {m : Mu} (h1 : Sl s) (h2 : Sub m0 m) (h3 : m p = some (.lst init)) : dLoop st g tb E (us.map e) s m := by
  refine loop_inv (fun rem s' m' => ∃ pre post, us = pre ++ post ∧ rem = post.map e ∧ Sl s' ∧ Sub m0 m' ∧ m' p = some (.lst (init ++ pre.flatMap f))) ?_ ?_ ⟨[], us, rfl, rfl, h1, h2, by rw [List.flatMap_nil, List.append_nil]; exact h3⟩
  · rintro d rem s' m' R hR ⟨pre, post, q, q2, a, b, c⟩
    cases post with
    | nil => cases q2
    | cons u post =>
      rw [List.map_cons] at q2
      injection q2 with q2 q3
      subst q2
      refine ⟨hst _ b, hs u (by rw [q]; simp) _ s' m' _ a b c ?_ fun s'' m'' a' b' c' => hR _ _ ⟨pre ++ [u], post, by rw [q]; simp, q3, a', b', ?_⟩⟩
      · rw [q, List.flatMap_append, List.flatMap_cons, List.length_append, List.length_append, List.length_append, List.length_append]
        omega
      · rw [c', List.flatMap_append, List.flatMap_cons, List.flatMap_nil, List.append_nil, List.append_assoc]
  · rintro s' m' ⟨pre, post, q, q2, a, b, c⟩
    cases post with
    | cons u post => cases q2
    | nil =>
      rw [List.append_nil] at q
      subst q
      exact ⟨hst _ b, he _ _ a b c⟩
/-- a comprehension over typed items that changes nothing -/
theorem comp_pureT {β γ : Type} {st : Mu → Prop} {g : DG} {t : DT} {e : DE} {p : Addr} {s : Sd} {Q : DK} {m : Mu} (i : β → D) (o : β → D) (c : β → Bool) (hst : ∀ a, st (mset m p (.lst a))) {us : List β} (hz : us.length ≤ 100000)
    (h : ∀ u ∈ us, ∀ a (R1 : D → Mu → Prop) (R2 : Mu → Prop), (c u = true → R1 (o u) (mset m p (.lst a))) → (c u = false → R2 (mset m p (.lst a))) → g (i u) s (mset m p (.lst a)) fun s2 m2 => t s2 m2 fun b m3 => if b = true then e s2 m3 R1 else R2 m3)
    (hq : Q (.ref p) (mset m p (.lst ((us.filter c).map o)))) : dComp st g t e p s Q (us.map i) [] (mset m p (.lst [])) := by
  refine comp_inv (fun rem acc m' => ∃ pre post, us = pre ++ post ∧ rem = post.map i ∧ acc = (pre.filter c).map o ∧ m' = mset m p (.lst acc)) (fun d rem acc m1 R hR ⟨pre, post, e1, e0, e2, e3⟩ => ?_) (fun acc m1 ⟨pre, post, e1, e0, e2, e3⟩ => ?_) ⟨[], us, rfl, rfl, rfl, rfl⟩
  · cases post with
    | nil => cases e0
    | cons u post =>
      rw [List.map_cons] at e0
      injection e0 with e0 e4
      subst e0 e3
      refine ⟨hst _, h u (by rw [e1]; simp) acc _ _ (fun hc => ⟨mset_same, ?_, ?_⟩) fun hc => ?_⟩
      · rw [e2, List.length_map]
        have h1 := List.length_filter_le c pre
        have h2 : pre.length < us.length := by rw [e1]; simp
        exact Nat.lt_of_lt_of_le (by omega : _ < 100000) (by decide)
      · refine hR _ _ ⟨pre ++ [u], post, by rw [e1]; simp, e4, ?_, mset_mset⟩
        rw [e2, List.filter_append, List.map_append]
        simp [hc]
      · refine hR _ _ ⟨pre ++ [u], post, by rw [e1]; simp, e4, ?_, rfl⟩
        rw [e2, List.filter_append, List.map_append]
        simp [hc]
  · cases post with
    | cons u post => cases e0
    | nil =>
      subst e3
      rw [List.append_nil] at e1
      subst e1 e2
      exact ⟨hst _, mset_same, hq⟩
end PD
namespace PD
open PySem PySem.Spec PyProof.Rows L2
def dDSetd (dd dk dx : DE) : DE := fun s m Q => dd s m fun x m1 => ∃ a, x = .ref a ∧ (∃ kvs, m1 a = some (.dct kvs)) ∧ dk s m1 fun y m2 => dx s m2 fun z m3 => ∃ kvs k, m3 a = some (.dct kvs) ∧ toKey y = some k ∧ kvs.length < sizeLine ∧
  (∀ d, valD kvs k = some d → Q d m3) ∧ (valD kvs k = none → Q z (mset m3 a (.dct (putKD kvs k z))))
end PD
namespace PD
open PySem PySem.Spec PyProof.Rows L2
end PD
namespace PD
open PySem PySem.Spec PyProof.Rows L2
def sgn (x : Str) : List D := x.cps.toList.map fun c => .str ⟨#[c]⟩
def dIStr (a : DE) : DI := fun s m R => a s m fun x m1 => match x with
  | .str x => R (sgn x) (fun _ => True) m1
  | _ => False
theorem jo_str {K : PySem.W.Frag} {H1 : Hp} {x : Str} : JOk K (Its x) (sgn x) (fun _ => True) H1 := by
  have hl : (sgn x).length = x.cps.size := by unfold sgn; rw [List.length_map, Array.length_toList]
  refine ⟨fun i H m _ _ _ h => ?_, fun i H y H' m _ rm _ h hy => ?_, fun i H m _ _ _ h => ?_⟩
  · rw [hl] at h; exact h
  · obtain ⟨rfl, c, e, rfl⟩ := hy
    exact ⟨.str ⟨#[c]⟩, by unfold sgn; rw [List.getElem?_map, Array.getElem?_toList, e]; rfl, .refl _, rm, .str _⟩
  · rw [hl] at h; exact h
section
variable {X : Cx}
theorem gi_str {tg l : Expr} {a : DE} (h : GE X l a) : GIE X tg l (dIStr a) :=
  ⟨iStr (liftE X.K a), pi_str h.pe, fun s H sd m Rd R rs rm hh k => by
    refine liftE_le _ a s H sd m _ _ rs rm hh fun v H1 dv m1 t1 rm1 r1 h1 => ?_
    cases r1 with
    | str x => exact ⟨x, rfl, k _ H1 _ _ m1 t1 rm1 jo_str h1⟩
    | _ => exact h1.elim⟩
def dInSg (f : Bool → Bool) : D2 := fun x y m Q => ∃ c z, x = .str ⟨#[c]⟩ ∧ y = .str z ∧ Q (.bl (f (decide (c ∈ z.cps.toList)))) m
theorem lr_inSg {K : PySem.W.Frag} : LR K (fun x y H Q => ∃ c z, x = V.str ⟨#[c]⟩ ∧ y = V.str z ∧ Q (V.bl (decide (c ∈ z.cps.toList))) H) (dInSg id) := fun x y H dx dy m Qd Q rm rx ry h k => by
  obtain ⟨c, z, rfl, rfl, q⟩ := h
  cases rx
  cases ry
  exact ⟨c, z, rfl, rfl, k _ H _ m (.refl H) rm (.bl _) q⟩
def dJoin (da db : DE) : DE := fun s m Q => da s m fun x m1 => ∃ a, x = .str a ∧ db s m1 fun y m2 => ∃ ys : List Str, seqOf m2 y = some (ys.map .str) ∧ (ys.map (·.length)).sum + ys.length * a.length ≤ 16777216 ∧ Q (.str (Txt.join a ys)) m2
def dSlS (de : DE) (dl dh : DO) : DE := fun s m Q => de s m fun x m1 => dl s m1 fun lo m2 => dh s m2 fun hi m3 => match x with
  | .str z => z.length ≤ sizeLine ∧ Q (.str (cutS z lo hi)) m3
  | _ => False
def dUpper (da : DE) : DE := fun s m Q => da s m fun x m1 => ∃ a, x = .str a ∧ a.length ≤ 5592405 ∧ Q (.str (Txt.upper a)) m1
def dAbs : DC := fun ds m Q => match ds with
  | [.int i] => Q (.int (if i < 0 then -i else i)) m
  | _ => False
def dChain (d d' : D2) (da db dc : DE) : DT := fun s m Q => da s m fun x m1 => db s m1 fun y m2 => d x y m2 fun z m3 => match z with
  | .bl k => if k = true then dc s m3 fun u m4 => d' y u m4 fun z' m5 => match z' with
      | .bl k' => Q k' m5
      | _ => False
    else Q false m3
  | _ => False
end
end PD
namespace PySem
open Sem (wp)
end PySem
namespace PD
open PySem PySem.Spec PyProof.Rows L2
def dIEnumS (a : DA) : DI := fun s m R => a s m fun ds m1 => match ds with
  | [.str x] => R (enumD 0 (sgn x)) (fun _ => True) m1
  | _ => False
end PD
namespace PD
open PySem PySem.Spec PyProof.Rows L2
inductive Hs (X : Cx) : List ExceptHandler → List (Value × Option Nat × (Addr → Value → Option Addr → TS)) → Prop
  | nil : Hs X [] []
  | one {x : Str} {c : Value} {ts : Addr → Value → Option Addr → TS} {b₀ : Stmt} {su : List Stmt} {np ps : Pos} {hds : List ExceptHandler} {l : List (Value × Option Nat × (Addr → Value → Option Addr → TS))} (hc : Names X x c)
      (hsu : ∀ (a : Addr) (oe : Obj) (cls : Value) (d : Option Addr) (pn : List (Addr × Obj)), Zc cls d oe → (∃ vs, oe.data = .fields vs) → PSs (X.suite a ((a, oe) :: pn)) (b₀ :: su) (ts a cls d)) (r : Hs X hds l) :
      Hs X (.ExceptHandler (some (.Name x np)) none (b₀ :: su) ps :: hds) ((c, none, ts) :: l)
  | as {x n : Str} {c : Value} {i : Nat} {ts : Addr → Value → Option Addr → TS} {b₀ : Stmt} {su : List Stmt} {np ps : Pos} {hds : List ExceptHandler} {l : List (Value × Option Nat × (Addr → Value → Option Addr → TS))} (hN : X.N.Nodup) (hi : X.N[i]? = some n) (hln : X.env.kindOf n = some .local) (hc : Names X x c)
      (hsu : ∀ (a : Addr) (oe : Obj) (cls : Value) (d : Option Addr) (pn : List (Addr × Obj)), Zc cls d oe → (∃ vs, oe.data = .fields vs) → PSs (X.suite a ((a, oe) :: pn)) (b₀ :: su) (ts a cls d)) (r : Hs X hds l) :
      Hs X (.ExceptHandler (some (.Name x np)) (some n) (b₀ :: su) ps :: hds) ((c, some i, ts) :: l)
def offE (i : Nat) (D : Ends) : Ends := { nx := fun σ H => D.nx (σ.set i none) H, rt := D.rt, bk := fun σ H => D.bk (σ.set i none) H, ct := fun σ H => D.ct (σ.set i none) H }
def wHs (K : PySem.W.Frag) (Wout : WX) (D : Ends) : List (Value × Option Nat × (Addr → Value → Option Addr → TS)) → WX
  | [] => Wout
  | (c, none, ts) :: l => fun cls d σ H => ∃ b, PySem.W.exmOne K cls c = some b ∧ (b = true → ∀ a, H a = none → ts a cls d D σ H) ∧ (b = false → wHs K Wout D l cls d σ H)
  | (c, some i, ts) :: l => fun cls d σ H => ∃ b, PySem.W.exmOne K cls c = some b ∧ (b = true → ∀ a, H a = none → ts a cls d (offE i D) (σ.set i (some (.ref a))) H) ∧ (b = false → wHs K Wout D l cls d σ H)
theorem ps_try_hs {X : Cx} {body : List Stmt} {h₀ : ExceptHandler} {hds : List ExceptHandler} {l : List (Value × Option Nat × (Addr → Value → Option Addr → TS))} {pos : Pos} {tb : WX → TS} {Wout : WX} (hs : X.stack = X.env :: X.outer) (hf : X.env.frame = some X.env.locals) (tk : Takes X Wout)
    (hb : ∀ (W : WX) (pn : List (Addr × Obj)) (xe : Value → Shared → Prop), Takes (X.tr pn xe) W → PassesOwn (model X.prog X.w) X.A X.env xe → PSs (X.tr pn xe) body (tb W)) (hh : Hs X (h₀ :: hds) l) :
    PS X (.Try body (h₀ :: hds) [] [] pos) fun D σ H => tb (wHs X.K Wout D l) D σ H := by
  refine ⟨fun pins s σ H D I h => ?_⟩
  have ok := I.ok
  have hfr := ok.frames
  rw [hs] at hfr
  refine wpAny_Try_except (wpAny_mono ((hb (wHs X.K Wout D l) (X.pn ++ pins) (fun e s₁ => wpAny (model X.prog X.w) X.A (noteFrame e X.env) (fun _ s₂ => wpAny (model X.prog X.w) X.A (setFlight e none) (fun _ s₃ => wpAny (model X.prog X.w) X.A (handleBy e X.env (h₀ :: hds)) (SP X pins D) X.xe s₃) X.xe s₂) X.xe s₁) (fun u s' xx => ?_) PassesOwn.looking).run [] s σ H D (Inv.toTry I _) h) (fun f s1 hsp => ?_) fun e s1 he => he)
  · obtain ⟨a, B, sI, pins', σ', H', cls, d, e, J', nb, up, sky, na, os, ag, w⟩ := xx
    subst e
    have J := Inv.ofTry J' ok
    have sky' : Sky B (X.env :: X.outer) a (Zc cls d) X.env.locals s'.heap := by rw [← hs]; exact sky
    refine Sky.land Zc.steady hfr hf sky' fun h3 fl3 up3 => ?_
    have J3 : L2.Inv X pins σ' H' { s' with heap := h3 } := Inv.landed (s' := { s' with heap := h3 }) J nb fl3.1 (Heap.UpToSlots.trans up up3) os ag
    obtain ⟨oe3, vs3, he3, hz3, hd3⟩ := HandSPX.FlyingZ.there fl3
    have nfr : a ∉ (X.env :: X.outer).filterMap (·.frame) := fun hm => by
      obtain ⟨_, o', e', hnf⟩ := Heap.FunFrames.mem fl3.2.2.1 hm
      rw [he3] at e'
      cases e'
      exact hnf _ hd3
    have nL : a ≠ X.env.locals := fun z => nfr (List.mem_filterMap.mpr ⟨X.env, List.mem_cons_self, by rw [hf, z]⟩)
    have nF : a ∉ X.outer.filterMap (·.frame) := fun hm => by
      obtain ⟨e, he, q⟩ := List.mem_filterMap.mp hm
      exact nfr (List.mem_filterMap.mpr ⟨e, List.mem_cons_of_mem _ he, q⟩)
    have S3 := Inv.suite J3 he3 hd3 na nL nF
    have go : ∀ {hds' : List ExceptHandler} {l' : List (Value × Option Nat × (Addr → Value → Option Addr → TS))}, Hs X hds' l' → wHs X.K Wout D l' cls d σ' H' → wpAny (model X.prog X.w) X.A (handleBy (.ref a) X.env hds') (SP X pins D) X.xe { s' with heap := h3 } := by
      intro hds' l' hk
      induction hk with
      | nil =>
        intro w
        refine wpAny_handleBy_nil ?_
        obtain ⟨k1, k2, k3, oe, vs, T, oT, ts', he, hz, hd, h1, hr⟩ := id fl3
        refine wpAny_bind (wpAny_field he hd h1 ?_)
        rw [if_neg (by simp)]
        have fin : wpAny (model X.prog X.w) X.A (setFlight (.ref a) X.env.frame) (fun _ s4 => wpAny (model X.prog X.w) X.A (throw (.ref a)) (SP X pins D) X.xe s4) X.xe { s' with heap := h3 } := by
          rw [hf]
          exact HandSPX.setFlight_upZ fl3 fun h4 hh4 up4 => wpAny_throw (tk (.ref a) _ ⟨a, B, sI, pins, σ', H', cls, d, rfl, J, nb, Heap.UpToSlots.trans (Heap.UpToSlots.trans up up3) up4, .inr (.inr (by rw [hs]; exact hh4)), na, os, ag, w⟩)
        exact wpAny_bind fin
      | @one x c ts b₀ su np ps hds l hc hsu r ih =>
        rintro ⟨b, hb1, hyes, hno⟩
        refine wpAny_handleBy_cons (codeAny_handlers_test ?_) (fun q => by cases q)
        have LM := PySem.W.exm_one (M := model X.prog X.w) (c := c) (Inv.kIn J3) (fun A Q E s k q => wpAny_typeOf_ref (k a oe3 he3) (by rw [hz3.1]; exact q)) hb1
        have cont : ∀ {Q : Value → Shared → Prop} {E : Value → Shared → Prop} {pos : Pos}, Q c { s' with heap := h3 } → wpAny (model X.prog X.w) (X.A.mark (some (.ref a))) (eval (.Name x pos) X.env) Q E { s' with heap := h3 } := fun {Q E pos} q => by
          obtain ⟨hg, hdbg, hm | ⟨hm, hv, hnn⟩⟩ := hc
          · exact ld_glob S3 hg hm q hdbg
          · exact ld_blt S3 hg hm hv q hnn hdbg
        refine cont (PySem.W.Looks.here LM ?_)
        cases b with
        | false => exact ih (hno rfl)
        | true =>
          refine codeAny_handlers_suite (HandSPX.lands_againZ fl3 fun h4 fl4 up4 => ?_)
          have J4 : L2.Inv X pins σ' H' { s' with heap := h4 } := Inv.landed (s' := { s' with heap := h4 }) J nb fl4.1 (Heap.UpToSlots.trans (Heap.UpToSlots.trans up up3) up4) os ag
          obtain ⟨oe4, vs4, he4, hz4, hd4⟩ := HandSPX.FlyingZ.there fl4
          have S4 := Inv.suite J4 he4 hd4 na nL nF
          refine wpAny_mono ((hsu a oe4 cls d (X.pn ++ pins) hz4 ⟨vs4, hd4⟩).run [] _ σ' H' D S4 (hyes rfl a na)) (fun f s6 hsp => ?_) fun _ _ z => z.elim
          cases f with
          | ret u => obtain ⟨v6, σ6, H6, S6, r6, q6⟩ := hsp; exact ⟨v6, σ6, H6, Inv.unsuite S6 ok, r6, q6⟩
          | _ => obtain ⟨σ6, H6, S6, q6⟩ := hsp; exact ⟨σ6, H6, Inv.unsuite S6 ok, q6⟩
      | @as x n c i ts b₀ su np ps hds l hN hi hln hc hsu r ih =>
        rintro ⟨b, hb1, hyes, hno⟩
        refine wpAny_handleBy_cons (codeAny_handlers_test ?_) (fun q => by cases q)
        have LM := PySem.W.exm_one (M := model X.prog X.w) (c := c) (Inv.kIn J3) (fun A Q E s k q => wpAny_typeOf_ref (k a oe3 he3) (by rw [hz3.1]; exact q)) hb1
        have cont : ∀ {Q : Value → Shared → Prop} {E : Value → Shared → Prop} {pos : Pos}, Q c { s' with heap := h3 } → wpAny (model X.prog X.w) (X.A.mark (some (.ref a))) (eval (.Name x pos) X.env) Q E { s' with heap := h3 } := fun {Q E pos} q => by
          obtain ⟨hg, hdbg, hm | ⟨hm, hv, hnn⟩⟩ := hc
          · exact ld_glob S3 hg hm q hdbg
          · exact ld_blt S3 hg hm hv q hnn hdbg
        refine cont (PySem.W.Looks.here LM ?_)
        cases b with
        | false => exact ih (hno rfl)
        | true =>
          refine codeAny_handlers_suite_as (HandSPX.lands_againZ fl3 fun h4 fl4 up4 => ?_)
          have J4 : L2.Inv X pins σ' H' { s' with heap := h4 } := Inv.landed (s' := { s' with heap := h4 }) J nb fl4.1 (Heap.UpToSlots.trans (Heap.UpToSlots.trans up up3) up4) os ag
          obtain ⟨oe4, vs4, he4, hz4, hd4⟩ := HandSPX.FlyingZ.there fl4
          have S4 := Inv.suite J4 he4 hd4 na nL nF
          refine store_ok (X := X.suite a ((a, oe4) :: (X.pn ++ pins))) (v := .ref a) S4 hN hi (Or.inl hln) rfl (fun s5 S5 => wpAny_mono ((hsu a oe4 cls d (X.pn ++ pins) hz4 ⟨vs4, hd4⟩).run [] s5 (σ'.set i (some (.ref a))) H' (offE i D) S5 (hyes rfl a na)) (fun f s6 hsp => ?_) fun _ _ z => z.elim) (Or.inr hln)
          have end_ : ∀ {σ6 : L2.St} {H6 : Hp} {Q : Unit → Shared → Prop} {E : Value → Shared → Prop} {ps : Pos}, L2.Inv (X.suite a ((a, oe4) :: (X.pn ++ pins))) [] σ6 H6 s6 → (∀ s7, L2.Inv X pins (σ6.set i none) H6 s7 → Q () s7) → wpAny (model X.prog X.w) X.A (do bindName X.env n .none; unbindBehindTheSuite X.env n ps) Q E s6 := fun {σ6 H6 Q E ps} S6 hq => gone_ok (Inv.unsuite S6 ok) hN hi hln hq
          cases f with
          | ret u => obtain ⟨v6, σ6, H6, S6, r6, q6⟩ := hsp; exact end_ S6 fun s7 J7 => ⟨v6, _, H6, J7, r6, q6⟩
          | _ => obtain ⟨σ6, H6, S6, q6⟩ := hsp; exact end_ S6 fun s7 J7 => ⟨_, H6, J7, q6⟩
    exact go hh w
  · cases f with
    | next => obtain ⟨σ', H', J', q⟩ := hsp; exact wpAny_execs_nil ⟨σ', H', Inv.ofTry J' ok, q⟩
    | ret u => obtain ⟨v, σ', H', J', r, q⟩ := hsp; exact ⟨v, σ', H', Inv.ofTry J' ok, r, q⟩
    | _ => obtain ⟨σ', H', J', q⟩ := hsp; exact ⟨σ', H', Inv.ofTry J' ok, q⟩
end PD
namespace PD
open PySem PySem.Spec PyProof.Rows L2
def min3 (i j k : Int) : Int := min (min i j) k
def max3 (i j k : Int) : Int := max (max i j) k
def dMin3 : DC := fun ds m Q => match ds with
  | [.int i, .int j, .int k] => Q (.int (min3 i j k)) m
  | _ => False
def dMax3 : DC := fun ds m Q => match ds with
  | [.int i, .int j, .int k] => Q (.int (max3 i j k)) m
  | _ => False
theorem dMin3_i {i j k : Int} {m : Mu} {Q : DK} : dMin3 [.int i, .int j, .int k] m Q = Q (.int (min3 i j k)) m := rfl
theorem dMax3_i {i j k : Int} {m : Mu} {Q : DK} : dMax3 [.int i, .int j, .int k] m Q = Q (.int (max3 i j k)) m := rfl
end PD
namespace PD
open PySem PySem.Spec PyProof.Rows L2
def dPar (i j : Nat) (da : DA) : DS := fun E s m => da s m fun ds m1 => match ds with
  | [v, w] => E.nx ((s.set i (some v)).set j (some w)) m1
  | _ => False
end PD
namespace PD
open PySem PySem.Spec PyProof.Rows L2
def dCallPX (n : Nat) (sd : SpX) (si : List Nat) (Ed : DX) (dk : DA) : DE := fun s m Q => dk s m fun ds m1 => ds.length = si.length ∧ si.length = n ∧ sd (si.map fun i => ds.getD i .non) m1 Q Ed
section
variable {X : Cx} {Ed : DX}
theorem ge_callPX {k n : Nat} {f : Addr} {fd : FuncData} {ps ks : List Str} {si : List Nat} {sd : SpX} {x : Str} {p pos : Pos} {kws : List Keyword} {dk : DA} (F : FnOk X.prog X.w X.K X.mg X.base (L2.CX X.prog X.w) k f fd ps (spX X.K n sd)) (tk : Takes X (wX X.K Ed)) (hr : Room k X.A) (hg : Gl X x) (hm : X.mg x = some (.ref f)) (hk : PySem.W.keepIn X.K (.ref f) = true) (hb : KwP X.K fd ps ks si)
    (hkw : GK X kws dk) (hall : (backToKw pos (keywordEach kws X.env)).all (·.1.isSome) = true := by rfl) (hks : (backToKw pos (keywordEach kws X.env)).filterMap (·.1) = ks := by rfl)
    (hdb : (x == ("__debug__" : Str)) = false := by decide) (hpl : ((backTo pos (starEach [] X.env)).any (·.1) || (backToKw pos (keywordEach kws X.env)).any (·.1.isNone)) = false := by rfl) :
    GE X (.Call (.Name x p) [] kws pos) (dCallPX n sd si Ed dk) := by
  obtain ⟨tk1, q, l⟩ := hkw
  have P : PE X (.Call (.Name x p) [] kws pos) (fun τ H Q => tk1 τ H fun zs H2 => spX X.K n sd (gPV si [] zs) H2 Q (WE (wX X.K Ed) [])) := by
    refine ⟨fun pz s τ H Q I h => ?_⟩
    refine wpAny_Call_Name_kw (ld_glob I hg hm ?_ hdb)
    refine PySem.W.callWith_KW0 (h₀ := X.base) I.ok.mod.kin hk hall (thn (q.run pos pz s τ H _ I h) fun ws tB ⟨zs, H2, iB, rz, q2⟩ => ⟨iB.kIn, ?_⟩) hpl
    rw [hks]
    exact run_fnk (us := []) (vs := []) F hr hb (fun pins σ H s e s' I h => passAt tk σ pins H s e s' I h) iB .nil rz q2
  refine .of ⟨_, P, fun s H sd' m Qd Q rs rm h k => ?_⟩
  refine l s H sd' m _ _ rs rm h fun vs H1 ds m1 t1 rm1 r1 h1 => ?_
  have e : gPV si [] vs = si.map fun i => vs.getD i V.non := by unfold gPV; rw [if_pos ⟨rfl, by rw [← r1.length]; exact h1.1⟩]
  rw [e]
  exact ⟨_, m1, Qd, Ed, repl_map r1 si, rm1, ⟨by rw [List.length_map]; exact h1.2.1, h1.2.2⟩, fun v' H' dv' m' t' a b c => k v' H' dv' m' (t1.trans t') a b c, fun cls d H' fs m' a b c => ⟨fs, m', a, b, c⟩⟩
end
end PD
namespace PD
open PySem PySem.Spec PyProof.Rows L2
def rIsEd (K : PySem.W.Frag) (D a : Addr) (d : Option Addr) : List V → Hp → VK → Prop := fun xs H Q => ∃ (c : V) (cv : Value) (b : Bool) (dd : Addr) (vs : List (Str × V)), xs = [.ref a, c] ∧ (∀ u, RelV c u → u = cv) ∧ PySem.W.kitOne K (.ref D) cv = some b ∧ d = some dd ∧ H dd = some (.xd vs) ∧ Q (.bl b) H
theorem call_isEd {X : Cx} {a D : Addr} {oe : Obj} {d : Option Addr} {pn : List (Addr × Obj)} (C : ExcC X.K D) (hc : (PySem.W.clsIn X.K D).isSome = true) (hz : Zc (.ref D) d oe) (hf : ∃ vs, oe.data = .fields vs) :
    CallR (X.suite a ((a, oe) :: pn)) (.builtin "isinstance") (rIsEd X.K D a d) := fun pins s σ H xs us Q I r h => by
  obtain ⟨c, cv, b, dd, vs, rfl, hcv, e, rfl, hd, q⟩ := h
  match us, r with
  | [_, u2], .cons rx (.cons rt .nil) =>
    cases rx
    have ec := hcv u2 rt
    subst ec
    obtain ⟨hget, hH, _⟩ := I.pin (a, oe) (List.mem_append_left _ List.mem_cons_self)
    obtain ⟨vf, hv⟩ := hf
    obtain ⟨o, ho⟩ : ∃ o, s.heap.get? dd = some o := by
      have := I.hok dd _ hd
      unfold L2.ObjOk at this
      obtain ⟨mA, h1, _⟩ := this
      obtain ⟨o, es, ep, h1, _⟩ := h1
      exact ⟨o, h1⟩
    have J : PySem.W.InstAt s.heap a oe D (some o) := ⟨hget, hz.1, by unfold PySem.W.notCls; rw [hv], by rw [hz.2]; exact ho⟩
    exact PySem.W.kia_one (PySem.W.kitx_exc hc C.hg C.hk C.hs C.ha C.hn C.ht C.hm) (show X.K.In s.heap from Inv.kIn (X := X.suite a ((a, oe) :: pn)) I) J e (fun z => nomatch z) fun tk => ⟨.bl b, H, Inv.kept I fun x x_1 z => z, rfl, q⟩
end PD
namespace PD
open PySem PySem.Spec PyProof.Rows L2
theorem tx_inv {X : Cx} {pins : List (Addr × Obj)} {σ : L2.St} {H : Hp} {s : Shared} (I : L2.Inv X pins σ H s) : TX X.H_0 H := fun a u i e => by
  cases u with
  | tup xs => exact I.base.tups a xs e
  | frz o u => exact I.base.frzs a o u e
  | _ => exact i.elim
/-- a reading by data as one of heaps -/
def liftS (K : PySem.W.Frag) (d : DS) : TS := fun E s H => ∃ sd m Ed, RS K H sd s ∧ RM K H m ∧ d Ed sd m ∧
  (∀ s' H' sd' m', TX H H' → RS K H' sd' s' → RM K H' m' → Ed.nx sd' m' → E.nx s' H') ∧
  (∀ v H' dv m', TX H H' → RM K H' m' → Rep K H' dv v → Ed.rt dv m' → E.rt v H') ∧
  (∀ s' H' sd' m', TX H H' → RS K H' sd' s' → RM K H' m' → Ed.bk sd' m' → E.bk s' H') ∧
  ∀ s' H' sd' m', TX H H' → RS K H' sd' s' → RM K H' m' → Ed.ct sd' m' → E.ct s' H'
theorem pss_lift {X : Cx} {b : List Stmt} {d : DS} (g : GSs X b d) : PSs X b (liftS X.K d) := by
  obtain ⟨t, p, l⟩ := g.ex
  exact ⟨fun pins s σ H D I ⟨sd, m, Ed, a, b, c, k1, k2, k3, k4⟩ => p.run pins s σ H D I (l σ H sd m Ed D a b c k1 k2 k3 k4)⟩
/-- the errors that W takes -/
def EdOf (K : PySem.W.Frag) (W : WX) : DX := fun cls fs m => ∀ d σ H, RM K H m → FldR K H fs d → W cls d σ H
theorem takes_ed {X : Cx} {W : WX} (h : Takes X W) : Takes X (wX X.K (EdOf X.K W)) := Takes.imp h fun _ d σ H ⟨_, _, a, b, c⟩ => c d σ H a b
end PD
namespace PD
open PySem PySem.Spec PyProof.Rows L2
def dIsE (a : Addr) (d : Option Addr) (b : Bool) (de : DE) : DE := fun s m Q => de s m fun x m1 => x = .ref a ∧ ∃ (dd : Addr) (vs : List (Str × V)), d = some dd ∧ m1 dd = some (.oth (.xd vs)) ∧ Q (.bl b) m1
section
variable {X : Cx} {a C : Addr} {oe : Obj} {d : Option Addr} {pn : List (Addr × Obj)}
theorem ge_isE {e : Expr} {de : DE} {p q pos : Pos} {y : Str} {c : V} {cv : Value} {b : Bool} (EC : ExcC X.K C) (hc : (PySem.W.clsIn X.K C).isSome = true) (hz : Zc (.ref C) d oe) (hf : ∃ vs, oe.data = .fields vs) (hg : Gl X "isinstance") (ma9 : X.mg "isinstance" = none)
    (he : GE (X.suite a ((a, oe) :: pn)) e de) (hy : PE (X.suite a ((a, oe) :: pn)) (.Name y q) (tC c)) (hcv : ∀ u, RelV c u → u = cv) (hk : PySem.W.kitOne X.K (.ref C) cv = some b)
    (hs1 : starEach [e, .Name y q] X.env = (false, eval e X.env) :: starEach [.Name y q] X.env := by rfl) (hs2 : starEach [.Name y q] X.env = (false, eval (.Name y q) X.env) :: starEach [] X.env := by rfl)
    (hpl : (backTo pos (starEach [.Name y q] X.env)).any (·.1) = false := by rfl) (hv : bootBuiltins "isinstance" = some (.builtin "isinstance") := by decide +kernel) :
    GE (X.suite a ((a, oe) :: pn)) (.Call (.Name "isinstance" p) [e, .Name y q] [] pos) (dIsE a d b de) := by
  obtain ⟨te, pt, l⟩ := he.ex
  refine .of ⟨_, pe_callB (call_isEd EC hc hz hf) hg ma9 hv (pa_cons pt (pa_cons hy pa_nil hs2) hs1) (by decide) (by decide) hs1 hpl, fun s H sd m Qd Q rs rm h k => ?_⟩
  refine l s H sd m _ _ rs rm h fun v H1 dv m1 t1 rm1 r1 ⟨e1, dd, vs, e2, e3, h1⟩ => ?_
  subst e1
  cases r1
  exact ⟨c, cv, b, dd, vs, rfl, hcv, hk, e2, rm1 dd _ e3, k _ H1 _ m1 t1 rm1 (.bl b) h1⟩
end
end PD
namespace PD
open PySem PySem.Spec PyProof.Rows L2
theorem TX.mut {H : Hp} {p : Addr} {u o : HO} (h : H p = some u) (n : ¬ Imm u) : TX H (upd H p o) := fun a v i e => by
  rw [upd_ne (fun z => by rw [z, h] at e; cases e; exact n i)]; exact e
theorem RM.frzG {K : PySem.W.Frag} {H : Hp} {m : Mu} {p : Addr} {u : HO} {od : Obj} (r : RM K H m) (h : H p = some u) (n : ¬ Imm u) : RM K (upd H p (.frz od u)) (mdel m p) := fun a o e => by
  by_cases ha : a = p
  · subst ha; unfold mdel at e; rw [if_pos rfl] at e; cases e
  · rw [mdel_ne ha] at e
    refine (r a o e).tx (.mut h n) fun us z => ?_
    rw [upd_ne ha]; exact z
def tFrzG (t : TE) : TE := fun τ H Q => t τ H fun x H1 => ∃ p u, x = .ref p ∧ H1 p = some u ∧ Mut (some u) ∧ ∀ od, Q x (upd H1 p (.frz od u))
section
variable {X : Cx}
theorem pe_frzG {e : Expr} {t : TE} (h : PE X e t) : PE X e (tFrzG t) := by
  refine ⟨fun pz s τ H Q I hw => ?_⟩
  refine thn (h.run pz s τ H _ I hw) fun v s1 ⟨x, H1, I1, r, p, u, ex, hp, mu, q⟩ => ?_
  subst ex
  obtain ⟨od, I2⟩ := I1.lock hp mu
  exact ⟨_, _, I2, r, q od⟩
def dFrzD (d : DE) : DE := fun s m Q => d s m fun x m1 => ∃ p kvs, x = .ref p ∧ m1 p = some (.dct kvs) ∧ Q (.dic (kvs.map (·.1)) (kvs.map (·.2))) (mdel m1 p)
def dFrzT (d : DE) : DE := fun s m Q => d s m fun x m1 => ∃ p kvs, x = .ref p ∧ m1 p = some (.dcT kvs) ∧ Q (.dicT (kvs.map (·.1)) (kvs.map (·.2))) (mdel m1 p)
def dFrzO (C : Addr) (d : DE) : DE := fun s m Q => d s m fun x m1 => ∃ p fs, x = .ref p ∧ m1 p = some (.ins C fs) ∧ Q (.obj C (fs.map (·.1)) (fs.map (·.2))) (mdel m1 p)
theorem ge_frzD {e : Expr} {d : DE} (h : GE X e d) : GE X e (dFrzD d) := by
  obtain ⟨t, p, l⟩ := h.ex
  refine .of ⟨_, pe_frzG p, fun s H sd m Qd Q rs rm h k => ?_⟩
  refine l s H sd m _ _ rs rm h fun v H1 dv m1 t1 rm1 r1 ⟨p, kvs, ex, e1, q⟩ => ?_
  subst ex
  cases r1
  obtain ⟨us, e2, e3, r2⟩ := rm1 p _ e1
  have t2 : ∀ od, TX H1 (upd H1 p (.frz od (.dK us))) := fun od => .mut e2 (fun z => z)
  exact ⟨p, _, rfl, e2, trivial, fun od => k _ _ _ _ (t1.trans (t2 od)) (rm1.frzG e2 (fun z => z)) (.dic upd_same e3 (r2.mono (t2 od))) q⟩
theorem ge_frzT {e : Expr} {d : DE} (h : GE X e d) : GE X e (dFrzT d) := by
  obtain ⟨t, p, l⟩ := h.ex
  refine .of ⟨_, pe_frzG p, fun s H sd m Qd Q rs rm h k => ?_⟩
  refine l s H sd m _ _ rs rm h fun v H1 dv m1 t1 rm1 r1 ⟨p, kvs, ex, e1, q⟩ => ?_
  subst ex
  cases r1
  obtain ⟨us, e2, e3, r2⟩ := rm1 p _ e1
  have t2 : ∀ od, TX H1 (upd H1 p (.frz od (.dT us))) := fun od => .mut e2 (fun z => z)
  exact ⟨p, _, rfl, e2, trivial, fun od => k _ _ _ _ (t1.trans (t2 od)) (rm1.frzG e2 (fun z => z)) (.dicT upd_same e3 (r2.mono (t2 od))) q⟩
theorem ge_frzO {e : Expr} {d : DE} {C : Addr} (h : GE X e d) : GE X e (dFrzO C d) := by
  obtain ⟨t, p, l⟩ := h.ex
  refine .of ⟨_, pe_frzG p, fun s H sd m Qd Q rs rm h k => ?_⟩
  refine l s H sd m _ _ rs rm h fun v H1 dv m1 t1 rm1 r1 ⟨p, fs, ex, e1, q⟩ => ?_
  subst ex
  cases r1
  obtain ⟨dx, us, e2, e3, r2⟩ := rm1 p _ e1
  have t2 : ∀ od, TX H1 (upd H1 p (.frz od (.ins C dx us))) := fun od => .mut e2 (fun z => z)
  exact ⟨p, _, rfl, e2, trivial, fun od => k _ _ _ _ (t1.trans (t2 od)) (rm1.frzG e2 (fun z => z)) (.obj upd_same e3 (r2.mono (t2 od))) q⟩
end
def lookF (f : Str) : List Str → List D → Option D
  | g :: gs, d :: ds => if f == g then some d else lookF f gs ds
  | _, _ => none
theorem lookF_rep {K : PySem.W.Frag} {H : Hp} {f : Str} : ∀ {gs : List Str} {ds : List D} {us : List (Str × V)}, us.map (·.1) = gs → RepL K H ds (us.map (·.2)) → (∀ d, lookF f gs ds = some d → ∃ v, us.lookup f = some v ∧ Rep K H d v) ∧ (lookF f gs ds = none → us.lookup f = none)
  | _, _, [], e, _ => by subst e; exact ⟨fun _ h => (nomatch h), fun _ => rfl⟩
  | _, _, (g, v) :: us, e, r => by
    subst e
    cases r with
    | cons r1 r2 =>
      have ih := lookF_rep (f := f) rfl r2
      simp only [List.map_cons, lookF, List.lookup_cons]
      cases q : (f == g) with
      | true => simp only [if_true]; exact ⟨fun d h => by cases h; exact ⟨v, rfl, r1⟩, fun h => (nomatch h)⟩
      | false => simp only [Bool.false_eq_true, if_false]; exact ih
def dFldV (C : Addr) (f : Str) (x : D) (m : Mu) (Q : DK) : Prop := match x with
  | .obj C' fs ds => C' = C ∧ ∃ v, lookF f fs ds = some v ∧ Q v m
  | _ => False
def dFldO (C : Addr) (f : Str) (de : DE) : DE := fun s m Q => de s m fun x m1 => dFldV C f x m1 Q
theorem dFldV_o {C : Addr} {f : Str} {fs : List Str} {ds : List D} {m : Mu} {Q : DK} : dFldV C f (.obj C fs ds) m Q = ∃ v, lookF f fs ds = some v ∧ Q v m := by
  show (C = C ∧ _) = _
  rw [eq_self, true_and]
section
variable {P : Program} {w : World} {H : Hp} {h : Heap} {a C dx : Addr} {fs : List (Str × V)}
theorem ins_rd (hok : HOk P w H h) (e : Rd H a (.ins C dx fs)) : ∃ mA, ObjM h a dx C mA ∧ (∀ f, RelO (fs.lookup f) (mA f)) := by
  obtain ⟨d, z, ne, ob, mA, n, r, q⟩ := (show ObjOk P w H h a (.ins C dx fs) from e.ok hok)
  exact ⟨mA, ⟨ob, n, ne⟩, r⟩
end
section
variable {X : Cx} {o e : Expr} {f : Str} {pos : Pos}
def tFldR (K : PySem.W.Frag) (ta : TE) (f : Str) : TE := fun τ H Q => ta τ H fun x H1 => ∃ a C dx fs v, x = .ref a ∧ Rd H1 a (.ins C dx fs) ∧ Cls K C ∧ NoAttr K C f ∧ fs.lookup f = some v ∧ Q v H1
theorem pe_fldR {ta : TE} (he : PE X e ta) (hb : attributeBase e f X.env (eval e X.env) = eval e X.env) : PE X (.Attribute e f pos) (tFldR X.K ta f) := by
  refine ⟨fun pz s τ H Q I h => ?_⟩
  refine attr_of hb (thn (he.run pz s τ H _ I h) fun u s1 ⟨x, H1, I1, rx, a, C, dx, fs, v, ex, ea, c, n, l, q⟩ => ?_)
  subst ex
  obtain rfl : u = Value.ref a := rx
  obtain ⟨mA, O, r⟩ := ins_rd I1.hok ea
  obtain ⟨u2, hu, ru⟩ := RelO.some_of (v := v) (o := mA f) (by rw [← l]; exact r f)
  exact get_map I1.kIn O (c.get f) c.hd n hu (handed_of ru) ⟨v, H1, I1.tok _, ru, q⟩
theorem ge_fldO {C : Addr} {de : DE} (c : Cls X.K C) (n : NoAttr X.K C f) (he : GE X e de) (hb : attributeBase e f X.env (eval e X.env) = eval e X.env := by rfl) : GE X (.Attribute e f pos) (dFldO C f de) := by
  obtain ⟨te, pt, l⟩ := he.ex
  refine .of ⟨_, pe_fldR pt hb, fun s H sd m Qd Q rs rm h k => l s H sd m _ _ rs rm h fun v H1 dv m1 t1 rm1 r1 h1 => ?_⟩
  cases r1 with
  | @obj C' fs ds a dx ob us ea en r =>
    obtain ⟨rfl, d, e3, h2⟩ := h1
    obtain ⟨v', e6, r6⟩ := (lookF_rep en r).1 d e3
    exact ⟨a, _, dx, us, v', rfl, .inr ⟨ob, ea⟩, c, n, e6, k _ _ _ _ t1 rm1 r6 h2⟩
  | _ => exact h1.elim
def tMethR (C : Addr) (m : Str) (sp : Sp) (dvs : List V) (E : XK) (ta : TE) (t : TA) : TE := fun τ H Q => ta τ H fun x H1 => ∃ a dx fs, x = .ref a ∧ Rd H1 a (.ins C dx fs) ∧ fs.lookup m = none ∧
  t τ H1 fun vs H2 => sp (x :: (vs ++ dvs)) H2 Q E
theorem getmeth_rd {pins : List (Addr × Obj)} {τ : L2.St} {H : Hp} {s : Shared} {a C dx : Addr} {fs : List (Str × V)} {m : Str} {g : Addr} {pl : Sem Bool} {A : Around} {E : Value → Shared → Prop} {Q : Value × List Value → Shared → Prop} (I : Inv X pins τ H s) (e : Rd H a (.ins C dx fs)) (c : Cls X.K C) (k : Meth X.K C m g) (l : fs.lookup m = none)
    (h : Q (.ref g, [.ref a]) s) : wpAny (model X.prog X.w) A (getMethod (.ref a) m pl) Q E s := by
  obtain ⟨mA, O, r⟩ := ins_rd I.hok e
  have hn : mA m = none := RelO.none_of (by rw [← l]; exact r m)
  exact get_meth I.kIn O (c.get m) k.at_ k.fn hn h
theorem pe_methR {C g : Addr} {k : Nat} {fd : FuncData} {ps : List Str} {sp : Sp} {CX : CXT} {dvs : List V} {E : XK} {mn : Str} {es : List Expr} {ta : TE} {t : TA} {apos : Pos} {dvz : List Value} {pl : Sem Bool} (he : PE X o ta) (c : Cls X.K C) (hm : Meth X.K C mn g) (F : FnOk X.prog X.w X.K X.mg X.base CX k g fd ps sp) (hr : Room k X.A) (hb : Binds X.K fd ps dvz) (hd : Vals dvs dvz) (hx : Passes CX X E) (ha : PA X (e :: es) t)
    (hst : starEach (e :: es) X.env = (false, eval e X.env) :: starEach es X.env := by rfl) (hpl : (backTo pos (starEach es X.env)).any (·.1) = false := by rfl)
    (ht : eval (.Call (.Attribute o mn apos) (e :: es) [] pos) X.env = (do
      let ov9 ← eval o X.env
      standAt apos.atName
      let (f, first) ← holding [ov9] (getMethod ov9 mn pl)
      callWith pos f first (backTo pos (starEach (e :: es) X.env)) (backToKw pos (keywordEach [] X.env))) := by rfl) :
    PE X (.Call (.Attribute o mn apos) (e :: es) [] pos) (tMethR C mn sp dvs E ta t) := by
  refine ⟨fun pz s τ H Q I h => ?_⟩
  refine PySem.W.methodCall_KW (pl := pl) (thn (he.run pz s τ H _ I h) fun u s1 ⟨x, H1, I1, rx, a, dx, fs, ex, ea, l, q⟩ => ?_) ht
  subst ex
  obtain rfl : u = Value.ref a := rx
  refine getmeth_rd I1 ea c hm l ?_
  refine PySem.W.callWith_K (first := [.ref a]) (h₀ := X.base) I.ok.mod.kin hm.kp (thn (ha.run pos pz s1 τ H1 _ I1 q) fun us s2 ⟨vs, H2, I2, r, q2⟩ => ⟨I2.kIn, ?_⟩) hst hpl
  exact run_fn (us := .ref a :: us) (vs := .ref a :: vs) F hr hb hd hx I2 (.cons rfl r) q2
theorem pe_methR0 {C g : Addr} {k : Nat} {fd : FuncData} {ps : List Str} {sp : Sp} {CX : CXT} {dvs : List V} {E : XK} {mn : Str} {ta : TE} {apos : Pos} {dvz : List Value} {pl : Sem Bool} (he : PE X o ta) (c : Cls X.K C) (hm : Meth X.K C mn g) (F : FnOk X.prog X.w X.K X.mg X.base CX k g fd ps sp) (hr : Room k X.A) (hb : Binds X.K fd ps dvz) (hd : Vals dvs dvz) (hx : Passes CX X E)
    (ht : eval (.Call (.Attribute o mn apos) [] [] pos) X.env = (do
      let ov9 ← eval o X.env
      standAt apos.atName
      let (f, first) ← holding [ov9] (getMethod ov9 mn pl)
      callWith pos f first (backTo pos (starEach [] X.env)) (backToKw pos (keywordEach [] X.env))) := by rfl) :
    PE X (.Call (.Attribute o mn apos) [] [] pos) (tMethR C mn sp dvs E ta tNil) := by
  refine ⟨fun pz s τ H Q I h => ?_⟩
  refine PySem.W.methodCall_KW (pl := pl) (thn (he.run pz s τ H _ I h) fun u s1 ⟨x, H1, I1, rx, a, dx, fs, ex, ea, l, q⟩ => ?_) ht
  subst ex
  obtain rfl : u = Value.ref a := rx
  refine getmeth_rd I1 ea c hm l ?_
  exact PySem.W.callWith_K0 (first := [.ref a]) I1.kIn hm.kp (run_fn (us := [.ref a]) (vs := [.ref a]) F hr hb hd hx I1 (.cons rfl .nil) q)
def dMethV (C : Addr) (mn : Str) (n : Nat) (sd : SpD) (x : D) (a : (List D → Mu → Prop) → Prop) (Q : DK) : Prop := match x with
  | .obj C' fs ds => C' = C ∧ lookF mn fs ds = none ∧ a fun es m2 => es.length + 1 = n ∧ sd (.obj C' fs ds :: es) m2 Q
  | _ => False
theorem dMethV_o {C : Addr} {mn : Str} {n : Nat} {sd : SpD} {fs : List Str} {ds : List D} {a : (List D → Mu → Prop) → Prop} {Q : DK} : dMethV C mn n sd (.obj C fs ds) a Q = (lookF mn fs ds = none ∧ a fun es m2 => es.length + 1 = n ∧ sd (.obj C fs ds :: es) m2 Q) := by
  show (C = C ∧ _) = _
  rw [eq_self, true_and]
def dMethO (C : Addr) (mn : Str) (n : Nat) (sd : SpD) (de : DE) (da : DA) : DE := fun s m Q => de s m fun x m1 => dMethV C mn n sd x (fun k => da s m1 k) Q
theorem ge_methO {C g : Addr} {k n : Nat} {fd : FuncData} {ps : List Str} {sd : SpD} {mn : Str} {es : List Expr} {de : DE} {da : DA} {apos : Pos} {pl : Sem Bool} (c : Cls X.K C) (hm : Meth X.K C mn g) (F : FnOk X.prog X.w X.K X.mg X.base CX0 k g fd ps (spL X.K n sd)) (hr : Room k X.A) (hb : Binds X.K fd ps []) (he : GE X o de)
    (ha : GA X (e :: es) da) (hst : starEach (e :: es) X.env = (false, eval e X.env) :: starEach es X.env := by rfl) (hpl : (backTo pos (starEach es X.env)).any (·.1) = false := by rfl)
    (ht : eval (.Call (.Attribute o mn apos) (e :: es) [] pos) X.env = (do
      let ov9 ← eval o X.env
      standAt apos.atName
      let (f, first) ← holding [ov9] (getMethod ov9 mn pl)
      callWith pos f first (backTo pos (starEach (e :: es) X.env)) (backToKw pos (keywordEach [] X.env))) := by rfl) :
    GE X (.Call (.Attribute o mn apos) (e :: es) [] pos) (dMethO C mn n sd de da) := by
  obtain ⟨te, pt, l⟩ := he.ex
  obtain ⟨ta, q, la⟩ := ha.ex
  refine .of ⟨_, pe_methR (E := E0) pt c hm F hr hb .nil pass0 q hst hpl ht, fun s H sd' m Qd Q rs rm h k => ?_⟩
  refine l s H sd' m _ _ rs rm h fun x H1 dx1 m1 t1 rm1 r1 h1 => ?_
  cases r1 with
  | @obj C' fs ds a dx ob us ea en r =>
    obtain ⟨rfl, e3, h2⟩ := h1
    refine ⟨a, dx, us, rfl, .inr ⟨ob, ea⟩, (lookF_rep en r).2 e3, ?_⟩
    refine la s H1 sd' m1 _ _ (rs.mono t1) rm1 h2 fun vs H2 es2 m2 t2 rm2 r2 h3 => ?_
    rw [List.append_nil]
    exact ⟨_ :: es2, m2, Qd, .cons (Rep.mono t2 (.obj ea en r)) r2, rm2, ⟨h3.1, h3.2⟩, fun v' H' dv' m' t' a b c => k v' H' dv' m' (t1.trans (t2.trans t')) a b c⟩
  | _ => exact h1.elim
theorem ge_methO0 {C g : Addr} {k n : Nat} {fd : FuncData} {ps : List Str} {sd : SpD} {mn : Str} {de : DE} {apos : Pos} {pl : Sem Bool} (c : Cls X.K C) (hm : Meth X.K C mn g) (F : FnOk X.prog X.w X.K X.mg X.base CX0 k g fd ps (spL X.K n sd)) (hr : Room k X.A) (hb : Binds X.K fd ps []) (he : GE X o de)
    (ht : eval (.Call (.Attribute o mn apos) [] [] pos) X.env = (do
      let ov9 ← eval o X.env
      standAt apos.atName
      let (f, first) ← holding [ov9] (getMethod ov9 mn pl)
      callWith pos f first (backTo pos (starEach [] X.env)) (backToKw pos (keywordEach [] X.env))) := by rfl) :
    GE X (.Call (.Attribute o mn apos) [] [] pos) (dMethO C mn n sd de dNil) := by
  obtain ⟨te, pt, l⟩ := he.ex
  refine .of ⟨_, pe_methR0 (E := E0) pt c hm F hr hb .nil pass0 ht, fun s H sd' m Qd Q rs rm h k => ?_⟩
  refine l s H sd' m _ _ rs rm h fun x H1 dx1 m1 t1 rm1 r1 h1 => ?_
  cases r1 with
  | @obj C' fs ds a dx ob us ea en r =>
    obtain ⟨rfl, e3, h2⟩ := h1
    refine ⟨a, dx, us, rfl, .inr ⟨ob, ea⟩, (lookF_rep en r).2 e3, ?_⟩
    exact ⟨[_], m1, Qd, .cons (.obj ea en r) .nil, rm1, ⟨h2.1, h2.2⟩, fun v' H' dv' m' t' a b c => k v' H' dv' m' (t1.trans t') a b c⟩
  | _ => exact h1.elim
end
end PD
namespace PD
open PySem PySem.Spec PyProof.Rows L2
def dicOf (kvs : List (Key × D)) : D := .dic (kvs.map (·.1)) (kvs.map (·.2))
def dicTOf (kvs : List (List Key × D)) : D := .dicT (kvs.map (·.1)) (kvs.map (·.2))
theorem zip_self {α β : Type} : ∀ l : List (α × β), (l.map (·.1)).zip (l.map (·.2)) = l
  | [] => rfl
  | x :: l => by rw [List.map_cons, List.map_cons, List.zip_cons_cons, zip_self l]
def dctOf (m : Mu) : D → Option (List (Key × D))
  | .dic ks ds => some (ks.zip ds)
  | .ref a => match m a with | some (.dct kvs) => some kvs | _ => none
  | _ => none
theorem dct_dic {m : Mu} {kvs : List (Key × D)} : dctOf m (dicOf kvs) = some kvs := by
  show some ((kvs.map (·.1)).zip (kvs.map (·.2))) = _
  rw [zip_self]
theorem dct_ref {m : Mu} {a : Addr} {kvs : List (Key × D)} (h : m a = some (.dct kvs)) : dctOf m (.ref a) = some kvs := by unfold dctOf; simp only [h]
theorem map_snd_of {α β γ : Type} {us : List (α × β)} {ds : List γ} (h : ds.length = us.length) : ((us.map (·.1)).zip ds).map (·.1) = us.map (·.1) ∧ ((us.map (·.1)).zip ds).map (·.2) = ds :=
  ⟨List.map_fst_zip (by rw [List.length_map]; omega), List.map_snd_zip (by rw [List.length_map]; omega)⟩
theorem dct_rep {K : PySem.W.Frag} {H : Hp} {m : Mu} {d : D} {v : V} {kvs : List (Key × D)} (rm : RM K H m) (r : Rep K H d v) (h : dctOf m d = some kvs) :
    ∃ a us, v = .ref a ∧ Rd H a (.dK us) ∧ us.map (·.1) = kvs.map (·.1) ∧ RepL K H (kvs.map (·.2)) (us.map (·.2)) := by
  cases r with
  | @dic ks ds a o us ea en r =>
    unfold dctOf at h
    cases h
    have hl := r.length
    rw [List.length_map] at hl
    obtain ⟨z1, z2⟩ := map_snd_of (us := us) hl
    subst en
    exact ⟨a, us, rfl, .inr ⟨o, ea⟩, z1.symm, by rw [z2]; exact r⟩
  | ref a =>
    unfold dctOf at h
    cases e : m a with
    | none => simp only [e] at h; cases h
    | some o =>
      have q := rm a o e
      cases o with
      | dct es => simp only [e] at h; cases h; obtain ⟨us, e2, e3, r⟩ := q; exact ⟨a, us, rfl, .inl e2, e3, r⟩
      | _ => simp only [e] at h; cases h
  | _ => unfold dctOf at h; cases h
theorem dget_rd {H : Hp} {a : Addr} {us : List (Key × V)} {k : Key} (e : Rd H a (.dK us)) : DGet H a (kV k) (valV us k) := .inl ⟨us, k, e, rfl, rfl⟩
def dGetV (x y : D) (m : Mu) (Q : DK) : Prop := ∃ kvs, dctOf m x = some kvs ∧ ∃ k, toKey y = some k ∧ ∃ d, valD kvs k = some d ∧ Q d m
def dInV (f : Bool → Bool) (y x : D) (m : Mu) (Q : DK) : Prop := ∃ kvs, dctOf m x = some kvs ∧ ∃ k, toKey y = some k ∧ Q (.bl (f (valD kvs k).isSome)) m
def dDGetU (dd dk : DE) : DE := fun s m Q => dd s m fun x m1 => dk s m1 fun y m2 => dGetV x y m2 Q
def dDInU (f : Bool → Bool) (dk dd : DE) : DE := fun s m Q => dk s m fun y m1 => dd s m1 fun x m2 => dInV f y x m2 Q
def dGet2V (x y z : D) (m : Mu) (Q : DK) : Prop := ∃ kvs, dctOf m x = some kvs ∧ ∃ k, toKey y = some k ∧ Q ((valD kvs k).getD z) m
def dDGet2U (dd dk dx : DE) : DE := fun s m Q => dd s m fun x m1 => (dctOf m1 x).isSome = true ∧ dk s m1 fun y m2 => dx s m2 fun z m3 => dGet2V x y z m3 Q
section
variable {X : Cx} {o i e f : Expr} {pos apos cpos : Pos} {dd dk dx : DE}
theorem ge_dgetU (hu : X.A.units + 1 < cLine) (ho : GE X o dd) (hi : GE X i dk) (hs : NoSl i) : GE X (.Subscript o i pos) (dDGetU dd dk) := by
  obtain ⟨td, pd, ld⟩ := ho.ex
  obtain ⟨ti, pi, li⟩ := hi.ex
  refine .of ⟨_, pe_dget hu pd pi hs, fun s H sd m Qd Q rs rm h k => ?_⟩
  refine ld s H sd m _ _ rs rm h fun x H1 dx m1 t1 rm1 r1 h1 => ?_
  refine li s H1 sd m1 _ _ (rs.mono t1) rm1 h1 fun y H2 dy m2 t2 rm2 r2 h2 => ?_
  obtain ⟨kvs, e2, kk, e3, d, e4, h3⟩ := h2
  obtain ⟨a, us, rfl, e5, e6, r⟩ := dct_rep rm2 (r1.mono t2) e2
  obtain ⟨v, e7, r7⟩ := (val_rep e6 r).1 d e4
  have hy := key_rep r2 e3
  subst hy
  exact ⟨a, v, rfl, by rw [← e7]; exact dget_rd e5, k _ _ _ _ (t1.trans t2) rm2 r7 h3⟩
theorem gt_dnotinU (hu : X.A.units + 1 < cLine) (hi : GE X i dk) (ho : GE X o dd) (hm : behindInMarks .NotIn o = false := by rfl) : GT X (.Compare i [.NotIn] [o] pos) (dTest (dDInU (fun b => !b) dk dd)) := by
  obtain ⟨td, pd, ld⟩ := ho.ex
  obtain ⟨ti, pi, li⟩ := hi.ex
  refine .of ⟨_, pt_cmp (pc_dnotin hu pi pd) hm, LE.testB fun s H sd m Qd Q rs rm h k => ?_⟩
  refine li s H sd m _ _ rs rm h fun y H1 dy m1 t1 rm1 r1 h1 => ?_
  refine ld s H1 sd m1 _ _ (rs.mono t1) rm1 h1 fun x H2 dx m2 t2 rm2 r2 h2 => ?_
  obtain ⟨kvs, e2, kk, e3, h3⟩ := h2
  obtain ⟨a, us, rfl, e5, e6, r⟩ := dct_rep rm2 r2 e2
  have hy := key_rep (r1.mono t2) e3
  subst hy
  refine ⟨a, _, rfl, dget_rd e5, ?_⟩
  rw [val_some e6 r]
  exact k _ _ _ _ (t1.trans t2) rm2 (.bl _) h3
end
def keyD : Key → D
  | .inl i => .int i
  | .inr x => .str x
theorem keyD_rep {K : PySem.W.Frag} {H : Hp} (k : Key) : Rep K H (keyD k) (kV k) := by cases k <;> constructor
def dIKeys (a : DE) : DI := fun s m R => a s m fun x m1 => match x with
  | .dic ks _ => R (ks.map keyD) (fun _ => True) m1
  | _ => False
theorem gi_keys {X : Cx} {tg l : Expr} {a : DE} (h : GE X l a) : GIE X tg l (dIKeys a) :=
  ⟨iKeys (liftE X.K a), pi_keys h.pe, fun s H sd m Rd R rs rm hh k => by
    refine liftE_le _ a s H sd m _ _ rs rm hh fun v H1 dv m1 t1 rm1 r1 h1 => ?_
    cases r1 with
    | @dic ks ds p o us ea en r =>
      have hl : (ks.map keyD).length = us.length := by rw [← en, List.length_map, List.length_map]
      refine ⟨p, o, rfl, .inl ⟨us, ea, k _ H1 (ks.map keyD) (fun _ => True) m1 t1 rm1 ⟨fun i H' m' t' _ _ hi => ?_, fun i H' x H2 m' t' rm' _ _ hy => ?_, fun i H' m' t' _ _ hi => ?_⟩ h1⟩⟩
      · exact ⟨t' _ _ trivial ea, by omega⟩
      · obtain ⟨rfl, kk, v, e1, rfl⟩ := hy
        refine ⟨keyD kk, ?_, .refl _, rm', keyD_rep kk⟩
        subst en
        rw [List.getElem?_map, List.getElem?_map, e1]; rfl
      · exact ⟨t' _ _ trivial ea, by omega⟩
    | _ => exact h1.elim⟩
def dDComp (st : Mu → Prop) (g : DG) (t : DT) (tk te : DE) (p : Addr) (s : Sd) (Q : DK) : List D → List (Key × D) → Mu → Prop
  | [], acc => fun m => st m ∧ m p = some (.dct acc) ∧ Q (.ref p) m
  | d :: es, acc => fun m => st m ∧ g d s m fun s2 m2 => t s2 m2 fun b m3 =>
      if b = true then tk s2 m3 fun y m4 => te s2 m4 fun z m5 => ∃ k, toKey y = some k ∧ m5 p = some (.dct acc) ∧ acc.length < sizeLine ∧ dDComp st g t tk te p s Q es (putKD acc k z) (mset m5 p (.dct (putKD acc k z))) else dDComp st g t tk te p s Q es acc m3
def dDc (di : DI) (g : DG) (t : DT) (tk te : DE) (vs : List Nat) : DE := fun s m Q => di s m fun es st m1 => ∀ p, m1 p = none → dDComp st g t tk te p (wipeD s vs) Q es [] (mset m1 p (.dct []))
section
variable {X : Cx}
theorem le_dc {s : L2.St} {H : Hp} {Q : VK} {sd : Sd} {m : Mu} {Qd : DK} {tg iter : Expr} {vs : List Nat} {wi : TI} {di : DI} {g : TG} {dg : DG} {js : List Nat} {dt : DT} {dk de : DE} (hi : GI X tg iter wi di) (lg : LG X.K g dg js) (hj : ∀ j ∈ js, j ∈ vs)
    (rs : RS X.K H sd s) (rm : RM X.K H m) (h : dDc di dg dt dk de vs sd m Qd) (k : ∀ v H' dv m', TX H H' → RM X.K H' m' → Rep X.K H' dv v → Qd dv m' → Q v H') : tDc wi g (liftT X.K dt) (liftE X.K dk) (liftE X.K de) vs s H Q := by
  refine hi.li s H sd m _ _ rs rm h fun J H1 es st m1 t1 rm1 jo h1 => ?_
  intro p hp
  have h2 := h1 p (rm1.fresh hp)
  have tn : TX H1 (upd H1 p (.dK [])) := .new hp
  refine ⟨fun i n H' => i ≤ es.length ∧ n = es.length - i ∧ ∃ m' acc, TX H1 H' ∧ RM X.K H' m' ∧ dDComp st dg dt dk de p (wipeD sd vs) Qd (es.drop i) acc m', ⟨es.length, Nat.zero_le _, by omega, _, [], tn, rm1.newD hp, h2⟩, ?_⟩
  rintro i n H' ⟨hle, rfl, m', acc, t2, rm2, q⟩
  by_cases hlt : i < es.length
  · rw [List.drop_eq_getElem_cons hlt] at q
    obtain ⟨hst, q⟩ := q
    refine .inr ⟨jo.go i H' m' t2 rm2 hst hlt, fun H2 => ∃ m2 acc, TX H1 H2 ∧ RM X.K H2 m2 ∧ dDComp st dg dt dk de p (wipeD sd vs) Qd (es.drop (i + 1)) acc m2, fun H2 ⟨m2, acc, a, b, e⟩ => ⟨es.length - (i + 1), by omega, hlt, rfl, m2, acc, a, b, e⟩, fun x H3 hy => ?_⟩
    obtain ⟨dx, e, t3, rm3, rx⟩ := jo.yld i H' x H3 m' t2 rm2 hst hlt hy
    rw [List.getElem?_eq_getElem hlt] at e
    cases e
    refine lg x _ (wipe s vs) H3 (wipeD sd vs) m' _ _ rx ((rs.mono (t1.trans (t2.trans t3))).wipe _) rm3 q fun s4 H4 sd4 m4 t4 rs4 rm4 q4 ow => ?_
    refine ⟨by rw [ow _ hj, wipe_wipe], ?_⟩
    have t14 : TX H1 H4 := t2.trans (t3.trans t4)
    refine liftT_le _ dt s4 H4 sd4 m4 _ _ rs4 rm4 q4 fun b H5 m5 t5 rm5 q5 => ?_
    cases b with
    | true =>
      show liftE X.K dk s4 H5 _
      refine liftE_le _ dk s4 H5 sd4 m5 _ _ (rs4.mono t5) rm5 q5 fun y H6 dy m6 t6 rm6 ry q6 => ?_
      refine liftE_le _ de s4 H6 sd4 m6 _ _ (rs4.mono (t5.trans t6)) rm6 q6 fun z H7 dz m7 t7 rm7 rz q7 => ?_
      obtain ⟨kk, e5, e6, hz, q8⟩ := q7
      obtain ⟨us, e7, e8, r7⟩ := rm7 p _ e6
      have hy := key_rep ry e5
      subst hy
      have hlen : us.length = acc.length := by have z := congrArg List.length e8; rwa [List.length_map, List.length_map] at z
      have pr := putK_rep (k := kk) e8 r7 rz
      exact ⟨us, kk, rfl, e7, by omega, _, putKD acc kk dz, t14.trans (t5.trans (t6.trans (t7.trans (.dK e7)))), rm7.setD e7 pr.1 pr.2, q8⟩
    | false =>
      exact ⟨m5, acc, t14.trans t5, rm5, q5⟩
  · have e : i = es.length := by omega
    subst e
    rw [List.drop_length] at q
    exact .inl ⟨jo.stop _ H' m' t2 rm2 q.1 (Nat.le_refl _), k _ H' _ m' (t1.trans t2) rm2 (.ref p) q.2.2⟩
theorem ge_dc {kx vx tg iter : Expr} {ifs : List Expr} {scope : Scope} {own : List (Str × Nat)} {pos : Pos} {di : DI} {dg : DG} {js : List Nat} {dt : DT} {dk de : DE} (hc : X.calm = true) (hN : X.N.Nodup) (hi : GIE X tg iter di) (ok : BlkOk X.N X.env.scope scope own)
    (hg : ∀ (s : Shared) (H : Hp) (C : Addr) (cl : List (Str × Addr)) (fp : List Addr), GG (X.blk s H scope (compEnvC scope cl C X.env) fp) tg dg js) (ht : ∀ (s : Shared) (H : Hp) (C : Addr) (cl : List (Str × Addr)) (fp : List Addr), GTs (X.blk s H scope (compEnvC scope cl C X.env) fp) ifs dt)
    (hk : ∀ (s : Shared) (H : Hp) (C : Addr) (cl : List (Str × Addr)) (fp : List Addr), GE (X.blk s H scope (compEnvC scope cl C X.env) fp) kx dk)
    (he : ∀ (s : Shared) (H : Hp) (C : Addr) (cl : List (Str × Addr)) (fp : List Addr), GE (X.blk s H scope (compEnvC scope cl C X.env) fp) vx de) (hj : ∀ j ∈ js, j ∈ own.map (·.2)) (hs : ∀ x, foldedSetIterable iter X.env x = pure x := by intro _; rfl) :
    GE X (.DictComp kx vx [⟨tg, iter, ifs, 0⟩] scope pos) (dDc di dg dt dk de (own.map (·.2))) := by
  obtain ⟨wi, hi⟩ := hi
  refine ⟨⟨fun pz s0 s H Q I ⟨sd, m, Qd, rs, rm, h, k⟩ => (pe_dc (g := liftG X.K dg js) (tt := liftT X.K dt) (tk := liftE X.K dk) (tv := liftE X.K de) hc hN hi.pi ok (fun s H C cl fp => (hg s H C cl fp).pg) (fun s H C cl fp => (ht s H C cl fp).pts) (fun s H C cl fp => (hk s H C cl fp).pe) (fun s H C cl fp => (he s H C cl fp).pe) hs).run pz s0 s H Q I ?_⟩⟩
  exact le_dc hi (hg s0 H 0 [] []).lg hj rs rm h k
end
end PD
namespace PD
open PySem PySem.Spec PyProof.Rows L2
theorem ge_glb {X : Cx} {x : Str} {i : Int} {pos : Pos} (hg : Gl X x) (hm : ∃ t, X.mg x = some (.int i t)) (hd : (x == ("__debug__" : Str)) = false := by decide) : GE X (.Name x pos) (dC (.int i)) :=
  let ⟨t, e⟩ := hm
  ge_c (pe_glob (v := .int i) hg e ⟨t, rfl⟩ hd) fun _ => .int i
section
variable {P : Program} {w : World} {K : PySem.W.Frag} {mg : Str → Option Value} {base : Heap}
def sp_nev : SpD := fun _ _ _ => False
theorem fn_nev {x qual : Str} {st : Stmt} {f : Addr} {fd : FuncData} {N ps : List Str} {k : Nat} (F : Fun K x qual st f fd) (S : FnScope N ps (defScope st)) : FnOk P w K mg base CX0 (k + 1) f fd ps (spL K ps.length sp_nev) :=
  F.ok S (fun vs H Q E ⟨ds, m, Qd, r, rm, h, _⟩ => h.2.elim) fun cdv A outer s H vs Q E hr ⟨ds, m, Qd, r, rm, ⟨_, h⟩, kq⟩ => h.elim
end
def tx (l : List Nat) : Str := ⟨l.toArray⟩
theorem tx_app {a b : List Nat} : tx a ++ tx b = tx (a ++ b) := by
  show Str.append (tx a) (tx b) = _
  unfold Str.append tx; rw [List.append_toArray]
theorem tx_len {l : List Nat} : (tx l).length = l.length := by unfold tx; show l.toArray.size = _; rw [List.size_toArray]
theorem tx_emp : ("" : Str) = tx [] := rfl
theorem tx_inj {a b : List Nat} (h : tx a = tx b) : a = b := by
  have := congrArg (fun s : Str => s.cps.toList) h
  simpa [tx] using this
theorem cps_tx (l : List Nat) : (tx l).cps.toList = l := by unfold tx; simp
theorem dIx_tx {l : List Nat} {i : Int} {m : Mu} {Q : DK} : dIx (.str (tx l)) (.int i) m Q = (l.length ≤ sizeLine ∧ ∃ c, atI l i = some c ∧ Q (.str (tx [c])) m) := by
  rw [dIx_s, tx_len]; unfold tx; rfl
theorem sgn_tx {l : List Nat} : sgn (tx l) = l.map fun c => .str (tx [c]) := by unfold sgn tx; rfl
theorem cutS_to {l : List Nat} {k : Nat} : cutS (tx l) none (some (k : Int)) = tx (l.take k) := by
  unfold cutS
  rw [HT.sIx_none, HT.sIx_nat, List.drop_zero, Nat.sub_zero, tx_len]
  unfold tx
  congr 2
  show List.take (min k l.length) l = _
  by_cases h : k ≤ l.length
  · rw [Nat.min_eq_left h]
  · rw [Nat.min_eq_right (by omega), List.take_length, List.take_of_length_le (by omega)]
theorem cutS_fr {l : List Nat} {k : Nat} : cutS (tx l) (some (k : Int)) none = tx (l.drop k) := by
  unfold cutS
  rw [HT.sIx_none, HT.sIx_nat, tx_len]
  unfold tx
  congr 2
  show List.take (l.length - min k l.length) (List.drop (min k l.length) l) = _
  by_cases h : k ≤ l.length
  · rw [Nat.min_eq_left h, List.take_of_length_le (by rw [List.length_drop]; exact Nat.le_refl _)]
  · rw [Nat.min_eq_right (by omega), List.drop_length, List.take_nil, List.drop_of_length_le (by omega)]
theorem cutS_fr1 {l : List Nat} {k : Nat} : cutS (tx l) (some ((k : Int) + 1)) none = tx (l.drop (k + 1)) := cutS_fr (k := k + 1)
theorem dAbs_i {i : Int} {m : Mu} {Q : DK} : dAbs [.int i] m Q = Q (.int (if i < 0 then -i else i)) m := rfl
end PD
namespace PD
open PySem PySem.Spec PyProof.Rows L2
mutual
def pln : D → Bool
  | .non | .int _ | .str _ => true
  | .tup ds | .rol ds => plns ds
  | _ => false
def plns : List D → Bool
  | [] => true
  | d :: ds => pln d && plns ds
end
mutual
def dep : D → Nat
  | .tup ds | .rol ds => deps ds + 1
  | _ => 0
def deps : List D → Nat
  | [] => 0
  | d :: ds => max (dep d) (deps ds)
end
mutual
def sok : D → Bool
  | .str x => PyData.canLay0 (.str x)
  | .tup ds | .rol ds => soks ds
  | _ => true
def soks : List D → Bool
  | [] => true
  | d :: ds => sok d && soks ds
end
theorem plns_iff {ds : List D} : plns ds = true ↔ ∀ d ∈ ds, pln d = true := by
  induction ds with
  | nil => simp [plns]
  | cons d ds ih => simp [plns, ih]
theorem soks_iff {ds : List D} : soks ds = true ↔ ∀ d ∈ ds, sok d = true := by
  induction ds with
  | nil => simp [soks]
  | cons d ds ih => simp [soks, ih]
theorem deps_le {ds : List D} {n : Nat} : deps ds ≤ n ↔ ∀ d ∈ ds, dep d ≤ n := by
  induction ds with
  | nil => simp [deps]
  | cons d ds ih => simp only [deps, List.mem_cons, forall_eq_or_imp, ← ih]; omega
mutual
theorem toP_pln : ∀ d : D, pln d = true → ∃ p, toP d = some p ∧ p.plain = true ∧ p.depth = dep d ∧ p.canLay0 = sok d
  | .non, _ => ⟨.none, rfl, rfl, by simp [PyData.depth, dep], by simp [PyData.canLay0, sok]⟩
  | .int i, _ => ⟨.int i, rfl, rfl, by simp [PyData.depth, dep], by simp [PyData.canLay0, sok]⟩
  | .str x, _ => ⟨.str x, rfl, rfl, by simp [PyData.depth, dep], by simp [sok]⟩
  | .tup ds, h => by
    obtain ⟨ps, e, h1, h2, h3⟩ := toPs_pln ds (by simpa [pln] using h)
    exact ⟨.tuple ps, by unfold toP; rw [e]; rfl, by simpa [PyData.plain] using h1, by simp [PyData.depth, dep, h2], by simp [PyData.canLay0, sok, h3]⟩
  | .rol ds, h => by
    obtain ⟨ps, e, h1, h2, h3⟩ := toPs_pln ds (by simpa [pln] using h)
    exact ⟨.list ps, by unfold toP; rw [e]; rfl, by simpa [PyData.plain] using h1, by simp [PyData.depth, dep, h2], by simp [PyData.canLay0, sok, h3]⟩
  | .bl _, h => by simp [pln] at h
  | .ref _, h => by simp [pln] at h
  | .dic _ _, h => by simp [pln] at h
  | .dicT _ _, h => by simp [pln] at h
  | .obj _ _ _, h => by simp [pln] at h
theorem toPs_pln : ∀ ds : List D, plns ds = true → ∃ ps, toPs ds = some ps ∧ PyData.plainAll ps = true ∧ PyData.depthAll ps = deps ds ∧ PyData.canLayAll0 ps = soks ds
  | [], _ => ⟨[], rfl, rfl, by simp [PyData.depthAll, deps], by simp [PyData.canLayAll0, soks]⟩
  | d :: ds, h => by
    obtain ⟨h1, h2⟩ := Bool.and_eq_true_iff.mp (show (pln d && plns ds) = true by simpa [plns] using h)
    obtain ⟨p, e, p1, p2, p3⟩ := toP_pln d h1
    obtain ⟨ps, e', q1, q2, q3⟩ := toPs_pln ds h2
    exact ⟨p :: ps, by unfold toPs; rw [e, e'], by simp [PyData.plainAll, p1, q1], by simp [PyData.depthAll, deps, p2, q2], by simp [PyData.canLayAll0, soks, p3, q3]⟩
end
mutual
theorem eqv_iff : ∀ (d e : D) (p q : PyData), pln d = true → pln e = true → toP d = some p → toP e = some q → (PyData.eqv p q = true ↔ d = e)
  | .tup ds, e, p, q, h1, h2, h3, h4 => by
    obtain ⟨ps, e1, _⟩ := toPs_pln ds (by simpa [pln] using h1)
    have : toP (.tup ds) = some (.tuple ps) := by unfold toP; rw [e1]; rfl
    rw [this] at h3; cases h3
    cases e with
    | tup es =>
      obtain ⟨qs, e2, _⟩ := toPs_pln es (by simpa [pln] using h2)
      have : toP (.tup es) = some (.tuple qs) := by unfold toP; rw [e2]; rfl
      rw [this] at h4; cases h4
      simp only [PyData.eqv, D.tup.injEq]
      exact eqvs_iff ds es ps qs (by simpa [pln] using h1) (by simpa [pln] using h2) e1 e2
    | rol es =>
      obtain ⟨qs, e2, _⟩ := toPs_pln es (by simpa [pln] using h2)
      have : toP (.rol es) = some (.list qs) := by unfold toP; rw [e2]; rfl
      rw [this] at h4; cases h4
      simp [PyData.eqv]
    | non => cases h4; simp [PyData.eqv]
    | int _ => cases h4; simp [PyData.eqv]
    | str _ => cases h4; simp [PyData.eqv]
    | _ => simp [pln] at h2
  | .rol ds, e, p, q, h1, h2, h3, h4 => by
    obtain ⟨ps, e1, _⟩ := toPs_pln ds (by simpa [pln] using h1)
    have : toP (.rol ds) = some (.list ps) := by unfold toP; rw [e1]; rfl
    rw [this] at h3; cases h3
    cases e with
    | rol es =>
      obtain ⟨qs, e2, _⟩ := toPs_pln es (by simpa [pln] using h2)
      have : toP (.rol es) = some (.list qs) := by unfold toP; rw [e2]; rfl
      rw [this] at h4; cases h4
      simp only [PyData.eqv, D.rol.injEq]
      exact eqvs_iff ds es ps qs (by simpa [pln] using h1) (by simpa [pln] using h2) e1 e2
    | tup es =>
      obtain ⟨qs, e2, _⟩ := toPs_pln es (by simpa [pln] using h2)
      have : toP (.tup es) = some (.tuple qs) := by unfold toP; rw [e2]; rfl
      rw [this] at h4; cases h4
      simp [PyData.eqv]
    | non => cases h4; simp [PyData.eqv]
    | int _ => cases h4; simp [PyData.eqv]
    | str _ => cases h4; simp [PyData.eqv]
    | _ => simp [pln] at h2
  | .non, e, p, q, h1, h2, h3, h4 => by
    cases h3
    cases e with
    | tup es =>
      obtain ⟨qs, e2, _⟩ := toPs_pln es (by simpa [pln] using h2)
      have : toP (.tup es) = some (.tuple qs) := by unfold toP; rw [e2]; rfl
      rw [this] at h4; cases h4
      simp [PyData.eqv]
    | rol es =>
      obtain ⟨qs, e2, _⟩ := toPs_pln es (by simpa [pln] using h2)
      have : toP (.rol es) = some (.list qs) := by unfold toP; rw [e2]; rfl
      rw [this] at h4; cases h4
      simp [PyData.eqv]
    | non => cases h4; simp [PyData.eqv]
    | int _ => cases h4; simp [PyData.eqv]
    | str _ => cases h4; simp [PyData.eqv]
    | _ => simp [pln] at h2
  | .int i, e, p, q, h1, h2, h3, h4 => by
    cases h3
    cases e with
    | tup es =>
      obtain ⟨qs, e2, _⟩ := toPs_pln es (by simpa [pln] using h2)
      have : toP (.tup es) = some (.tuple qs) := by unfold toP; rw [e2]; rfl
      rw [this] at h4; cases h4
      simp [PyData.eqv]
    | rol es =>
      obtain ⟨qs, e2, _⟩ := toPs_pln es (by simpa [pln] using h2)
      have : toP (.rol es) = some (.list qs) := by unfold toP; rw [e2]; rfl
      rw [this] at h4; cases h4
      simp [PyData.eqv]
    | non => cases h4; simp [PyData.eqv]
    | int _ => cases h4; simp [PyData.eqv]
    | str _ => cases h4; simp [PyData.eqv]
    | _ => simp [pln] at h2
  | .str x, e, p, q, h1, h2, h3, h4 => by
    cases h3
    cases e with
    | tup es =>
      obtain ⟨qs, e2, _⟩ := toPs_pln es (by simpa [pln] using h2)
      have : toP (.tup es) = some (.tuple qs) := by unfold toP; rw [e2]; rfl
      rw [this] at h4; cases h4
      simp [PyData.eqv]
    | rol es =>
      obtain ⟨qs, e2, _⟩ := toPs_pln es (by simpa [pln] using h2)
      have : toP (.rol es) = some (.list qs) := by unfold toP; rw [e2]; rfl
      rw [this] at h4; cases h4
      simp [PyData.eqv]
    | non => cases h4; simp [PyData.eqv]
    | int _ => cases h4; simp [PyData.eqv]
    | str _ => cases h4; simp [PyData.eqv]
    | _ => simp [pln] at h2
  | .bl _, _, _, _, h, _, _, _ => by simp [pln] at h
  | .ref _, _, _, _, h, _, _, _ => by simp [pln] at h
  | .dic _ _, _, _, _, h, _, _, _ => by simp [pln] at h
  | .dicT _ _, _, _, _, h, _, _, _ => by simp [pln] at h
  | .obj _ _ _, _, _, _, h, _, _, _ => by simp [pln] at h
theorem eqvs_iff : ∀ (ds es : List D) (ps qs : List PyData), plns ds = true → plns es = true → toPs ds = some ps → toPs es = some qs → (PyData.eqvAll ps qs = true ↔ ds = es)
  | [], [], ps, qs, _, _, h3, h4 => by cases h3; cases h4; simp [PyData.eqvAll]
  | [], e :: es, ps, qs, _, h2, h3, h4 => by
    cases h3
    obtain ⟨g1, g2⟩ := Bool.and_eq_true_iff.mp (show (pln e && plns es) = true by simpa [plns] using h2)
    obtain ⟨q', e1, _⟩ := toP_pln e g1
    obtain ⟨qs', e2, _⟩ := toPs_pln es g2
    unfold toPs at h4; rw [e1, e2] at h4; cases h4
    simp [PyData.eqvAll]
  | d :: ds, [], ps, qs, h1, _, h3, h4 => by
    cases h4
    obtain ⟨g1, g2⟩ := Bool.and_eq_true_iff.mp (show (pln d && plns ds) = true by simpa [plns] using h1)
    obtain ⟨q', e1, _⟩ := toP_pln d g1
    obtain ⟨qs', e2, _⟩ := toPs_pln ds g2
    unfold toPs at h3; rw [e1, e2] at h3; cases h3
    simp [PyData.eqvAll]
  | d :: ds, e :: es, ps, qs, h1, h2, h3, h4 => by
    obtain ⟨f1, f2⟩ := Bool.and_eq_true_iff.mp (show (pln d && plns ds) = true by simpa [plns] using h1)
    obtain ⟨p', e3, _⟩ := toP_pln d f1
    obtain ⟨ps', e4, _⟩ := toPs_pln ds f2
    obtain ⟨g1, g2⟩ := Bool.and_eq_true_iff.mp (show (pln e && plns es) = true by simpa [plns] using h2)
    obtain ⟨q', e1, _⟩ := toP_pln e g1
    obtain ⟨qs', e2, _⟩ := toPs_pln es g2
    unfold toPs at h3; rw [e3, e4] at h3; cases h3
    unfold toPs at h4; rw [e1, e2] at h4; cases h4
    rw [PyData.eqvAll, Bool.and_eq_true_iff, eqv_iff d e p' q' f1 g1 e3 e1, eqvs_iff ds es ps' qs' f2 g2 e4 e2, List.cons.injEq]
end
theorem pln_flat {d : D} (h : pln d = true) : flatD d = true ∨ (∃ ds, d = .tup ds) ∨ ∃ ds, d = .rol ds := by
  cases d <;> simp [pln, flatD] at *
theorem eqF_iff {d e : D} (h1 : pln d = true) (h2 : pln e = true) (f1 : flatD d = true) (f2 : flatD e = true) : eqF d e = true ↔ d = e := by
  cases d <;> cases e <;> simp [pln, flatD, eqF] at *
/-- == of plain data is equality -/
theorem eqK_iff (m : Mu) {d e : D} (h1 : pln d = true) (h2 : pln e = true) (s1 : sok d = true) (s2 : sok e = true) (l1 : dep d ≤ 60) (l2 : dep e ≤ 60) : ∃ b, eqK m d e = some b ∧ (b = true ↔ d = e) := by
  have shp : ∀ {x : D} {p : PyData}, toP x = some p → p.canLay0 = sok x → p.depth = dep x → sok x = true → dep x ≤ 60 → SeqAt.shaped p = true := fun e a b c d => by
    unfold SeqAt.shaped
    rw [a, c, Bool.true_and]
    exact decide_eq_true (by rw [b]; omega)
  have tpm : ∀ x : D, pln x = true → toPm m x = toP x := fun x hx => by cases x <;> first | rfl | simp [pln] at hx
  by_cases f1 : flatD d = true
  · by_cases f2 : flatD e = true
    · exact ⟨eqF d e, by unfold eqK; rw [f1, f2]; rfl, eqF_iff h1 h2 f1 f2⟩
    · refine ⟨false, ?_, ?_⟩
      · unfold eqK isSeq
        simp only [f1, f2, Bool.and_false, Bool.false_eq_true, if_false, if_true]
        rcases pln_flat h2 with c | ⟨ds, rfl⟩ | ⟨ds, rfl⟩
        · exact absurd c f2
        · rfl
        · rfl
      · exact ⟨fun h => (nomatch h), fun h => absurd (h ▸ f1) f2⟩
  · by_cases f2 : flatD e = true
    · refine ⟨false, ?_, ?_⟩
      · unfold eqK isSeq
        simp only [f1, f2, Bool.and_true, Bool.false_eq_true, if_false, if_true]
        rcases pln_flat h1 with c | ⟨ds, rfl⟩ | ⟨ds, rfl⟩
        · exact absurd c f1
        · rfl
        · rfl
      · exact ⟨fun h => (nomatch h), fun h => absurd (h ▸ f2) f1⟩
    · obtain ⟨p, e1, _, p2, p3⟩ := toP_pln d h1
      obtain ⟨q, e2, _, q2, q3⟩ := toP_pln e h2
      refine ⟨PyData.eqv p q, ?_, eqv_iff d e p q h1 h2 e1 e2⟩
      unfold eqK
      simp only [f1, f2, Bool.and_false, Bool.false_eq_true, if_false, tpm d h1, tpm e h2, e1, e2]
      rw [shp e1 p3 p2 s1 l1, shp e2 q3 q2 s2 l2]
      rfl
theorem eqK_yes (m : Mu) {d : D} (h1 : pln d = true) (s1 : sok d = true) (l1 : dep d ≤ 60) : eqK m d d = some true := by
  obtain ⟨b, e, h⟩ := eqK_iff m h1 h1 s1 s1 l1 l1
  rw [e, h.mpr rfl]
/-- in, of plain data, is being a member -/
theorem inP_iff {x : D} {ds : List D} (h1 : pln x = true) (h2 : plns ds = true) : inP x ds = true ↔ x ∈ ds := by
  unfold inP
  rw [List.any_eq_true]
  constructor
  · rintro ⟨y, hy, e⟩
    obtain ⟨p, e1, _⟩ := toP_pln y (plns_iff.mp h2 y hy)
    obtain ⟨q, e2, _⟩ := toP_pln x h1
    unfold eqP at e
    rw [e1, e2] at e
    rw [← (eqv_iff y x p q (plns_iff.mp h2 y hy) h1 e1 e2).mp e]
    exact hy
  · intro hx
    refine ⟨x, hx, ?_⟩
    obtain ⟨q, e2, _⟩ := toP_pln x h1
    unfold eqP
    rw [e2]
    exact (eqv_iff x x q q h1 h1 e2 e2).mpr rfl
theorem inP_any {x : D} {p : PyData} (hx : toP x = some p) : ∀ {ds : List D} {ps : List PyData}, toPs ds = some ps → (ps.any fun z => PyData.eqv z p) = inP x ds
  | [], _, h => by cases h; rfl
  | d :: ds, _, h => by
    unfold toPs at h
    cases e : toP d with
    | none => rw [e] at h; cases h
    | some q =>
      cases e2 : toPs ds with
      | none => rw [e, e2] at h; cases h
      | some qs =>
        rw [e, e2] at h; cases h
        have ih := inP_any hx e2
        unfold inP at ih ⊢
        rw [List.any_cons, List.any_cons, ih]
        unfold eqP
        rw [e, hx]
/-- the reading of in, of plain data -/
def dInPP (f : Bool → Bool) : D2 := fun x y m Q => ∃ ds, seqOf m y = some ds ∧ pln x = true ∧ plns ds = true ∧ dep x ≤ 60 ∧ Q (.bl (f (inP x ds))) m
theorem lr_inPP {K : PySem.W.Frag} : LR K (rInP K false) (dInPP id) := fun x y H dx dy m Qd Q rm rx ry ⟨ds, e, h1, h2, h3, h⟩ k => by
  obtain ⟨p, e1, p1, p2, _⟩ := toP_pln dx h1
  obtain ⟨ps, e2, q1, q2, _⟩ := toPs_pln ds h2
  exact lr_inP (neg := false) x y H dx dy m Qd Q rm rx ry ⟨ds, p, ps, e, e1, e2, q1, p1, by rw [p2]; exact Nat.le_trans (Nat.min_le_right _ _) h3, by rw [inP_any e1 e2]; exact h⟩ k
theorem lr_notInPP {K : PySem.W.Frag} : LR K (rInP K true) (dInPP not) := fun x y H dx dy m Qd Q rm rx ry ⟨ds, e, h1, h2, h3, h⟩ k => by
  obtain ⟨p, e1, p1, p2, _⟩ := toP_pln dx h1
  obtain ⟨ps, e2, q1, q2, _⟩ := toPs_pln ds h2
  exact lr_inP (neg := true) x y H dx dy m Qd Q rm rx ry ⟨ds, p, ps, e, e1, e2, q1, p1, by rw [p2]; exact Nat.le_trans (Nat.min_le_right _ _) h3, by rw [inP_any e1 e2]; exact h⟩ k
end PD
namespace PD
open PySem PySem.Spec PyProof.Rows L2
def tFz (t : TS) : TS := fun E τ H => t { E with nx := fun τ' H' => ∃ q u, H' q = some u ∧ Mut (some u) ∧ ∀ od, E.nx τ' (upd H' q (.frz od u)) } τ H
theorem ps_fz {X : Cx} {st : Stmt} {t : TS} (h : PS X st t) : PS X st (tFz t) := by
  refine ⟨fun pz s τ H D I hw => ?_⟩
  refine thn (h.run pz s τ H _ I hw) fun f s1 q => ?_
  cases f with
  | next =>
    obtain ⟨τ', H', I2, p, u, hp, mu, q⟩ := q
    obtain ⟨od, I3⟩ := I2.lock hp mu
    exact ⟨τ', _, I3, q od⟩
  | brk => exact q
  | cont => exact q
  | ret v => exact q
def dFz (i : Nat) (d : DS) : DS := fun E s m => d { E with nx := fun s' m' => ∃ p ds, s'[i]? = some (some (.ref p)) ∧ m' p = some (.lst ds) ∧ E.nx (s'.set i (some (.rol ds))) (mdel m' p) } s m
def dFzD (i : Nat) (d : DS) : DS := fun E s m => d { E with nx := fun s' m' => ∃ p kvs, s'[i]? = some (some (.ref p)) ∧ m' p = some (.dct kvs) ∧ E.nx (s'.set i (some (dicOf kvs))) (mdel m' p) } s m
theorem RS.put {K : PySem.W.Frag} {H : Hp} {sd : Sd} {s : L2.St} (r : RS K H sd s) {i : Nat} {d : D} {v : V} (e : s[i]? = some (some v)) (q : Rep K H d v) : RS K H (sd.set i (some d)) s := by
  have z := r.set q i
  have e2 : s.set i (some v) = s := by
    apply List.ext_getElem?
    intro j
    rw [List.getElem?_set]
    by_cases hij : i = j
    · subst hij
      have hl : i < s.length := (List.getElem?_eq_some_iff.mp e).1
      rw [if_pos rfl, if_pos hl, e]
    · rw [if_neg hij]
  rw [e2] at z
  exact z
theorem gs_fz {X : Cx} {st : Stmt} {d : DS} (i : Nat) (h : GS X st d) : GS X st (dFz i d) := by
  obtain ⟨t, p, l⟩ := h.ex
  refine ⟨_, ps_fz p, fun s H sd m Ed E rs rm h k1 k2 k3 k4 => ?_⟩
  refine l s H sd m _ _ rs rm h ?_ k2 k3 k4
  rintro s' H' sd' m' t' rs' rm' ⟨p, ds, e1, e2, q⟩
  obtain ⟨v, e3, r3⟩ := rs'.at_ i _ e1
  cases r3
  obtain ⟨vs, e4, r4⟩ := rm' p _ e2
  have tt : ∀ od, TX H' (upd H' p (.frz od (.lst vs))) := fun od => .lst e4
  exact ⟨p, _, e4, trivial, fun od => k1 _ _ _ _ (t'.trans (tt od)) ((rs'.mono (tt od)).put e3 (.rol (.inl ⟨od, upd_same⟩) (r4.mono (tt od)))) (rm'.frz e4) q⟩
theorem dFrzD_v {d : DE} {s : Sd} {m : Mu} {Q : DK} : dFrzD d s m Q = d s m fun x m1 => ∃ p kvs, x = .ref p ∧ m1 p = some (.dct kvs) ∧ Q (dicOf kvs) (mdel m1 p) := rfl
theorem dFrzT_v {d : DE} {s : Sd} {m : Mu} {Q : DK} : dFrzT d s m Q = d s m fun x m1 => ∃ p kvs, x = .ref p ∧ m1 p = some (.dcT kvs) ∧ Q (dicTOf kvs) (mdel m1 p) := rfl
def dIZipL (a : DA) : DI := fun s m R => a s m fun ds m1 => match ds with
  | [.tup xs, .tup ys] => R (zipD xs ys) (fun _ => True) m1
  | [x, y] => ∃ xs ys, lsq m1 x = some xs ∧ lsq m1 y = some ys ∧ R (zipD xs ys) (fun m' => lsq m' x = some xs ∧ lsq m' y = some ys) m1
  | _ => False
end PD
namespace PD
open PySem PySem.Spec PyProof.Rows L2
/-- a loop that leaves the store as it was -/
theorem loop_chk {β : Type} {st : Mu → Prop} {g : DG} {tb : DS} {E : DEnds} {m : Mu} (Sl : Sd → Prop) (e : β → D) {us : List β} (hst : st m)
    (hs : ∀ u ∈ us, ∀ s (R : Sd → Mu → Prop), Sl s → (∀ s', Sl s' → R s' m) → g (e u) s m fun s2 m2 => tb { E with nx := R, ct := R, bk := E.nx } s2 m2)
    (he : ∀ s, Sl s → E.nx s m) {s : Sd} (h : Sl s) : dLoop st g tb E (us.map e) s m := by
  refine loop_inv (fun rem s' m' => ∃ pre post, us = pre ++ post ∧ rem = post.map e ∧ Sl s' ∧ m' = m) ?_ ?_ ⟨[], us, rfl, rfl, h, rfl⟩
  · rintro d rem s' m' R hR ⟨pre, post, e1, e2, a, rfl⟩
    cases post with
    | nil => cases e2
    | cons u post =>
      rw [List.map_cons] at e2
      injection e2 with e2 e3
      subst e2
      exact ⟨hst, hs u (by rw [e1]; simp) s' _ a fun s'' a' => hR _ _ ⟨pre ++ [u], post, by rw [e1]; simp, e3, a', rfl⟩⟩
  · rintro s' m' ⟨pre, post, e1, e2, a, rfl⟩
    exact ⟨hst, he _ a⟩
/-- a loop with a store of its own, by an invariant over what is done -/
theorem loop_pre {β : Type} {st : Mu → Prop} {g : DG} {tb : DS} {E : DEnds} (J : List β → Sd → Mu → Prop) (e : β → D) {us : List β} (hst : ∀ pre s m, J pre s m → st m)
    (hs : ∀ pre u post, us = pre ++ u :: post → ∀ s m (R : Sd → Mu → Prop), J pre s m → (∀ s' m', J (pre ++ [u]) s' m' → R s' m') → g (e u) s m fun s2 m2 => tb { E with nx := R, ct := R, bk := E.nx } s2 m2)
    (he : ∀ s m, J us s m → E.nx s m) {s : Sd} {m : Mu} (h : J [] s m) : dLoop st g tb E (us.map e) s m := by
  refine loop_inv (fun rem s' m' => ∃ pre post, us = pre ++ post ∧ rem = post.map e ∧ J pre s' m') ?_ ?_ ⟨[], us, rfl, rfl, h⟩
  · rintro d rem s' m' R hR ⟨pre, post, e1, e2, a⟩
    cases post with
    | nil => cases e2
    | cons u post =>
      rw [List.map_cons] at e2
      injection e2 with e2 e3
      subst e2
      exact ⟨hst _ _ _ a, hs pre u post e1 s' m' _ a fun s'' m'' a' => hR _ _ ⟨pre ++ [u], post, by rw [e1]; simp, e3, a'⟩⟩
  · rintro s' m' ⟨pre, post, e1, e2, a⟩
    cases post with
    | cons u post => cases e2
    | nil =>
      rw [List.append_nil] at e1
      subst e1
      exact ⟨hst _ _ _ a, he _ _ a⟩
theorem comp_pT {β : Type} {st : Mu → Prop} {g : DG} {t : DT} {e : DE} {p : Addr} {s : Sd} {Q : DK} {m : Mu} (i : β → D) (o : β → D) (c : β → Bool) (hst : ∀ a, st (mset m p (.lst a))) {us : List β} (hz : us.length ≤ 100000)
    (h : ∀ u ∈ us, ∀ a (R1 : D → Mu → Prop) (R2 : Mu → Prop), (c u = true → R1 (o u) (mset m p (.lst a))) → (c u = false → R2 (mset m p (.lst a))) → g (i u) s (mset m p (.lst a)) fun s2 m2 => t s2 m2 fun b m3 => if b = true then e s2 m3 R1 else R2 m3)
    (hq : Q (.ref p) (mset m p (.lst ((us.filter c).map o)))) : dComp st g t e p s Q (us.map i) [] (mset m p (.lst [])) := comp_pureT (γ := Nat) i o c hst hz h hq
/-- all items kept -/
theorem comp_all {β : Type} {st : Mu → Prop} {g : DG} {e : DE} {p : Addr} {s : Sd} {Q : DK} {m : Mu} (i : β → D) (o : β → D) (hst : ∀ a, st (mset m p (.lst a))) {us : List β} (hz : us.length ≤ 100000)
    (h : ∀ u ∈ us, ∀ a (R1 : D → Mu → Prop), R1 (o u) (mset m p (.lst a)) → g (i u) s (mset m p (.lst a)) fun s2 m2 => e s2 m2 R1)
    (hq : Q (.ref p) (mset m p (.lst (us.map o)))) : dComp st g dYes e p s Q (us.map i) [] (mset m p (.lst [])) :=
  comp_pureT (γ := Nat) i o (fun _ => true) hst hz (fun u hu a R1 R2 k1 _ => by simpa [dYes] using h u hu a R1 (k1 rfl)) (by rw [filter_yes]; exact hq)
/-- {k: v for x in xs}, texts for keys, by what is made -/
theorem dcomp_pure {β : Type} {st : Mu → Prop} {g : DG} {tk te : DE} {p : Addr} {s : Sd} {Q : DK} {m : Mu} (e : β → D) (kv : β → Key × D) {us : List β} (hst : ∀ a, st (mset m p (.dct a))) (hz : us.length ≤ 100000)
    (hnd : (us.map fun u => (kv u).1).Nodup)
    (h : ∀ u ∈ us, ∀ a (R : D → D → Mu → Prop), (∀ y, toKey y = some (kv u).1 → R y (kv u).2 (mset m p (.dct a))) → g (e u) s (mset m p (.dct a)) fun s2 m2 => tk s2 m2 fun y m4 => te s2 m4 fun z m5 => R y z m5)
    (hq : Q (.ref p) (mset m p (.dct (us.map kv)))) : dDComp st g dYes tk te p s Q (us.map e) [] (mset m p (.dct [])) := by
  have go : ∀ (post pre : List β), us = pre ++ post → dDComp st g dYes tk te p s Q (post.map e) (pre.map kv) (mset m p (.dct (pre.map kv))) := by
    intro post
    induction post with
    | nil =>
      intro pre e1
      rw [List.append_nil] at e1
      subst e1
      exact ⟨hst _, mset_same, hq⟩
    | cons u post ih =>
      intro pre e1
      refine ⟨hst _, ?_⟩
      have hn : (kv u).1 ∉ (pre.map kv).map (·.1) := by
        rw [e1, List.map_append, List.nodup_append] at hnd
        intro hc
        rw [List.map_map] at hc
        exact hnd.2.2 _ hc _ (List.mem_cons_self ..) rfl
      have hput : putKD (pre.map kv) (kv u).1 (kv u).2 = (pre ++ [u]).map kv := by
        unfold putKD
        rw [if_neg, List.map_append]
        · rfl
        · intro c
          rw [List.any_eq_true] at c
          obtain ⟨x, h1, h2⟩ := c
          exact hn (List.mem_map.mpr ⟨x, h1, of_decide_eq_true h2⟩)
      have hl : (pre.map kv).length < sizeLine := by
        rw [List.length_map]
        have : pre.length < us.length := by rw [e1]; simp
        exact Nat.lt_of_lt_of_le (by omega : pre.length < 100000) (by decide)
      have := h u (by rw [e1]; simp) (pre.map kv) (fun y z m5 => ∃ k, toKey y = some k ∧ m5 p = some (.dct (pre.map kv)) ∧ (pre.map kv).length < sizeLine ∧ dDComp st g dYes tk te p s Q (post.map e) (putKD (pre.map kv) k z) (mset m5 p (.dct (putKD (pre.map kv) k z)))) fun y hy => by
        refine ⟨_, hy, mset_same, hl, ?_⟩
        rw [hput, mset_mset]
        exact ih (pre ++ [u]) (by rw [e1]; simp)
      simpa [dYes] using this
  exact go us [] rfl
end PD
namespace PD
open PySem PySem.Spec PyProof.Rows L2
section
variable {X : Cx} {P : Program} {w : World}
theorem ge_set0P {p pos : Pos} (hP : X.prog = P) (hw : X.w = w) (hg : Gl X "set") (hm : X.mg "set" = none) : GE X (.Call (.Name "set" p) [] [] pos) (dSet0 P w) := by
  subst hP hw; exact ge_set0 hg hm
theorem ge_saddP {o e : Expr} {es : List Expr} {de : DE} {da : DA} {apos cpos : Pos} (hP : X.prog = P) (hw : X.w = w) (ho : GE X o de) (ha : GA X (e :: es) da)
    (base9 : attributeBase o "add" X.env (eval o X.env) = eval o X.env := by rfl)
    (few9 : ((backTo cpos (starEach (e :: es) X.env)).all (fun x => !x.1) && (backToKw cpos (keywordEach [] X.env)).all (fun x => x.1.isSome)
      && decide ((e :: es).length + ([] : List Keyword).length + (if ([] : List Keyword).isEmpty then 0 else 1) < 30)) = true := by rfl)
    (line9 : (apos.endLine == cpos.line) = true := by rfl) (hs : starEach (e :: es) X.env = (false, eval e X.env) :: starEach es X.env := by rfl) (plain9 : (backTo cpos (starEach es X.env)).any (·.1) = false := by rfl) :
    GE X (.Call (.Attribute o "add" apos) (e :: es) [] cpos) (dSAdd P w de da) := by
  subst hP hw; exact ge_sadd ho ha base9 few9 line9 hs plain9
end
end PD
namespace PD
open PySem PySem.Spec PyProof.Rows L2
end PD
namespace PD
open PySem PySem.Spec PyProof.Rows L2
def dctTOf (m : Mu) : D → Option (List (List Key × D))
  | .dicT ks ds => some (ks.zip ds)
  | .ref a => match m a with | some (.dcT kvs) => some kvs | _ => none
  | _ => none
def toKeyT : D → Option (List Key)
  | .tup ds => toKeys ds
  | _ => none
def dGetTV (x y : D) (m : Mu) (Q : DK) : Prop := ∃ kvs, dctTOf m x = some kvs ∧ ∃ k, toKeyT y = some k ∧ ∃ d, valD kvs k = some d ∧ Q d m
def dInTV (f : Bool → Bool) (y x : D) (m : Mu) (Q : DK) : Prop := ∃ kvs, dctTOf m x = some kvs ∧ ∃ k, toKeyT y = some k ∧ Q (.bl (f (valD kvs k).isSome)) m
def dGet2TV (x y z : D) (m : Mu) (Q : DK) : Prop := ∃ kvs, dctTOf m x = some kvs ∧ ∃ k, toKeyT y = some k ∧ Q ((valD kvs k).getD z) m
def dDGetTU (dd dk : DE) : DE := fun s m Q => dd s m fun x m1 => dk s m1 fun y m2 => dGetTV x y m2 Q
def dDInTU (f : Bool → Bool) (dk dd : DE) : DE := fun s m Q => dk s m fun y m1 => dd s m1 fun x m2 => dInTV f y x m2 Q
def dDGet2TU (dd dk dx : DE) : DE := fun s m Q => dd s m fun x m1 => (dctTOf m1 x).isSome = true ∧ dk s m1 fun y m2 => dx s m2 fun z m3 => dGet2TV x y z m3 Q
def dDCompT (st : Mu → Prop) (g : DG) (t : DT) (tk te : DE) (p : Addr) (s : Sd) (Q : DK) : List D → List (List Key × D) → Mu → Prop
  | [], acc => fun m => st m ∧ m p = some (.dcT acc) ∧ Q (.ref p) m
  | d :: es, acc => fun m => st m ∧ g d s m fun s2 m2 => t s2 m2 fun b m3 =>
      if b = true then tk s2 m3 fun y m4 => te s2 m4 fun z m5 => ∃ k, toKeyT y = some k ∧ m5 p = some (.dcT acc) ∧ acc.length < sizeLine ∧ dDCompT st g t tk te p s Q es (putKD acc k z) (mset m5 p (.dcT (putKD acc k z))) else dDCompT st g t tk te p s Q es acc m3
def dDcT (di : DI) (g : DG) (t : DT) (tk te : DE) (vs : List Nat) : DE := fun s m Q => di s m fun es st m1 => ∀ p, m1 p = none → dDCompT st g t tk te p (wipeD s vs) Q es [] (mset m1 p (.dcT []))
def dFzT (i : Nat) (d : DS) : DS := fun E s m => d { E with nx := fun s' m' => ∃ p kvs, s'[i]? = some (some (.ref p)) ∧ m' p = some (.dcT kvs) ∧ E.nx (s'.set i (some (dicTOf kvs))) (mdel m' p) } s m
def dIsB (f : Bool → Bool) : D2 := fun x y m Q => match x, y with
  | .bl a, .bl b => Q (.bl (f (decide (a = b)))) m
  | _, _ => False
theorem dIsB_b {f : Bool → Bool} {a b : Bool} {m : Mu} {Q : DK} : dIsB f (.bl a) (.bl b) m Q = Q (.bl (f (decide (a = b)))) m := rfl
def dStrI : DC := fun ds m Q => match ds with
  | [.int i] => i.natAbs.log2 < 1920 ∧ Q (.str (toString i)) m
  | _ => False
theorem dStrI_i {i : Int} {m : Mu} {Q : DK} : dStrI [.int i] m Q = (i.natAbs.log2 < 1920 ∧ Q (.str (toString i)) m) := rfl
theorem toPs_get : ∀ {es : List D} {ps : List PyData} {j : Nat}, toPs es = some ps → (∀ e, es[j]? = some e → ∃ p, toP e = some p ∧ ps[j]? = some p) ∧ (∀ p, ps[j]? = some p → ∃ e, es[j]? = some e ∧ toP e = some p)
  | [], _, j, h => by cases h; exact ⟨fun e h => by simp at h, fun p h => by simp at h⟩
  | d :: es, _, j, h => by
    unfold toPs at h
    cases e1 : toP d with
    | none => rw [e1] at h; cases h
    | some p =>
      cases e2 : toPs es with
      | none => rw [e1, e2] at h; cases h
      | some ps =>
        rw [e1, e2] at h; cases h
        cases j with
        | zero => exact ⟨fun e h => by simp at h; subst h; exact ⟨p, e1, rfl⟩, fun q h => by simp at h; subst h; exact ⟨d, rfl, e1⟩⟩
        | succ j => exact ⟨fun e h => by simpa using (toPs_get e2).1 e (by simpa using h), fun q h => by simpa using (toPs_get e2).2 q (by simpa using h)⟩
def revT (x : Str) : Str := ⟨x.cps.toList.reverse.toArray⟩
def dRevT (d : DE) : DE := fun s m Q => d s m fun x m1 => ∃ z, x = .str z ∧ z.length ≤ sizeLine ∧ Q (.str (revT z)) m1
section
variable {X : Cx}
theorem revT_tx {l : List Nat} : revT (tx l) = tx l.reverse := by unfold revT; rw [cps_tx]; rfl
end
end PD
namespace PD
open PySem PySem.Spec PyProof.Rows L2
theorem units65 {k : Nat} {A : Around} (r : Room k A) : A.units + 65 < cLine := by have := r.un; omega
end PD
namespace PD
open PySem PySem.Spec PyProof.Rows L2 RZ
end PD
namespace PD
open PySem PySem.Spec PyProof.Rows L2 RZ
end PD
namespace PD
open PySem PySem.Spec PyProof.Rows L2 RZ
end PD
namespace PD
open PySem PySem.Spec PyProof.Rows L2
def dBML (d : DM) (a : DE) (b : DA) : DE := fun s m Q => a s m fun x m1 => (lsq m1 x).isSome = true ∧ b s m1 fun ds m2 => d x ds m2 Q
theorem ty_lsq {K : PySem.W.Frag} {H : Hp} {m : Mu} {d : D} {v : V} (rm : RM K H m) (r : Rep K H d v) (h : (lsq m d).isSome = true) : tyV K "list" v H := by
  obtain ⟨ds, e⟩ := Option.isSome_iff_exists.mp h
  obtain ⟨a, vs, rfl, s, _⟩ := lsq_rep rm r e
  exact .inl ⟨rfl, _, s⟩
theorem ge_bmL {X : Cx} {o e : Expr} {es : List Expr} {name : Str} {id : String} {apos cpos : Pos} {r : V → List V → Hp → VK → Prop} {d : DM} {da : DE} {db : DA} (slot : Slot "list" name id) (hty : typeOf (.builtin id) = pure (.type "method_descriptor")) (hm : MtR X id r) (lm : LM X.K r d) (ho : GE X o da) (ha : GA X (e :: es) db)
    (base9 : attributeBase o name X.env (eval o X.env) = eval o X.env := by rfl)
    (few9 : ((backTo cpos (starEach (e :: es) X.env)).all (fun x => !x.1) && (backToKw cpos (keywordEach [] X.env)).all (fun x => x.1.isSome)
      && decide ((e :: es).length + ([] : List Keyword).length + (if ([] : List Keyword).isEmpty then 0 else 1) < 30)) = true := by rfl)
    (line9 : (apos.endLine == cpos.line) = true := by rfl) (hs : starEach (e :: es) X.env = (false, eval e X.env) :: starEach es X.env := by rfl) (plain9 : (backTo cpos (starEach es X.env)).any (·.1) = false := by rfl) :
    GE X (.Call (.Attribute o name apos) (e :: es) [] cpos) (dBML d da db) := by
  obtain ⟨ta, p, l⟩ := ho.ex
  obtain ⟨tb, q, l2⟩ := ha.ex
  refine .of ⟨_, pe_bm PySem.F.plainAttrs_list slot hty hm p q base9 few9 line9 hs plain9, fun s H sd m Qd Q rs rm h k => ?_⟩
  refine l s H sd m _ _ rs rm h fun v H1 dv m1 t1 rm1 r1 h1 => ?_
  refine ⟨ty_lsq rm1 r1 h1.1, l2 s H1 sd m1 _ _ (rs.mono t1) rm1 h1.2 fun vs H2 ds m2 t2 rm2 r2 h2 => ?_⟩
  exact lm v vs H2 dv ds m2 Qd Q rm2 (r1.mono t2) r2 h2 fun v' H' dv' m' t' a b c => k v' H' dv' m' (t1.trans (t2.trans t')) a b c
end PD
namespace PD
open PySem PySem.Spec PyProof.Rows L2
section
variable {X : Cx}
def rCntP (K : PySem.W.Frag) : V → List V → Hp → VK → Prop := fun x xs H Q => ∃ (a : Addr) (y : V) (d : PyData) (ds : List PyData), x = V.ref a ∧ xs = [y] ∧ Dp K H (V.ref a) (.list ds) ∧ Dp K H y d ∧ PyData.plainAll ds = true ∧ d.plain = true ∧ d.depth ≤ 50 ∧ Q (.int (ds.countP fun z => PyData.eqv z d : Nat)) H
theorem mt_cntP (hu : X.A.units + 64 < cLine) : MtR X "list.count" (rCntP X.K) := by
  intro pn sh sg H x xs v us Q I rx rxs h
  obtain ⟨a, y, d, ds, rfl, rfl, hl, hy, p1, p2, dp, q⟩ := h
  cases rx
  obtain ⟨uy, rfl, ry⟩ := vals1 rxs
  obtain ⟨bs, r1⟩ := Dp.reads I d y uy hy ry
  cases hl with
  | lst hs ha =>
    obtain ⟨its, rv, pl, hz⟩ := I.list hs
    obtain ⟨as, r2⟩ := Dp.readsAll I ds _ its ha rv
    refine SeqAt.count_list_data (xs := ds) pl.isList (by simpa using r2) r1 p1 p2 ?_ ⟨.int (ds.countP fun z => PyData.eqv z d : Nat), H, I.tok _, ⟨_, rfl⟩, q⟩
    have := Nat.min_le_right (PyData.depthAll ds) d.depth
    omega
open Classical in
def dCount : DM := fun x ds m Q => ∃ es d, ds = [d] ∧ lsq m x = some es ∧ plns es = true ∧ pln d = true ∧ dep d ≤ 50 ∧ Q (.int (es.countP fun e => decide (e = d) : Nat)) m
open Classical in
theorem cnt_eq {d : D} {p : PyData} (h2 : pln d = true) (u : toP d = some p) : ∀ {es : List D} {ps : List PyData}, plns es = true → toPs es = some ps → (ps.countP fun z => PyData.eqv z p) = es.countP fun e => decide (e = d)
  | [], _, _, h => by cases h; rfl
  | e :: es, _, h1, h => by
    obtain ⟨g1, g2⟩ := Bool.and_eq_true_iff.mp (show (pln e && plns es) = true by simpa [plns] using h1)
    unfold toPs at h
    cases e1 : toP e with
    | none => rw [e1] at h; cases h
    | some q =>
      cases e2 : toPs es with
      | none => rw [e1, e2] at h; cases h
      | some qs =>
        rw [e1, e2] at h
        cases h
        rw [List.countP_cons, List.countP_cons, cnt_eq h2 u g2 e2]
        congr 1
        by_cases c : e = d
        · rw [if_pos ((eqv_iff e d q p g1 h2 e1 u).mpr c), if_pos (by simpa using c)]
        · rw [if_neg (fun z => c ((eqv_iff e d q p g1 h2 e1 u).mp z)), if_neg (by simpa using c)]
theorem lm_count {K : PySem.W.Frag} : LM K (rCntP K) dCount := fun x vs H dx ds m Qd Q rm rx r h k => by
  obtain ⟨es, d, rfl, e1, p1, p2, d1, q⟩ := h
  obtain ⟨v, rfl, rv⟩ := repL1 r
  obtain ⟨a, us, rfl, sl, r2⟩ := lsq_rep rm rx e1
  obtain ⟨ps, t1, t2, t3, t4⟩ := toPs_pln es p1
  obtain ⟨p, u1, u2, u3, u4⟩ := toP_pln d p2
  refine ⟨a, v, p, ps, rfl, rfl, .lst sl (r2.dp t1), rv.dp u1, t2, u2, by rw [u3]; exact d1, ?_⟩
  rw [cnt_eq p2 u1 p1 t1]
  exact k _ H _ m (.refl H) rm (.int _) q
def rRemP (K : PySem.W.Frag) : V → List V → Hp → VK → Prop := fun x xs H Q => ∃ (a : Addr) (y : V) (d : PyData) (ds : List PyData) (ws : List V) (j : Nat), x = V.ref a ∧ xs = [y] ∧ H a = some (.lst ws) ∧ DpAll K H ws ds ∧ Dp K H y d ∧ PyData.plainAll ds = true ∧ d.plain = true ∧ d.depth ≤ 50 ∧ SeqAt.dataPlace ds d = some j ∧ Q .non (upd H a (.lst (ws.eraseIdx j)))
theorem mt_remP (hu : X.A.units + 64 < cLine) : MtR X "list.remove" (rRemP X.K) := by
  intro pn sh sg H x xs v us Q I rx rxs h
  obtain ⟨a, y, d, ds, ws, j, rfl, rfl, hH, ha, hy, p1, p2, dp, hj, q⟩ := h
  cases rx
  obtain ⟨uy, rfl, ry⟩ := vals1 rxs
  obtain ⟨bs, r1⟩ := Dp.reads I d y uy hy ry
  obtain ⟨z, its, n, r, hl, e⟩ := I.lstM hH
  obtain ⟨as, r2⟩ := Dp.readsAll I ds _ its ha r
  refine SeqAt.remove_list_data (xs := ds) (j := j) ⟨_, e, rfl, n, rfl⟩ (by simpa using r2) r1 p1 p2 ?_ hj (by rw [List.size_toArray]; omega) ⟨.non, _, I.lset (its' := its.eraseIdx j) hH e ?_ (r.eraseIdx j) ?_, rfl, q⟩
  · have := Nat.min_le_right (PyData.depthAll ds) d.depth
    omega
  · simp
  · exact Nat.le_trans (List.length_eraseIdx_le _ _) z
def dRemove : DM := fun x ds m Q => ∃ a es d j, ds = [d] ∧ lstOf m x = some (a, es) ∧ plns es = true ∧ pln d = true ∧ dep d ≤ 50 ∧ es[j]? = some d ∧ (∀ i, i < j → es[i]? ≠ some d) ∧ Q .non (mset m a (.lst (es.eraseIdx j)))
theorem lm_remove {K : PySem.W.Frag} : LM K (rRemP K) dRemove := fun x vs H dx ds m Qd Q rm rx r h k => by
  obtain ⟨a, es, d, j, rfl, e1, p1, p2, d1, g1, g2, q⟩ := h
  obtain ⟨v, rfl, rv⟩ := repL1 r
  obtain ⟨rfl, rfl, _, us, e2, r2⟩ := lst_rep rm rx e1
  obtain ⟨ps, t1, t2, t3, t4⟩ := toPs_pln es p1
  obtain ⟨p, u1, u2, u3, u4⟩ := toP_pln d p2
  refine ⟨a, v, p, ps, us, j, rfl, rfl, e2, r2.dp t1, rv.dp u1, t2, u2, by rw [u3]; exact d1, ?_, k _ _ _ _ (.lst e2) (rm.setL e2 (r2.erase j)) .non q⟩
  obtain ⟨p', w1, w2⟩ := (toPs_get t1).1 d g1
  rw [u1] at w1; cases w1
  unfold SeqAt.dataPlace
  rw [List.findIdx?_eq_some_iff_getElem]
  obtain ⟨hj, ej⟩ := List.getElem?_eq_some_iff.mp w2
  refine ⟨hj, ?_, fun i hi => ?_⟩
  · rw [ej]; exact (eqv_iff d d p p p2 p2 u1 u1).mpr rfl
  · obtain ⟨e, f1, f2⟩ := (toPs_get t1).2 (ps[i]'(by omega)) (List.getElem?_eq_getElem (by omega))
    have hpe : pln e = true := plns_iff.mp p1 e (List.mem_of_getElem? f1)
    intro c
    have := (eqv_iff e d _ p hpe p2 f2 u1).mp c
    subst this
    exact g2 i hi f1
end
end PD
namespace PD
open PySem PySem.Spec PyProof.Rows L2
structure KTab (K : PySem.W.Frag) (w : World) (d : Addr) (tab : List (Str × List Str)) : Prop where
  kd : ∃ es n, KDict K w d es n
  at_ : ∀ k zs, (k, zs) ∈ tab → ∃ t, PySem.W.nsIn K d k = some (some (.ref t)) ∧ ∀ H, SqT K H t (zs.map V.str)
theorem ix_kd {X : Cx} {d : Addr} {es : Array DictEntry} {n : Nat} (D : KDict X.K X.w d es n) : IxR X (fun x y H Q => ∃ (z : Str) (u0 : Value) (v0 : V), x = .ref d ∧ y = .str z ∧ PySem.W.nsIn X.K d z = some (some u0) ∧ RelV v0 u0 ∧ Q v0 H) := by
  intro value slice pins s σ H x y v u Q I rx ry h hs
  have g := op_item_kd D pins s σ H x y v u Q I rx ry h
  obtain ⟨z, u0, v0, rfl, rfl, e, r, q⟩ := h
  cases rx
  exact tail_any (kd_type D I) F.slot_dict_getitem.lookup g hs
theorem inV_str {z : Str} : ∀ {zs : List Str}, inV (.str z) (zs.map V.str) = decide (z ∈ zs) := by
  intro zs
  induction zs with
  | nil => rfl
  | cons a zs ih =>
    rw [show inV (.str z) ((a :: zs).map V.str) = (eqV (.str a) (.str z) || inV (.str z) (zs.map V.str)) from rfl, ih]
    rw [show eqV (.str a) (.str z) = decide (a = z) from rfl]
    by_cases h : a = z
    · simp [h]
    · have h' : ¬ z = a := fun e => h e.symm
      simp [h, h']
def dInKd (tab : List (Str × List Str)) (dl dk : DE) : DE := fun s m Q => dl s m fun x m1 => dk s m1 fun y m2 => match x with
  | .str z => match y with
    | .str k => ∃ zs, (k, zs) ∈ tab ∧ Q (.bl (decide (z ∈ zs))) m2
    | _ => False
  | _ => False
theorem ge_inKd {X : Cx} {l i : Expr} {x : Str} {p pos pos' : Pos} {d : Addr} {tab : List (Str × List Str)} {dl dk : DE} (hg : Gl X x) (hmg : X.mg x = some (.ref d)) (T : KTab X.K X.w d tab) (hl : GE X l dl) (hi : GE X i dk)
    (hs : PlainIx i := by exact fun _ _ => rfl) (hm : behindInMarks .In (.Subscript (.Name x p) i pos') = false := by rfl) (hd : (x == ("__debug__" : Str)) = false := by decide) :
    GE X (.Compare l [.In] [.Subscript (.Name x p) i pos'] pos) (dInKd tab dl dk) := by
  obtain ⟨tl, pl, ll⟩ := hl.ex
  obtain ⟨ti, pi, li⟩ := hi.ex
  obtain ⟨es, n, D⟩ := T.kd
  refine .of ⟨_, pe_cmpR op_in_seq pl (pe_ix (ix_kd D) (pe_glob (v := .ref d) hg hmg rfl hd) pi hs) hm, fun s H sd m Qd Q rs rm h k => ?_⟩
  refine ll s H sd m _ _ rs rm h fun v H1 dv m1 t1 rm1 r1 h1 => ?_
  refine li s H1 sd m1 _ _ (rs.mono t1) rm1 h1 fun u H2 du m2 t2 rm2 r2 h2 => ?_
  cases r1 with
  | str z =>
    cases r2 with
    | str k' =>
      obtain ⟨zs, hin, q⟩ := h2
      obtain ⟨t, e1, sq⟩ := T.at_ k' zs hin
      refine ⟨k', .ref t, .ref t, rfl, rfl, e1, rfl, t, zs.map V.str, rfl, .inr (sq H2), rfl, List.all_eq_true.mpr fun y hy => ?_, ?_⟩
      · obtain ⟨a, _, rfl⟩ := List.mem_map.mp hy
        rfl
      · rw [inV_str]
        exact k _ H2 _ m2 (t1.trans t2) rm2 (.bl _) q
    | _ => exact h2.elim
  | _ => exact h2.elim
end PD
namespace Hd
open PySem PySem.Spec PyProof.Rows L2 He PD
def tabB (K : PySem.W.Frag) (d : Addr) (tab : List (Str × List Str)) : Bool := tab.all fun q => match PySem.W.nsIn K d q.1 with
  | some (some (.ref t)) => (match K.lookup t with
    | some ⟨.type c, _, .seq its _, _⟩ => decide (c = "tuple") && (decide (its.size ≤ sizeLine) && relAll (q.2.map V.str) its.toList)
    | _ => false)
  | _ => false
theorem tabB_ok {K : PySem.W.Frag} {d : Addr} {tab : List (Str × List Str)} (h : tabB K d tab = true) {k : Str} {zs : List Str} (hq : (k, zs) ∈ tab) : ∃ t, PySem.W.nsIn K d k = some (some (.ref t)) ∧ ∀ H, SqT K H t (zs.map V.str) := by
  have h2 := List.all_eq_true.mp h (k, zs) hq
  dsimp only at h2
  split at h2
  · rename_i t e
    refine ⟨t, e, fun H => ?_⟩
    split at h2
    · rename_i c od its n sl q
      obtain ⟨h3, h4⟩ := ba h2
      obtain ⟨h5, h6⟩ := ba h4
      exact .inr ⟨_, its, n, q, congrArg Value.type (of_decide_eq_true h3), rfl, of_decide_eq_true h5, relAll_ok h6⟩
    · cases h2
  · cases h2
theorem ktab {K : PySem.W.Frag} {w : World} {d : Addr} {tab : List (Str × List Str)} (h1 : ∃ es n, KDict K w d es n) (h2 : tabB K d tab = true) : KTab K w d tab := ⟨h1, fun _ _ hq => tabB_ok h2 hq⟩
def excB (K : PySem.W.Frag) (D : Addr) : Bool := xfB K D && (decide (PySem.W.findIn K (.ref D) "__class__" = some (some (.builtin "object.__class__"))) && (decide (PySem.W.specialIn K (.builtin "object.__class__") "__get__" = some (some (.builtin "getset_descriptor.__get__"))) && (decide (PySem.W.takesIn K (.builtin "object.__class__") = some true) && (decide (PySem.W.mroIn K D (.type "object") = some true) && (PySem.W.clsIn K D).isSome))))
theorem excB_xf {K : PySem.W.Frag} {D : Addr} (h : excB K D = true) : XfC K D := xfB_ok (ba h).1
theorem excB_cls {K : PySem.W.Frag} {D : Addr} (h : excB K D = true) : (PySem.W.clsIn K D).isSome = true := (ba (ba (ba (ba (ba h).2).2).2).2).2
theorem excB_ok {K : PySem.W.Frag} {D : Addr} (h : excB K D = true) : ExcC K D := by
  have x := excB_xf h
  obtain ⟨_, h⟩ := ba h
  obtain ⟨h1, h⟩ := ba h
  obtain ⟨h2, h⟩ := ba h
  obtain ⟨h3, h⟩ := ba h
  obtain ⟨h4, _⟩ := ba h
  exact ⟨x.ga, x.gg, x.exC, x.hdC, of_decide_eq_true h1, of_decide_eq_true h2, of_decide_eq_true h3, of_decide_eq_true h4⟩
def kitB (K : PySem.W.Frag) (x : Str) (v : Value) (b : Bool) : Bool := decide (PySem.W.kitOne K (.ref (ga K x)) v = some b)
theorem kitB_ok {K : PySem.W.Frag} {x : Str} {v : Value} {b : Bool} (h : kitB K x v b = true) : PySem.W.kitOne K (.ref (ga K x)) v = some b := of_decide_eq_true h
theorem exm_ok2 {K : PySem.W.Frag} {x y : Str} {b : Bool} (h : (Fa.exm x y b).ok K = true) : PySem.W.exmOne K (.ref (ga K x)) (.ref (ga K y)) = some b := of_decide_eq_true h
end Hd
namespace K22
open PySem PySem.Spec PyProof.Rows L2
set_option maxHeartbeats 0
def topS (i : Nat) : Stmt := PySem.Challenge.pw_chooseonce_k22_asks_let_and_barred.main.body.getD i (.Pass ⟨0, 0, 0, 0⟩)
def iniS (i j : Nat) : Stmt := match topS i with | .ClassDef _ _ _ body _ _ _ _ _ _ _ => body.getD j (.Pass ⟨0, 0, 0, 0⟩) | _ => .Pass ⟨0, 0, 0, 0⟩
abbrev s_judges_of : Stmt := topS 2
abbrev s_asks_in : Stmt := topS 3
abbrev s_has_first : Stmt := topS 4
abbrev s_all_asks : Stmt := topS 5
abbrev s_own_judge : Stmt := topS 6
abbrev s_kinds_of : Stmt := topS 18
abbrev s_part_places : Stmt := topS 19
abbrev s_sign_places : Stmt := topS 20
abbrev s_run_places : Stmt := topS 21
abbrev s_mark_places : Stmt := topS 22
abbrev s_kinds_by_maker : Stmt := topS 23
abbrev s__kind_of : Stmt := topS 24
abbrev s__refs_to : Stmt := topS 25
abbrev s_all_ways : Stmt := topS 35
abbrev s_look_formulas : Stmt := topS 38
abbrev s_look_asks : Stmt := topS 39
abbrev s__first_told : Stmt := topS 40
abbrev s__look_makers_of : Stmt := topS 41
abbrev s__mentions_in : Stmt := topS 42
abbrev s__look_mention : Stmt := topS 43
abbrev s__fits : Stmt := topS 44
abbrev s__is_let : Stmt := topS 45
abbrev s__may_lead : Stmt := topS 46
abbrev s_look_names : Stmt := topS 48
abbrev s__look_list : Stmt := topS 49
abbrev s_look_mentions : Stmt := topS 51
abbrev s_look_makers : Stmt := topS 52
abbrev s_look_tests : Stmt := topS 53
abbrev s__look_name : Stmt := topS 54
abbrev s_has_only : Stmt := topS 56
abbrev s_look_signs : Stmt := topS 58
abbrev s__words_of : Stmt := topS 59
abbrev s__letters_of : Stmt := topS 60
abbrev s_Book___init__ : Stmt := iniS 62 0
abbrev s_Book_asks : Stmt := iniS 62 12
abbrev s_Book_ask : Stmt := iniS 62 13
abbrev s__look_all : Stmt := topS 63
abbrev s__told_by : Stmt := topS 64
abbrev s__formulas_of : Stmt := topS 65
abbrev s__law_pick : Stmt := topS 67
abbrev s__law_same : Stmt := topS 68
abbrev s__law_names : Stmt := topS 69
abbrev s__law_judges : Stmt := topS 70
abbrev s__law_basic : Stmt := topS 71
abbrev s__law_right : Stmt := topS 72
abbrev s__law_taken : Stmt := topS 73
abbrev s__law_wish : Stmt := topS 74
abbrev s__law_framed : Stmt := topS 75
abbrev s__law_walk : Stmt := topS 76
abbrev s__law_due : Stmt := topS 77
abbrev s__law_told : Stmt := topS 78
abbrev s_law : Stmt := topS 79
abbrev si_TwiceNamed : Stmt := iniS 10 0
abbrev si_BadSign : Stmt := iniS 11 0
abbrev si_NoName : Stmt := iniS 12 0
abbrev si_BadMaker : Stmt := iniS 13 0
abbrev si_BadRef : Stmt := iniS 14 0
abbrev si_Missing : Stmt := iniS 15 0
abbrev si_BadAsk : Stmt := iniS 16 0
def hdn0 : List PySem.Str := ["_wall", "judges_of", "asks_in", "has_first", "all_asks", "own_judge", "ChooseError", "LookError", "TwiceNamed", "BadSign", "NoName", "BadMaker", "BadRef", "Missing", "BadAsk", "kinds_of", "part_places", "sign_places", "run_places", "mark_places"]
def hdn1 : List PySem.Str := ["kinds_by_maker", "_kind_of", "_refs_to", "SIGNS", "ROWS", "PAIRS", "NUMBERS", "START", "LOTS", "JUDGES", "ASKS", "all_ways", "SORTS_LET", "look_formulas", "look_asks", "_first_told", "_look_makers_of", "_mentions_in", "_look_mention", "_fits"]
def hdn2 : List PySem.Str := ["_is_let", "_may_lead", "look_names", "_look_list", "look_mentions", "look_makers", "look_tests", "_look_name", "has_only", "look_signs", "_words_of", "_letters_of", "Book", "_look_all", "_told_by", "_formulas_of", "_law_pick", "_law_same", "_law_names", "_law_judges"]
def hdn3 : List PySem.Str := ["_law_basic", "_law_right", "_law_taken", "_law_wish", "_law_framed", "_law_walk", "_law_due", "_law_told"]
def hdn : List PySem.Str := hdn0 ++ hdn1 ++ hdn2 ++ hdn3
def hdf0 : List He.Fa := [.noat "TwiceNamed" "name", .glo "TwiceNamed", .noat "BadSign" "word", .glo "BadSign", .noat "NoName" "name", .glo "NoName", .noat "BadMaker" "maker", .glo "BadMaker", .noat "BadRef" "maker", .glo "BadRef", .noat "Missing" "maker", .noat "Missing" "judge", .glo "Missing", .noat "BadAsk" "name", .glo "BadAsk", .cls "Book", .glo "Book", .noat "Book" "program", .noat "Book" "signs", .noat "Book" "rows"]
def hdf1 : List He.Fa := [.noat "Book" "start", .noat "Book" "_ways", .noat "Book" "_kinds", .noat "Book" "_pairs", .noat "Book" "_numbers", .noat "Book" "_sorts", .noat "Book" "_formulas", .noat "Book" "_asks", .glo "judges_of", .glo "asks_in", .glo "has_first", .glo "all_asks", .glo "own_judge", .glo "kinds_of", .glo "part_places", .glo "sign_places", .glo "run_places", .glo "mark_places", .glo "kinds_by_maker", .glo "_kind_of"]
def hdf2 : List He.Fa := [.glo "_refs_to", .glo "all_ways", .glo "look_formulas", .glo "look_asks", .glo "_first_told", .glo "_look_makers_of", .glo "_mentions_in", .glo "_look_mention", .glo "_fits", .glo "_is_let", .glo "_may_lead", .glo "look_names", .glo "_look_list", .glo "look_mentions", .glo "look_makers", .glo "look_tests", .glo "_look_name", .glo "has_only", .glo "look_signs", .glo "_words_of"]
def hdf3 : List He.Fa := [.glo "_letters_of", .mkr "Book", .meth "Book" "asks", .meth "Book" "ask", .glo "_look_all", .glo "_told_by", .glo "_formulas_of", .glo "_law_pick", .glo "_law_same", .glo "_law_names", .glo "_law_judges", .glo "_law_basic", .glo "_law_right", .glo "_law_taken", .glo "_law_wish", .glo "_law_framed", .glo "_law_walk", .glo "_law_due", .glo "_law_told", .glo "law"]
def hdf4 : List He.Fa := [.free "tuple", .free "len", .free "enumerate", .free "all", .free "set", .free "int", .free "range", .free "isinstance", .free "str", .free "bool", .free "min", .free "list", .int "SIGNS" (1), .int "ROWS" (2), .int "PAIRS" (3), .int "NUMBERS" (4), .int "START" (5), .int "LOTS" (6), .int "JUDGES" (7), .int "ASKS" (8)]
def hdf5 : List He.Fa := [.glo "SORTS_LET", .glo "LookError", .glo "ChooseError", .free "ValueError", .exm "NoName" "ChooseError" true, .exm "BadAsk" "ChooseError" true]
def hdf : List He.Fa := hdf0 ++ hdf1 ++ hdf2 ++ hdf3 ++ hdf4 ++ hdf5
def hde0 : List PySem.Str := ["TwiceNamed", "BadSign", "NoName", "BadMaker", "BadRef", "Missing", "BadAsk"]
def hde : List PySem.Str := hde0
def hdd0 : List Hd.DF := [⟨("TwiceNamed", some "__init__"), "__init__", "TwiceNamed.__init__", si_TwiceNamed⟩, ⟨("BadSign", some "__init__"), "__init__", "BadSign.__init__", si_BadSign⟩, ⟨("NoName", some "__init__"), "__init__", "NoName.__init__", si_NoName⟩, ⟨("BadMaker", some "__init__"), "__init__", "BadMaker.__init__", si_BadMaker⟩, ⟨("BadRef", some "__init__"), "__init__", "BadRef.__init__", si_BadRef⟩, ⟨("Missing", some "__init__"), "__init__", "Missing.__init__", si_Missing⟩, ⟨("BadAsk", some "__init__"), "__init__", "BadAsk.__init__", si_BadAsk⟩, ⟨("judges_of", none), "judges_of", "judges_of", s_judges_of⟩, ⟨("asks_in", none), "asks_in", "asks_in", s_asks_in⟩, ⟨("has_first", none), "has_first", "has_first", s_has_first⟩, ⟨("all_asks", none), "all_asks", "all_asks", s_all_asks⟩, ⟨("own_judge", none), "own_judge", "own_judge", s_own_judge⟩, ⟨("kinds_of", none), "kinds_of", "kinds_of", s_kinds_of⟩, ⟨("part_places", none), "part_places", "part_places", s_part_places⟩, ⟨("sign_places", none), "sign_places", "sign_places", s_sign_places⟩, ⟨("run_places", none), "run_places", "run_places", s_run_places⟩, ⟨("mark_places", none), "mark_places", "mark_places", s_mark_places⟩, ⟨("kinds_by_maker", none), "kinds_by_maker", "kinds_by_maker", s_kinds_by_maker⟩, ⟨("_kind_of", none), "_kind_of", "_kind_of", s__kind_of⟩, ⟨("_refs_to", none), "_refs_to", "_refs_to", s__refs_to⟩]
def hdd1 : List Hd.DF := [⟨("all_ways", none), "all_ways", "all_ways", s_all_ways⟩, ⟨("look_formulas", none), "look_formulas", "look_formulas", s_look_formulas⟩, ⟨("look_asks", none), "look_asks", "look_asks", s_look_asks⟩, ⟨("_first_told", none), "_first_told", "_first_told", s__first_told⟩, ⟨("_look_makers_of", none), "_look_makers_of", "_look_makers_of", s__look_makers_of⟩, ⟨("_mentions_in", none), "_mentions_in", "_mentions_in", s__mentions_in⟩, ⟨("_look_mention", none), "_look_mention", "_look_mention", s__look_mention⟩, ⟨("_fits", none), "_fits", "_fits", s__fits⟩, ⟨("_is_let", none), "_is_let", "_is_let", s__is_let⟩, ⟨("_may_lead", none), "_may_lead", "_may_lead", s__may_lead⟩, ⟨("look_names", none), "look_names", "look_names", s_look_names⟩, ⟨("_look_list", none), "_look_list", "_look_list", s__look_list⟩, ⟨("look_mentions", none), "look_mentions", "look_mentions", s_look_mentions⟩, ⟨("look_makers", none), "look_makers", "look_makers", s_look_makers⟩, ⟨("look_tests", none), "look_tests", "look_tests", s_look_tests⟩, ⟨("_look_name", none), "_look_name", "_look_name", s__look_name⟩, ⟨("has_only", none), "has_only", "has_only", s_has_only⟩, ⟨("look_signs", none), "look_signs", "look_signs", s_look_signs⟩, ⟨("_words_of", none), "_words_of", "_words_of", s__words_of⟩, ⟨("_letters_of", none), "_letters_of", "_letters_of", s__letters_of⟩]
def hdd2 : List Hd.DF := [⟨("Book", some "__init__"), "__init__", "Book.__init__", s_Book___init__⟩, ⟨("Book", some "asks"), "asks", "Book.asks", s_Book_asks⟩, ⟨("Book", some "ask"), "ask", "Book.ask", s_Book_ask⟩, ⟨("_look_all", none), "_look_all", "_look_all", s__look_all⟩, ⟨("_told_by", none), "_told_by", "_told_by", s__told_by⟩, ⟨("_formulas_of", none), "_formulas_of", "_formulas_of", s__formulas_of⟩, ⟨("_law_pick", none), "_law_pick", "_law_pick", s__law_pick⟩, ⟨("_law_same", none), "_law_same", "_law_same", s__law_same⟩, ⟨("_law_names", none), "_law_names", "_law_names", s__law_names⟩, ⟨("_law_judges", none), "_law_judges", "_law_judges", s__law_judges⟩, ⟨("_law_basic", none), "_law_basic", "_law_basic", s__law_basic⟩, ⟨("_law_right", none), "_law_right", "_law_right", s__law_right⟩, ⟨("_law_taken", none), "_law_taken", "_law_taken", s__law_taken⟩, ⟨("_law_wish", none), "_law_wish", "_law_wish", s__law_wish⟩, ⟨("_law_framed", none), "_law_framed", "_law_framed", s__law_framed⟩, ⟨("_law_walk", none), "_law_walk", "_law_walk", s__law_walk⟩, ⟨("_law_due", none), "_law_due", "_law_due", s__law_due⟩, ⟨("_law_told", none), "_law_told", "_law_told", s__law_told⟩, ⟨("law", none), "law", "law", s_law⟩]
def hdd : List Hd.DF := hdd0 ++ hdd1 ++ hdd2
def hdt0 : List (PySem.Str × List PySem.Str) := [("SORTS_LET", ["least", "greatest", "best", "ends", "within", "spread", "total", "names", "each"])]
def hdt : List (PySem.Str × List PySem.Str) := hdt0
def hdx0 : List (PySem.W.Frag → Bool) := [(fun K => Hd.tabB K (He.ga K "SORTS_LET") [("least", ["number"]), ("greatest", ["number"]), ("best", ["number"]), ("ends", ["number"]), ("within", ["number"]), ("spread", ["number", "product"]), ("total", ["product"]), ("names", ["text"]), ("each", ["number", "text"])]), (fun K => Hd.kitB K "NoName" (.ref (He.ga K "LookError")) true), (fun K => Hd.kitB K "NoName" (.type "ValueError") true), (fun K => Hd.kitB K "NoName" (.ref (He.ga K "BadAsk")) false), (fun K => Hd.kitB K "NoName" (.ref (He.ga K "NoName")) true), (fun K => Hd.excB K (He.ga K "NoName")), (fun K => Hd.kitB K "BadAsk" (.ref (He.ga K "LookError")) true), (fun K => Hd.kitB K "BadAsk" (.type "ValueError") true), (fun K => Hd.kitB K "BadAsk" (.ref (He.ga K "BadAsk")) true), (fun K => Hd.kitB K "BadAsk" (.ref (He.ga K "NoName")) false), (fun K => Hd.excB K (He.ga K "BadAsk"))]
def hdx : List (PySem.W.Frag → Bool) := hdx0
def hda0 : List Addr := [3, 77, 64, 495, 496, 76, 63, 134, 210, 190, 209, 191, 133, 153, 172, 95, 152, 171, 114, 96, 115, 150, 402, 112, 207, 169, 188, 268, 493, 486, 131, 93, 596, 40, 46, 111, 187, 47, 53, 54]
def hda1 : List Addr := [206, 130, 27, 28, 216, 217, 221, 222, 228, 229, 235, 236, 242, 243, 249, 250, 254, 255, 259, 260, 266, 267, 34, 269, 270, 271, 272, 273, 274, 275, 276, 277, 281, 282, 286, 287, 293, 294, 300, 301]
def hda2 : List Addr := [305, 306, 312, 313, 317, 318, 322, 323, 329, 330, 334, 335, 341, 342, 346, 347, 353, 354, 360, 361, 367, 368, 372, 373, 379, 380, 384, 385, 389, 390, 401, 149, 485, 35, 492, 92, 39, 168, 506, 507]
def hda3 : List Addr := [511, 512, 518, 519, 525, 526, 532, 533, 537, 538, 544, 545, 551, 552, 558, 559, 563, 564, 568, 569, 573, 574, 580, 581, 585, 586, 590, 591, 595]
def hda : List Addr := hda0 ++ hda1 ++ hda2 ++ hda3
def hds : Hd.Fs := ⟨hdf, hde, hdd, hdt, hdx⟩
theorem hd_rf (w : World) : HandSHeadRun.RunEq (PySem.W.OpenLaw.row PySem.Challenge.rw_chooseonce_k22_asks_let_and_barred) (PySem.W.view (PySem.W.OpenLaw.row PySem.Challenge.rw_chooseonce_k22_asks_let_and_barred).prog [79]) (Hd.hook hds hda) (Hd.ob hds hda) 5000 hdn (w.withFollow "special-get-raises" false) := fun os => by kernel_rfl
theorem hd_rt (w : World) : HandSHeadRun.RunEq (PySem.W.OpenLaw.row PySem.Challenge.rw_chooseonce_k22_asks_let_and_barred) (PySem.W.view (PySem.W.OpenLaw.row PySem.Challenge.rw_chooseonce_k22_asks_let_and_barred).prog [79]) (Hd.hook hds hda) (Hd.ob hds hda) 5000 hdn (w.withFollow "special-get-raises" true) := fun os => by kernel_rfl
theorem hd_run (w : World) : HandSHeadRun.RunEq (PySem.W.OpenLaw.row PySem.Challenge.rw_chooseonce_k22_asks_let_and_barred) (PySem.W.view (PySem.W.OpenLaw.row PySem.Challenge.rw_chooseonce_k22_asks_let_and_barred).prog [79]) (Hd.hook hds hda) (Hd.ob hds hda) 5000 hdn w := PySem.W.byRow2 "special-get-raises" hd_rf hd_rt w
end K22
set_option maxHeartbeats 4000000
namespace PD
open PySem PySem.Spec PyProof.Rows L2
def dTupS : DC := fun ds m Q => ∃ x : Str, ds = [.str x] ∧ x.length ≤ 1000 ∧ Q (.tup (sgn x)) m
theorem dTupS_s {x : Str} {m : Mu} {Q : DK} : dTupS [.str x] m Q = (x.length ≤ 1000 ∧ Q (.tup (sgn x)) m) := propext ⟨fun ⟨y, e, h⟩ => by cases e; exact h, fun h => ⟨x, rfl, h⟩⟩
end PD
namespace Bk
open PySem PySem.Spec PyProof.Rows L2 PD
inductive MW | sign | none | run
  deriving DecidableEq
def MW.s : MW → Str
  | .sign => "sign"
  | .none => "none"
  | .run => "run"
inductive Mark | sign (l : List Nat) | none | run (lo : Int) (hi : Option Int)
def oi : Option Int → D
  | some i => .int i
  | none => .non
def Mark.d : Mark → D
  | .sign l => .tup [.str "sign", .str (tx l)]
  | .none => .tup [.str "none"]
  | .run lo hi => .tup [.str "run", .int lo, oi hi]
def Mark.w : Mark → MW
  | .sign _ => .sign
  | .none => .none
  | .run _ _ => .run
inductive Piece | lot (n : Str) | plain (ms : List Mark)
def Piece.d : Piece → D
  | .lot n => .tup [.str "lot", .str n]
  | .plain ms => .tup [.str "plain", .tup (ms.map Mark.d)]
abbrev Ref := Nat × Nat
def refD (r : Ref) : D := .tup [.int (r.1 : Int), .int (r.2 : Int)]
structure Test where
  nm : Str
  a : Ref
  b : Ref
def Test.d (t : Test) : D := .tup [.str t.nm, refD t.a, refD t.b]
structure Way where
  mr : Str
  ps : List Piece
  ts : List Test
def Way.d (w : Way) : D := .tup [.str w.mr, .tup (w.ps.map Piece.d), .tup (w.ts.map Test.d)]
abbrev Knd := Option (List MW)
def Piece.k : Piece → Knd
  | .lot _ => none
  | .plain ms => some (ms.map Mark.w)
def kindD : Knd → D
  | none => .str "lot"
  | some ws => .tup (ws.map fun w => .str w.s)
def Way.k (w : Way) : List Knd := w.ps.map Piece.k
def kindsD (ks : List Knd) : D := .tup (ks.map kindD)
def wordsD (ls : List (List Nat)) : D := .tup (ls.map fun l => .str (tx l))
def pairD (p : Str × List (List Nat)) : D := .tup [.str p.1, wordsD p.2]
def waysD (ws : List Way) : D := .tup (ws.map Way.d)
def lotD (l : Str × List Way) : D := .tup [.str l.1, waysD l.2]
structure Prog where
  sg : List Nat
  rows : Nat
  pairs : List (Str × List (List Nat))
  nums : List D
  start : Str
  lots : List (Str × List Way)
  js : List D
  as : List D
def Prog.d (p : Prog) : D := .tup [.str "program", .str (tx p.sg), .int (p.rows : Int), .tup (p.pairs.map pairD), .tup p.nums, .str p.start, .tup (p.lots.map lotD), .tup p.js, .tup p.as]
def Prog.ways (p : Prog) : List Way := p.lots.flatMap (·.2)
def fnd {α : Type} (l : List (Str × α)) (n : Str) : Option α := (l.find? fun p => decide (p.1 = n)).map (·.2)
def sDic {α : Type} (f : α → D) (l : List (Str × α)) : List (Key × D) := l.map fun p => (.inr p.1, f p.2)
theorem fnd_cons {α : Type} {p : Str × α} {l : List (Str × α)} {n : Str} : fnd (p :: l) n = if p.1 = n then some p.2 else fnd l n := by
  unfold fnd
  by_cases h : p.1 = n
  · rw [if_pos h, List.find?_cons_of_pos (by simpa using h)]; rfl
  · rw [if_neg h, List.find?_cons_of_neg (by simpa using h)]
theorem fnd_none {α : Type} {n : Str} : ∀ {l : List (Str × α)}, fnd l n = none ↔ n ∉ l.map (·.1)
  | [] => by simp [fnd]
  | p :: l => by
    rw [fnd_cons]
    by_cases h : p.1 = n
    · simp [h]
    · rw [if_neg h, fnd_none, List.map_cons, List.mem_cons, not_or]
      exact ⟨fun z => ⟨fun e => h e.symm, z⟩, fun z => z.2⟩
theorem fnd_mem {α : Type} {n : Str} {a : α} : ∀ {l : List (Str × α)}, fnd l n = some a → (n, a) ∈ l
  | [], h => by simp [fnd] at h
  | p :: l, h => by
    rw [fnd_cons] at h
    split at h
    · rename_i e; cases h; subst e; exact List.mem_cons_self ..
    · exact List.mem_cons_of_mem _ (fnd_mem h)
theorem fnd_nd {α : Type} {n : Str} {a : α} : ∀ {l : List (Str × α)}, (l.map (·.1)).Nodup → (n, a) ∈ l → fnd l n = some a
  | [], _, h => (List.not_mem_nil h).elim
  | p :: l, nd, h => by
    rw [List.map_cons, List.nodup_cons] at nd
    rw [fnd_cons]
    rcases List.mem_cons.mp h with e | h
    · subst e; rw [if_pos rfl]
    · rw [if_neg, fnd_nd nd.2 h]
      exact fun e => nd.1 (e ▸ List.mem_map.mpr ⟨_, h, rfl⟩)
theorem fnd_some {α : Type} {n : Str} {l : List (Str × α)} (h : n ∈ l.map (·.1)) : ∃ a, fnd l n = some a := by
  cases e : fnd l n with
  | some a => exact ⟨a, rfl⟩
  | none => exact absurd h (fnd_none.mp e)
theorem valD_s {α : Type} {f : α → D} {n : Str} : ∀ {l : List (Str × α)}, valD (sDic f l) (.inr n) = (fnd l n).map f
  | [] => rfl
  | p :: l => by
    have ih := valD_s (f := f) (n := n) (l := l)
    rw [fnd_cons]
    unfold sDic at ih ⊢
    rw [List.map_cons]
    by_cases h : p.1 = n
    · rw [if_pos h]; simp [valD, h]
    · rw [if_neg h, ← ih]
      have h' : ¬ (Sum.inr p.1 : Key) = .inr n := fun e => h (Sum.inr.inj e)
      simp [valD, h']
theorem put_new {α : Type} {f : α → D} {n : Str} {a : α} {l : List (Str × α)} (h : n ∉ l.map (·.1)) : putKD (sDic f l) (.inr n) (f a) = sDic f (l ++ [(n, a)]) := by
  unfold putKD
  rw [if_neg]
  · unfold sDic; rw [List.map_append]; rfl
  · intro e
    rw [List.any_eq_true] at e
    obtain ⟨kv, h1, h2⟩ := e
    unfold sDic at h1
    obtain ⟨p, h3, rfl⟩ := List.mem_map.mp h1
    exact h (List.mem_map.mpr ⟨p, h3, Sum.inr.inj (of_decide_eq_true h2)⟩)
theorem sDic_len {α : Type} {f : α → D} {l : List (Str × α)} : (sDic f l).length = l.length := by unfold sDic; rw [List.length_map]
def insK (acc : List (Str × List Knd)) (w : Way) : List (Str × List Knd) := if w.mr ∈ acc.map (·.1) then acc else acc ++ [(w.mr, w.k)]
def kbm (ws : List Way) : List (Str × List Knd) := ws.foldl insK []
theorem insK_keys {acc : List (Str × List Knd)} {w : Way} {n : Str} : n ∈ (insK acc w).map (·.1) ↔ n ∈ acc.map (·.1) ∨ n = w.mr := by
  unfold insK
  split
  · rename_i h
    exact ⟨.inl, fun z => z.elim id fun e => e ▸ h⟩
  · rw [List.map_append, List.mem_append]; simp
theorem foldK_keys : ∀ (ws : List Way) (acc : List (Str × List Knd)) (n : Str), n ∈ (ws.foldl insK acc).map (·.1) ↔ n ∈ acc.map (·.1) ∨ n ∈ ws.map Way.mr
  | [], acc, n => by simp
  | w :: ws, acc, n => by
    rw [List.foldl_cons, foldK_keys ws, insK_keys, List.map_cons, List.mem_cons, or_assoc]
theorem foldK_mem : ∀ (ws : List Way) (acc : List (Str × List Knd)) (x : Str × List Knd), x ∈ ws.foldl insK acc → x ∈ acc ∨ ∃ w ∈ ws, x = (w.mr, w.k)
  | [], acc, x, h => .inl h
  | w :: ws, acc, x, h => by
    rw [List.foldl_cons] at h
    rcases foldK_mem ws _ x h with h | ⟨v, hv, e⟩
    · unfold insK at h
      split at h
      · exact .inl h
      · rcases List.mem_append.mp h with h | h
        · exact .inl h
        · exact .inr ⟨w, List.mem_cons_self .., List.mem_singleton.mp h⟩
    · exact .inr ⟨v, List.mem_cons_of_mem _ hv, e⟩
theorem kbm_keys {ws : List Way} {n : Str} : n ∈ (kbm ws).map (·.1) ↔ n ∈ ws.map Way.mr := by
  unfold kbm; rw [foldK_keys]; simp
theorem kbm_fnd {ws : List Way} {w : Way} (hw : w ∈ ws) : ∃ v ∈ ws, v.mr = w.mr ∧ fnd (kbm ws) w.mr = some v.k := by
  obtain ⟨ks, e⟩ := fnd_some (kbm_keys.mpr (List.mem_map.mpr ⟨w, hw, rfl⟩))
  have := fnd_mem e
  rcases foldK_mem ws [] _ this with h | ⟨v, hv, e2⟩
  · exact (List.not_mem_nil h).elim
  · injection e2 with e3 e4
    exact ⟨v, hv, e3.symm, by rw [e, e4]⟩
theorem insK_len {acc : List (Str × List Knd)} {w : Way} : (insK acc w).length ≤ acc.length + 1 := by
  unfold insK; split
  · omega
  · rw [List.length_append, List.length_singleton]; omega
theorem foldK_len : ∀ (ws : List Way) (acc : List (Str × List Knd)), (ws.foldl insK acc).length ≤ acc.length + ws.length
  | [], acc => Nat.le_refl _
  | w :: ws, acc => by
    rw [List.foldl_cons, List.length_cons]
    have := foldK_len ws (insK acc w)
    have := insK_len (acc := acc) (w := w)
    omega
def refsOf (i : Nat) (S : MW → Bool) (ws : List MW) : List Ref := ((ws.zipIdx).filter fun p => S p.1).map fun p => (i, p.2)
def refsTo (S : MW → Bool) (ks : List Knd) : List Ref := (ks.zipIdx).flatMap fun p => match p.1 with | none => [] | some ws => refsOf p.2 S ws
abbrev isSg : MW → Bool := fun w => w == .sign
theorem enumD_map {α : Type} (f : α → D) : ∀ (l : List α) (n : Nat), enumD n (l.map f) = (l.zipIdx n).map fun p => .tup [.int (p.2 : Int), f p.1]
  | [], _ => rfl
  | x :: l, n => by rw [List.map_cons, enumD, List.zipIdx_cons, List.map_cons, enumD_map f l (n + 1)]
theorem refsOf_len {i : Nat} {S : MW → Bool} {ws : List MW} : (refsOf i S ws).length ≤ ws.length := by
  unfold refsOf
  rw [List.length_map]
  exact Nat.le_trans (List.length_filter_le _ _) (by rw [List.length_zipIdx]; exact Nat.le_refl _)
theorem flat_le {α β : Type} {f : α → List β} {n : Nat} : ∀ {l : List α}, (∀ x ∈ l, (f x).length ≤ n) → (l.flatMap f).length ≤ l.length * n
  | [], _ => by simp
  | x :: l, h => by
    rw [List.flatMap_cons, List.length_append, List.length_cons, Nat.succ_mul]
    have := flat_le (l := l) (f := f) (n := n) fun y hy => h y (List.mem_cons_of_mem _ hy)
    have := h x (List.mem_cons_self ..)
    omega
def lettersOf : Piece → List (List Nat)
  | .lot _ => []
  | .plain ms => ms.filterMap fun m => match m with | .sign l => some l | _ => none
def wayLetters (y : Way) : List (List Nat) := y.ps.flatMap lettersOf
def OverSg (sg l : List Nat) : Prop := (∀ c ∈ l, c ∈ sg) ∧ l.length ≤ 1000
def PieceOk (p : Prog) : Piece → Prop
  | .lot n => n ∈ p.lots.map (·.1)
  | .plain ms => ms.length ≤ 10 ∧ ∀ l, Mark.sign l ∈ ms → OverSg p.sg l
structure Sizes (p : Prog) : Prop where
  pr : p.pairs.length ≤ 100
  lt : p.lots.length ≤ 100
  wd : ∀ q ∈ p.pairs, q.2.length ≤ 100
  ws : ∀ l ∈ p.lots, l.2.length ≤ 100
  wy : ∀ w ∈ p.ways, w.ps.length ≤ 100 ∧ w.ts.length ≤ 100
structure Good (p : Prog) : Prop extends Sizes p where
  ll : (p.ways.flatMap wayLetters).length ≤ 100000
  ndP : (p.pairs.map (·.1)).Nodup
  ndL : (p.lots.map (·.1)).Nodup
  wp : ∀ q ∈ p.pairs, ∀ l ∈ q.2, OverSg p.sg l
  pc : ∀ w ∈ p.ways, ∀ q ∈ w.ps, PieceOk p q
  st : p.start ∈ p.lots.map (·.1)
  mkk : ∀ w ∈ p.ways, ∀ v ∈ p.ways, w.mr = v.mr → w.k = v.k
  ts : ∀ w ∈ p.ways, ∀ t ∈ w.ts, t.nm ∈ p.pairs.map (·.1) ∧ t.a ∈ refsTo isSg w.k ∧ t.b ∈ refsTo isSg w.k
theorem Sizes.ways {p : Prog} (h : Sizes p) : p.ways.length ≤ 10000 := by
  have := flat_le (f := fun l : Str × List Way => l.2) (n := 100) h.ws
  have h1 := h.lt
  unfold Prog.ways
  omega
def bkFs : List Str := ["program", "signs", "rows", "start", "_ways", "_kinds", "_pairs", "_numbers", "_sorts", "_formulas", "_asks"]
def bkVs (p : Prog) (nv sv fv av : D) : List D := [p.d, .str (tx p.sg), .int (p.rows : Int), .str p.start, dicOf (sDic waysD p.lots), dicOf (sDic kindsD (kbm p.ways)), dicOf (sDic wordsD p.pairs), nv, sv, fv, av]
def bookD (C : Addr) (p : Prog) (nv sv fv av : D) : D := .obj C bkFs (bkVs p nv sv fv av)
section
variable {p : Prog} {nv sv fv av : D}
theorem bk_program : lookF "program" bkFs (bkVs p nv sv fv av) = some p.d := by rfl
theorem bk_signs : lookF "signs" bkFs (bkVs p nv sv fv av) = some (.str (tx p.sg)) := by rfl
theorem bk_rows : lookF "rows" bkFs (bkVs p nv sv fv av) = some (.int (p.rows : Int)) := by rfl
theorem bk_start : lookF "start" bkFs (bkVs p nv sv fv av) = some (.str p.start) := by rfl
theorem bk_ways : lookF "_ways" bkFs (bkVs p nv sv fv av) = some (dicOf (sDic waysD p.lots)) := by rfl
theorem bk_kinds : lookF "_kinds" bkFs (bkVs p nv sv fv av) = some (dicOf (sDic kindsD (kbm p.ways))) := by rfl
theorem bk_pairs : lookF "_pairs" bkFs (bkVs p nv sv fv av) = some (dicOf (sDic wordsD p.pairs)) := by rfl
theorem bk_numbers : lookF "_numbers" bkFs (bkVs p nv sv fv av) = some nv := by rfl
theorem bk_sorts : lookF "_sorts" bkFs (bkVs p nv sv fv av) = some sv := by rfl
theorem bk_formulas : lookF "_formulas" bkFs (bkVs p nv sv fv av) = some fv := by rfl
theorem bk_asks : lookF "_asks" bkFs (bkVs p nv sv fv av) = some av := by rfl
theorem bk_m1 : lookF "ways" bkFs (bkVs p nv sv fv av) = none := by rfl
theorem bk_m2 : lookF "in_pairs" bkFs (bkVs p nv sv fv av) = none := by rfl
theorem bk_m3 : lookF "number_for" bkFs (bkVs p nv sv fv av) = none := by rfl
theorem bk_m4 : lookF "kinds" bkFs (bkVs p nv sv fv av) = none := by rfl
theorem bk_m5 : lookF "parts" bkFs (bkVs p nv sv fv av) = none := by rfl
theorem bk_m6 : lookF "lots" bkFs (bkVs p nv sv fv av) = none := by rfl
theorem bk_m7 : lookF "makers" bkFs (bkVs p nv sv fv av) = none := by rfl
theorem bk_m8 : lookF "judges" bkFs (bkVs p nv sv fv av) = none := by rfl
theorem bk_m9 : lookF "sort_of" bkFs (bkVs p nv sv fv av) = none := by rfl
theorem bk_ma : lookF "formula" bkFs (bkVs p nv sv fv av) = none := by rfl
theorem bk_mb : lookF "asks" bkFs (bkVs p nv sv fv av) = none := by rfl
theorem bk_mc : lookF "ask" bkFs (bkVs p nv sv fv av) = none := by rfl
end
theorem dMethV_bk {C : Addr} {mn : Str} {n : Nat} {sd : SpD} {p : Prog} {nv sv fv av : D} {a : (List D → Mu → Prop) → Prop} {Q : DK} : dMethV C mn n sd (bookD C p nv sv fv av) a Q = (lookF mn bkFs (bkVs p nv sv fv av) = none ∧ a fun es m2 => es.length + 1 = n ∧ sd (bookD C p nv sv fv av :: es) m2 Q) := dMethV_o
theorem dFldV_bk {C : Addr} {f : Str} {p : Prog} {nv sv fv av : D} {m : Mu} {Q : DK} : dFldV C f (bookD C p nv sv fv av) m Q = ∃ v, lookF f bkFs (bkVs p nv sv fv av) = some v ∧ Q v m := dFldV_o
theorem atI_5 {α : Type} {a b c d e f : α} {xs : List α} : atI (a :: b :: c :: d :: e :: f :: xs) 5 = some f := atI_nat (j := 5) rfl
theorem atI_6 {α : Type} {a b c d e f g : α} {xs : List α} : atI (a :: b :: c :: d :: e :: f :: g :: xs) 6 = some g := atI_nat (j := 6) rfl
theorem atI_7 {α : Type} {a b c d e f g h : α} {xs : List α} : atI (a :: b :: c :: d :: e :: f :: g :: h :: xs) 7 = some h := atI_nat (j := 7) rfl
theorem atI_8 {α : Type} {a b c d e f g h i : α} {xs : List α} : atI (a :: b :: c :: d :: e :: f :: g :: h :: i :: xs) 8 = some i := atI_nat (j := 8) rfl
section
variable {p : Prog} {m : Mu} {Q : DK}
theorem pd_sg : dIx p.d (.int 1) m Q = Q (.str (tx p.sg)) m := by
  unfold Prog.d
  rw [dIx_t]
  exact propext ⟨fun ⟨d, e, h⟩ => by cases (rfl : atI _ _ = some _).symm.trans e; exact h, fun h => ⟨_, rfl, h⟩⟩
theorem pd_rows : dIx p.d (.int 2) m Q = Q (.int (p.rows : Int)) m := by
  unfold Prog.d
  rw [dIx_t]
  exact propext ⟨fun ⟨d, e, h⟩ => by cases (rfl : atI _ _ = some _).symm.trans e; exact h, fun h => ⟨_, rfl, h⟩⟩
theorem pd_pairs : dIx p.d (.int 3) m Q = Q (.tup (p.pairs.map Bk.pairD)) m := by
  unfold Prog.d
  rw [dIx_t]
  exact propext ⟨fun ⟨d, e, h⟩ => by cases (rfl : atI _ _ = some _).symm.trans e; exact h, fun h => ⟨_, rfl, h⟩⟩
theorem pd_nums : dIx p.d (.int 4) m Q = Q (.tup p.nums) m := by
  unfold Prog.d
  rw [dIx_t]
  exact propext ⟨fun ⟨d, e, h⟩ => by cases (rfl : atI _ _ = some _).symm.trans e; exact h, fun h => ⟨_, rfl, h⟩⟩
theorem pd_start : dIx p.d (.int 5) m Q = Q (.str p.start) m := by
  unfold Prog.d
  rw [dIx_t]
  exact propext ⟨fun ⟨d, e, h⟩ => by cases (rfl : atI _ _ = some _).symm.trans e; exact h, fun h => ⟨_, rfl, h⟩⟩
theorem pd_lots : dIx p.d (.int 6) m Q = Q (.tup (p.lots.map lotD)) m := by
  unfold Prog.d
  rw [dIx_t]
  exact propext ⟨fun ⟨d, e, h⟩ => by cases (rfl : atI _ _ = some _).symm.trans e; exact h, fun h => ⟨_, rfl, h⟩⟩
theorem pd_js : dIx p.d (.int 7) m Q = Q (.tup p.js) m := by
  unfold Prog.d
  rw [dIx_t]
  exact propext ⟨fun ⟨d, e, h⟩ => by cases (rfl : atI _ _ = some _).symm.trans e; exact h, fun h => ⟨_, rfl, h⟩⟩
theorem pd_as : dIx p.d (.int 8) m Q = Q (.tup p.as) m := by
  unfold Prog.d
  rw [dIx_t]
  exact propext ⟨fun ⟨d, e, h⟩ => by cases (rfl : atI _ _ = some _).symm.trans e; exact h, fun h => ⟨_, rfl, h⟩⟩
end
end Bk
namespace PD
open PySem PySem.Spec PyProof.Rows L2 TXS
section
variable {X : Cx}
def rLenTx (P : Program) (w : World) : List V → Hp → VK → Prop := fun vs H Q => ∃ (a : Addr) (l : List Str), vs = [.ref a] ∧ H a = some (SetTx P w a l) ∧ l.length ≤ 1000 ∧ Q (.int l.length) H
theorem cr_lenTx : CallR X (.builtin "len") (rLenTx X.prog X.w) := by
  intro pins s σ H vs us Q I r h
  obtain ⟨a, l, rfl, ha, hz, q⟩ := h
  rw [Vals.ref1 r]
  obtain ⟨dat, e, F, S, nd⟩ : TxAt X.prog X.w s.heap a l := (I.hok a _ ha).1
  refine PySem.call_len_set e ⟨rfl, rfl, rfl⟩ rfl F.fit (by rw [F.sz]; omega) ⟨.int l.length, H, I.tok _, ⟨_, by rw [F.sz]⟩, q⟩
def dLenTx (P : Program) (w : World) : DC := fun ds m Q => ∃ (a : Addr) (l : List Str), ds = [.ref a] ∧ m a = some (.oth (SetTx P w a l)) ∧ l.length ≤ 1000 ∧ Q (.int l.length) m
theorem lc_lenTx {K : PySem.W.Frag} {P : Program} {w : World} : LC K (rLenTx P w) (dLenTx P w) := fun vs H ds m Qd Q rm r ⟨a, l, e, ha, hz, q⟩ k => by
  subst e
  exact ⟨a, l, one_ref r, rm a _ ha, hz, k _ H _ m (.refl H) rm (.int _) q⟩
end
end PD
namespace PD
open PySem PySem.Spec PyProof.Rows L2
def atomV : D → Option V
  | .int i => some (.int i)
  | .str x => some (.str x)
  | .bl b => some (.bl b)
  | .non => some .non
  | _ => none
theorem rep_atom {K : PySem.W.Frag} {H : Hp} : ∀ {y : D} {v : V}, atomV y = some v → Rep K H y v
  | .int i, _, h => by cases h; exact .int i
  | .str x, _, h => by cases h; exact .str x
  | .bl b, _, h => by cases h; exact .bl b
  | .non, _, h => by cases h; exact .non
theorem atom_rep {K : PySem.W.Frag} {H : Hp} : ∀ {y : D} {v w : V}, atomV y = some v → Rep K H y w → w = v
  | .int i, _, _, h, r => by cases h; cases r; rfl
  | .str x, _, _, h, r => by cases h; cases r; rfl
  | .bl b, _, _, h, r => by cases h; cases r; rfl
  | .non, _, _, h, r => by cases h; cases r; rfl
def dXa (a : Addr) (d : Option Addr) (n : Str) (de : DE) : DE := fun s m Q => de s m fun x m1 => x = .ref a ∧ ∃ (dd : Addr) (vs : List (Str × V)) (y : D) (v : V), d = some dd ∧ m1 dd = some (.oth (.xd vs)) ∧ vs.lookup n = some v ∧ atomV y = some v ∧ Q y m1
section
variable {X : Cx} {a C : Addr} {oe : Obj} {d : Option Addr} {pn : List (Addr × Obj)}
theorem ge_xa {e : Expr} {de : DE} {pos : Pos} {n : Str} (XF : XfC X.K C) (hno : PySem.W.findIn X.K (.ref C) n = some none) (hz : Zc (.ref C) d oe) (hf : ∃ vs, oe.data = .fields vs) (he : GE (X.suite a ((a, oe) :: pn)) e de) (hab : attributeBase e n X.env (eval e X.env) = eval e X.env := by rfl) :
    GE (X.suite a ((a, oe) :: pn)) (.Attribute e n pos) (dXa a d n de) := by
  obtain ⟨te, p, l⟩ := he.ex
  refine .of ⟨_, pe_xf XF hno hz hf p hab, fun s H sd m Qd Q rs rm h k => ?_⟩
  refine l s H sd m _ _ rs rm h fun v H1 dv m1 t1 rm1 r1 ⟨e1, dd, vs, y, w, e2, e3, e4, e5, h1⟩ => ?_
  subst e1
  cases r1
  exact ⟨rfl, rfl, dd, vs, w, e2, rm1 dd _ e3, e4, k _ H1 _ m1 t1 rm1 (rep_atom e5) h1⟩
end
/-- fields that are atoms, as they stand in the error's dict -/
def vsOf : List (Str × D) → Option (List (Str × V))
  | [] => some []
  | (n, y) :: fs => match atomV y, vsOf fs with
    | some v, some vs => some ((n, v) :: vs)
    | _, _ => none
theorem vs_of {K : PySem.W.Frag} {H : Hp} : ∀ {fs : List (Str × D)} {vs ws : List (Str × V)}, vsOf fs = some vs → ws.map (·.1) = fs.map (·.1) → RepL K H (fs.map (·.2)) (ws.map (·.2)) → ws = vs
  | [], vs, ws, h, q1, q2 => by
    cases h
    cases ws with
    | nil => rfl
    | cons w ws => cases q1
  | (n, y) :: fs, vs, ws, h, q1, q2 => by
    unfold vsOf at h
    split at h
    · rename_i v vs' e1 e2
      cases h
      match ws, q1, q2 with
      | (n2, w) :: ws, q1, .cons r q2 =>
        rw [List.map_cons, List.map_cons] at q1
        injection q1 with q3 q4
        dsimp only at q3
        rw [vs_of e2 q4 q2, show w = v from atom_rep e1 r, q3]
    · cases h
/-- a suite that reads its error, over the frame's slots of which it knows its own alone -/
theorem suite_lift {K : PySem.W.Frag} {a : Addr} {i N : Nat} {d : Option Addr} {dH : Addr → Option Addr → DS} {fs : List (Str × D)} {vs : List (Str × V)} {D : Ends} {σ : L2.St} {H1 : Hp} {m : Mu} {Qd : DK} (hi : i < N) (hl : (σ.set i (some (.ref a))).length = N) (rm : RM K H1 m) (fr : FldR K H1 fs d) (hv : vsOf fs = some vs)
    (hk : ∀ v H' dv m', TX H1 H' → RM K H' m' → Rep K H' dv v → Qd dv m' → D.rt v H')
    (h : ∀ dd, dH a (some dd) { nx := fun _ _ => False, rt := fun v m' => Qd v m ∧ m' = mset m dd (.oth (.xd vs)) } ((List.replicate N none).set i (some (.ref a))) (mset m dd (.oth (.xd vs)))) : liftS K (dH a d) D (σ.set i (some (.ref a))) H1 := by
  obtain ⟨dd, ws, rfl, hdd, q1, q2⟩ := fr
  have ev := vs_of hv q1 q2
  subst ev
  have rm2 : RM K H1 (mset m dd (.oth (.xd ws))) := fun x o e => by
    by_cases h : x = dd
    · subst h
      rw [mset_same] at e
      cases e
      exact hdd
    · rw [mset_ne h] at e
      exact rm x o e
  have hsl : i < σ.length := by rw [List.length_set] at hl; omega
  refine ⟨(List.replicate N none).set i (some (.ref a)), mset m dd (.oth (.xd ws)), _, ⟨by rw [hl, List.length_set, List.length_replicate], fun j e he => ?_⟩, rm2, h dd, ?_, ?_, ?_, ?_⟩
  · rw [List.getElem?_set] at he
    by_cases hij : i = j
    · subst hij
      rw [if_pos rfl, if_pos (by rw [List.length_replicate]; exact hi)] at he
      cases he
      exact ⟨.ref a, by rw [List.getElem?_set_self hsl], .ref a⟩
    · rw [if_neg hij, List.getElem?_replicate] at he
      split at he <;> cases he
  · intro _ _ _ _ _ _ _ h; exact h.elim
  · rintro v H2 dv m2 t2 rm3 rv ⟨e1, e2⟩
    subst e2
    refine hk v H2 _ m t2 (fun x o e => ?_) rv e1
    by_cases hx : x = dd
    · subst hx
      have h1 := rm x o e
      cases o with
      | lst ds => obtain ⟨_, h1, _⟩ := h1; rw [hdd] at h1; cases h1
      | dct kvs => obtain ⟨_, h1, _⟩ := h1; rw [hdd] at h1; cases h1
      | dcT kvs => obtain ⟨_, h1, _⟩ := h1; rw [hdd] at h1; cases h1
      | ins C fs => obtain ⟨_, _, h1, _⟩ := h1; rw [hdd] at h1; cases h1
      | sset P w S n =>
        have h1 : H1 x = some (SetK P w x S n) := h1
        rw [hdd] at h1; cases h1
      | oth u =>
        have h1 : H1 x = some u := h1
        rw [hdd] at h1
        cases h1
        exact rm3 x _ mset_same
    · exact rm3 x o (by rw [mset_ne hx]; exact e)
  · intro _ _ _ _ _ _ _ h; exact h.elim
  · intro _ _ _ _ _ _ _ h; exact h.elim
end PD
namespace PySem
open Sem (wp)
/-- the tuples given out so far -/
structure GoodL (base : Nat) (Con : Nat → Array Value) (h : Heap) (L : List Addr) : Prop where
  nd : L.Nodup
  ge : ∀ T ∈ L, base ≤ T
  at_ : ∀ (j : Nat) (T : Addr), L[j]? = some T → h.get? T = some { cls := .type "tuple", data := .seq (Con j) }
theorem GoodL.lt {base : Nat} {Con : Nat → Array Value} {h : Heap} {L : List Addr} (g : GoodL base Con h L) {T : Addr} (hT : T ∈ L) : T < h.objs.size := by
  obtain ⟨j, hj, e⟩ := List.mem_iff_getElem.mp hT
  exact Heap.lt_size (g.at_ j T (by rw [List.getElem?_eq_getElem hj, e]))
theorem GoodL.keep {base : Nat} {Con : Nat → Array Value} {h h' : Heap} {L : List Addr} (g : GoodL base Con h L) (k : ∀ b o, base ≤ b → h.get? b = some o → h'.get? b = some o) : GoodL base Con h' L :=
  ⟨g.nd, g.ge, fun j T e => k _ _ (g.ge T (List.mem_of_getElem? e)) (g.at_ j T e)⟩
theorem GoodL.push {base : Nat} {Con : Nat → Array Value} {h h' : Heap} {L : List Addr} (g : GoodL base Con h L) (hb : base ≤ h.objs.size) (k : ∀ b o, base ≤ b → h.get? b = some o → h'.get? b = some o)
    (e : h'.get? h.objs.size = some { cls := .type "tuple", data := .seq (Con L.length) }) : GoodL base Con h' (L ++ [h.objs.size]) := by
  refine ⟨?_, ?_, ?_⟩
  · rw [List.nodup_append]
    refine ⟨g.nd, by simp, fun a ha b hb' => ?_⟩
    rw [List.mem_singleton.mp hb']
    exact Nat.ne_of_lt (g.lt ha)
  · intro T hT
    rcases List.mem_append.mp hT with hT | hT
    · exact g.ge T hT
    · rw [List.mem_singleton.mp hT]; exact hb
  · intro j T eT
    rw [List.getElem?_append] at eT
    split at eT
    · exact (g.keep k).at_ j T eT
    · rename_i hj
      have : j = L.length := by
        have := List.getElem?_eq_some_iff.mp eT
        obtain ⟨h1, _⟩ := this
        simp only [List.length_singleton] at h1
        omega
      subst this
      rw [Nat.sub_self] at eT
      cases eT
      exact e
end PySem
namespace PySem
open Sem (wp)
end PySem
namespace PySem
open Sem (wp)
end PySem
namespace PD
open PySem PySem.Spec PyProof.Rows L2
end PD
namespace PD
open PySem PySem.Spec PyProof.Rows L2
end PD
namespace PD
open PySem PySem.Spec PyProof.Rows L2
end PD
namespace Bk
open PySem PySem.Spec PyProof.Rows L2 PD
inductive How | put | set | take
  deriving DecidableEq
def How.s : How → Str
  | .put => "put"
  | .set => "set"
  | .take => "take"
structure Edit where
  how : How
  r : Int
  a : Int
  s : List Nat
def Edit.d (e : Edit) : D := match e.how with
  | .take => .tup [.str "take", .int e.r, .int e.a]
  | h => .tup [.str h.s, .int e.r, .int e.a, .str (tx e.s)]
def rowAt (R : List (List Nat)) (r : Int) : List Nat := R.getD r.toNat []
def topOf (h : How) (l : List Nat) : Int := match h with
  | .put => l.length
  | _ => (l.length : Int) - 1
def PlOk (R : List (List Nat)) (h : How) (r a : Int) : Prop := (0 ≤ r ∧ r < R.length) ∧ 0 ≤ a ∧ a ≤ topOf h (rowAt R r)
instance (R : List (List Nat)) (h : How) (r a : Int) : Decidable (PlOk R h r a) := by unfold PlOk; infer_instance
def Edit.ins (e : Edit) : List Nat := match e.how with
  | .take => []
  | _ => e.s
def SgnOk (sg : List Nat) (e : Edit) : Prop := e.how = .take ∨ ∃ c ∈ sg, e.s = [c]
instance (sg : List Nat) (e : Edit) : Decidable (SgnOk sg e) := by unfold SgnOk; infer_instance
theorem atI_map {α : Type} {f : α → D} {l : List α} {i : Nat} {a : α} (h : l[i]? = some a) : atI (l.map f) (i : Int) = some (f a) := atI_nat (by rw [List.getElem?_map, h]; rfl)
theorem cut_fr {α : Type} (xs : List α) (k : Nat) : PD.cutD xs (some (k : Int)) none = xs.drop k := by
  unfold PD.cutD
  rw [HT.sIx_none, HT.sIx_nat]
  by_cases h : k ≤ xs.length
  · rw [Nat.min_eq_left h, List.take_of_length_le (by rw [List.length_drop]; exact Nat.le_refl _)]
  · rw [Nat.min_eq_right (by omega), List.drop_length, List.drop_of_length_le (by omega), List.take_nil]
end Bk
namespace Bk
open PySem PySem.Spec PyProof.Rows L2 PD
structure Num where
  nm : Str
  w : Nat
  o : Int
  ws : List (List Nat × Int)
def nwD (p : List Nat × Int) : D := .tup [.str (tx p.1), .int p.2]
def Num.d (n : Num) : D := .tup [.str n.nm, .int (n.w : Int), .int n.o, .tup (n.ws.map nwD)]
inductive Atom | one | part (p : Nat) | num (nm : Str) (rs : List Ref) | len (r : Ref)
def Atom.d : Atom → D
  | .one => .tup [.str "one"]
  | .part p => .tup [.str "part", .int (p : Int)]
  | .num nm rs => .tup [.str "num", .str nm, .tup (rs.map refD)]
  | .len r => .tup [.str "len", refD r]
abbrev Form := List (Int × Atom)
def itD (x : Int × Atom) : D := .tup [.int x.1, x.2.d]
def formD (f : Form) : D := .tup (f.map itD)
inductive Hw | one | min | max
def Hw.s : Hw → Str
  | .one => "one"
  | .min => "min"
  | .max => "max"
structure Fml where
  how : Hw
  fs : List Form
def Fml.d (f : Fml) : D := .tup [.str f.how.s, .tup (f.fs.map formD)]
structure Jdg where
  nm : Str
  fs : List (Str × Fml)
def jfD (p : Str × Fml) : D := .tup [.str p.1, p.2.d]
def Jdg.d (j : Jdg) : D := .tup [.str j.nm, .str "number", .tup (j.fs.map jfD)]
end Bk
namespace Bk
open PySem PySem.Spec PyProof.Rows L2 PD
inductive W1 where
  | least | greatest | spread | total | names
inductive W2 where
  | best | ends | within
inductive W3 where
  | thn | beside | against
def W1.s : W1 → Str
  | .least => "least" | .greatest => "greatest" | .spread => "spread" | .total => "total" | .names => "names"
def W2.s : W2 → Str
  | .best => "best" | .ends => "ends" | .within => "within"
def W3.s : W3 → Str
  | .thn => "then" | .beside => "beside" | .against => "against"
inductive Ak where
  | one (w : W1) (j : Str)
  | sm (w : W2) (n : Int) (j : Str)
  | fst
  | each (j : Str) (b : Ak)
  | two (w : W3) (a b : Ak)
def akD : Ak → D
  | .one w j => .tup [.str w.s, .str j]
  | .sm w n j => .tup [.str w.s, .int n, .str j]
  | .fst => .tup [.str "first"]
  | .each j b => .tup [.str "each", .str j, akD b]
  | .two w a b => .tup [.str w.s, akD a, akD b]
def insA : Ak → List Ak
  | .each _ b => [b]
  | .two _ a b => [a, b]
  | _ => []
def ownA : Ak → List Str
  | .one _ j => [j]
  | .sm _ _ j => [j]
  | .fst => []
  | .each j _ => [j]
  | .two _ _ _ => []
def sizeA : Ak → Nat
  | .each _ b => sizeA b + 1
  | .two _ a b => sizeA a + sizeA b + 1
  | _ => 1
def allA : Ak → List Ak
  | .each j b => .each j b :: allA b
  | .two w a b => .two w a b :: (allA a ++ allA b)
  | a => [a]
theorem all_ins (a : Ak) : allA a = a :: (insA a).flatMap allA := by
  cases a <;> simp [allA, insA]
theorem all_len : ∀ a : Ak, (allA a).length = sizeA a
  | .one _ _ => rfl
  | .sm _ _ _ => rfl
  | .fst => rfl
  | .each j b => by
    show (allA b).length + 1 = sizeA b + 1
    rw [all_len b]
  | .two w a b => by
    show (allA a ++ allA b).length + 1 = sizeA a + sizeA b + 1
    rw [List.length_append, all_len a, all_len b]
def isFst : Ak → Bool
  | .fst => true
  | _ => false
def judgesA (a : Ak) : List Str := (allA a).flatMap ownA
def firstsA (a : Ak) : Nat := ((allA a).filter isFst).length
def szS (st : List Ak) : Nat := (st.map sizeA).sum
theorem size_pos (a : Ak) : 0 < sizeA a := by cases a <;> simp [sizeA]
theorem len_szS : ∀ st : List Ak, st.length ≤ szS st
  | [] => Nat.le_refl _
  | a :: st => by
    have h1 := len_szS st
    have h2 := size_pos a
    unfold szS at h1 ⊢
    rw [List.map_cons, List.sum_cons, List.length_cons]
    omega
theorem szS_app (a b : List Ak) : szS (a ++ b) = szS a + szS b := by
  unfold szS; rw [List.map_append, List.sum_append]
theorem szS_rev (a : List Ak) : szS a.reverse = szS a := by
  induction a with
  | nil => rfl
  | cons x a ih => rw [List.reverse_cons, szS_app, ih]; unfold szS; simp; omega
theorem szS_ins (a : Ak) : szS (insA a) + 1 = sizeA a := by
  cases a <;> simp [szS, insA, sizeA]
theorem own_len (a : Ak) : (ownA a).length ≤ 1 := by cases a <;> simp [ownA]
theorem fm_len : ∀ l : List Ak, (l.flatMap ownA).length ≤ l.length
  | [] => Nat.le_refl _
  | a :: l => by
    have h1 := fm_len l
    have h2 := own_len a
    rw [List.flatMap_cons, List.length_append, List.length_cons]
    omega
def fstD (d : D) : Bool := match d with | .tup [.str _] => true | _ => false
theorem fst_ak (a : Ak) : fstD (akD a) = isFst a := by cases a <;> rfl
/-- which sorts an ask lets its judge have -/
def sortsLet : List (Str × List Str) := [("least", ["number"]), ("greatest", ["number"]), ("best", ["number"]), ("ends", ["number"]), ("within", ["number"]), ("spread", ["number", "product"]), ("total", ["product"]), ("names", ["text"]), ("each", ["number", "text"])]
def W1.let : W1 → List Str
  | .least => ["number"] | .greatest => ["number"] | .spread => ["number", "product"] | .total => ["product"] | .names => ["text"]
def mayLead : Ak → Bool
  | .one .least _ => true
  | .one .greatest _ => true
  | _ => false
/-- is the ask itself (not its parts) let, the sorts told by `f` -/
def isLet (f : Str → Option Str) : Ak → Bool
  | .two .thn a _ => mayLead a
  | .two .against a b => mayLead a && mayLead b
  | .two .beside _ _ => true
  | .fst => true
  | .one w j => (match f j with | some z => decide (z ∈ w.let) | none => false)
  | .sm _ _ j => (match f j with | some z => decide (z ∈ (["number"] : List Str)) | none => false)
  | .each j _ => (match f j with | some z => decide (z ∈ (["number", "text"] : List Str)) | none => false)
structure Kt (K : PySem.W.Frag) (w : World) (mg : Str → Option Value) where
  d_SORTS_LET : Addr
  g_SORTS_LET : mg "SORTS_LET" = some (.ref d_SORTS_LET)
  t_SORTS_LET : KTab K w d_SORTS_LET sortsLet
end Bk
namespace Bk
open PySem PySem.Spec PyProof.Rows L2 PD
end Bk
namespace Bk
open PySem PySem.Spec PyProof.Rows L2 PD
abbrev Tx := List Nat
abbrev Dr := List (Option (List Tx))
def fitB (sg l t : Tx) : Bool := match t with
  | [c] => decide (c ∈ (if l = [] then sg else l))
  | _ => false
def mfit (sg : Tx) (m : Mark) (t : Tx) : Bool := match m with
  | .sign l => fitB sg l t
  | _ => true
def pfit (sg : Tx) (q : Piece) (o : Option (List Tx)) : Bool := match q, o with
  | .plain ms, some ts => (ms.zip ts).all fun p => mfit sg p.1 p.2
  | _, _ => true
def lhold (sg : Tx) (ps : List Piece) (d : Dr) : Bool := (ps.zip d).all fun q => pfit sg q.1 q.2
def txAt (d : Dr) (r : Ref) : Tx := match d[r.1]? with
  | some (some ts) => ts.getD r.2 []
  | _ => []
/-- texts of marks: those at signs are the row's -/
inductive WearM : List Mark → List Tx → List Tx → Prop
  | nil : WearM [] [] []
  | sign {l t : Tx} {ms : List Mark} {r ts : List Tx} : WearM ms r ts → WearM (ms ++ [.sign l]) (r ++ [t]) (ts ++ [t])
  | other {k : Mark} {t : Tx} {ms : List Mark} {r ts : List Tx} : k.w ≠ .sign → WearM ms r ts → WearM (ms ++ [k]) r (ts ++ [t])
inductive Wear : List Piece → List Tx → Dr → Prop
  | nil : Wear [] [] []
  | lot {n : Str} {ps : List Piece} {r : List Tx} {d : Dr} : Wear ps r d → Wear (ps ++ [.lot n]) r (d ++ [none])
  | plain {ms : List Mark} {ts r1 : List Tx} {ps : List Piece} {r : List Tx} {d : Dr} : Wear ps r d → WearM ms r1 ts → Wear (ps ++ [.plain ms]) (r ++ r1) (d ++ [some ts])
def sgOf (ms : List Mark) : List Tx := ms.filterMap fun m => match m with | .sign l => some l | _ => none
def lets (ps : List Piece) : List Tx := ps.flatMap lettersOf
theorem refsTo_app {S : MW → Bool} {ks : List Knd} {k : Knd} : refsTo S (ks ++ [k]) = refsTo S ks ++ (match k with | none => [] | some ws => refsOf ks.length S ws) := by
  unfold refsTo
  rw [List.zipIdx_append, List.flatMap_append]
  congr 1
  simp only [List.zipIdx_cons, List.zipIdx_nil, List.flatMap_cons, List.flatMap_nil, List.append_nil, Nat.zero_add]
  all_goals (cases k <;> rfl)
theorem refsOf_app {i : Nat} {S : MW → Bool} {ws : List MW} {w : MW} : refsOf i S (ws ++ [w]) = refsOf i S ws ++ (if S w = true then [(i, ws.length)] else []) := by
  unfold refsOf
  rw [List.zipIdx_append, List.filter_append, List.map_append]
  congr 1
  simp only [List.zipIdx_cons, List.zipIdx_nil, List.filter_cons, List.filter_nil, Nat.zero_add]
  cases S w <;> rfl
theorem sgOf_app {ms : List Mark} {k : Mark} : sgOf (ms ++ [k]) = sgOf ms ++ (match k with | .sign l => [l] | _ => []) := by
  unfold sgOf
  rw [List.filterMap_append]
  congr 1
  cases k <;> rfl
theorem lets_app {ps : List Piece} {q : Piece} : lets (ps ++ [q]) = lets ps ++ lettersOf q := by
  unfold lets; rw [List.flatMap_append, List.flatMap_singleton]
theorem WearM.len {ms : List Mark} {r ts : List Tx} (h : WearM ms r ts) : ts.length = ms.length ∧ r.length = (sgOf ms).length ∧ ∀ i : Nat, (refsOf i isSg (ms.map Mark.w)).length = r.length := by
  induction h with
  | nil => exact ⟨rfl, rfl, fun _ => rfl⟩
  | sign _ ih =>
    refine ⟨by simp [ih.1], by rw [sgOf_app]; simp [ih.2.1], fun i => ?_⟩
    rw [List.map_append, List.map_singleton, refsOf_app, List.length_append, ih.2.2]
    simp [Mark.w]
  | @other k _ _ _ _ hk _ ih =>
    refine ⟨by simp [ih.1], ?_, fun i => ?_⟩
    · rw [sgOf_app]
      cases k with
      | sign l => exact absurd rfl hk
      | none => simpa using ih.2.1
      | run _ _ => simpa using ih.2.1
    · rw [List.map_append, List.map_singleton, refsOf_app, List.length_append, ih.2.2]
      cases k with
      | sign l => exact absurd rfl hk
      | none => simp [Mark.w]
      | run _ _ => simp [Mark.w]
theorem Wear.len {ps : List Piece} {r : List Tx} {d : Dr} (h : Wear ps r d) : d.length = ps.length ∧ r.length = (lets ps).length ∧ (refsTo isSg (ps.map Piece.k)).length = r.length := by
  induction h with
  | nil => exact ⟨rfl, rfl, rfl⟩
  | lot _ ih =>
    refine ⟨by simp [ih.1], by rw [lets_app]; simpa [lettersOf] using ih.2.1, ?_⟩
    rw [List.map_append, List.map_singleton, refsTo_app]
    simpa [Piece.k] using ih.2.2
  | @plain ms _ r1 _ _ _ _ hm ih =>
    have hl := hm.len
    refine ⟨by simp [ih.1], ?_, ?_⟩
    · rw [lets_app, List.length_append, List.length_append, ih.2.1, hl.2.1]; rfl
    · rw [List.map_append, List.map_singleton, refsTo_app, List.length_append, List.length_append, ih.2.2]
      show _ + (refsOf _ isSg (ms.map Mark.w)).length = _
      rw [hl.2.2]
theorem zip_app {α β : Type} {a b : List α} {c d : List β} (h : a.length = c.length) : (a ++ b).zip (c ++ d) = a.zip c ++ b.zip d := List.zip_append h
theorem WearM.fit {sg : Tx} {ms : List Mark} {r ts : List Tx} (h : WearM ms r ts) : ((ms.zip ts).all fun p => mfit sg p.1 p.2) = ((sgOf ms).zip r).all fun q => fitB sg q.1 q.2 := by
  induction h with
  | nil => rfl
  | sign h ih =>
    have hl := h.len
    rw [zip_app hl.1.symm, List.all_append, ih, sgOf_app, zip_app hl.2.1.symm, List.all_append]
    rfl
  | @other k _ _ _ _ hk h ih =>
    have hl := h.len
    rw [zip_app hl.1.symm, List.all_append, ih, sgOf_app]
    cases k with
    | sign l => exact absurd rfl hk
    | none => simp [mfit]
    | run _ _ => simp [mfit]
theorem Wear.fit {sg : Tx} {ps : List Piece} {r : List Tx} {d : Dr} (h : Wear ps r d) : lhold sg ps d = ((lets ps).zip r).all fun q => fitB sg q.1 q.2 := by
  unfold lhold
  induction h with
  | nil => rfl
  | lot h ih =>
    rw [zip_app h.len.1.symm, List.all_append, ih, lets_app]
    simp [lettersOf, pfit]
  | plain h hm ih =>
    rw [zip_app h.len.1.symm, List.all_append, ih, lets_app, zip_app h.len.2.1.symm, List.all_append]
    congr 1
    show ([(_, _)] : List (Piece × Option (List Tx))).all _ = _
    rw [List.all_cons, List.all_nil, Bool.and_true]
    exact hm.fit
theorem WearM.at {ms : List Mark} {r ts : List Tx} (h : WearM ms r ts) {i : Nat} : ∀ {j : Nat} {ref : Ref}, (refsOf i isSg (ms.map Mark.w))[j]? = some ref → ref.1 = i ∧ ∃ t, ts[ref.2]? = some t ∧ r[j]? = some t := by
  induction h with
  | nil => intro j ref e; simp [refsOf] at e
  | @sign l t ms r ts h ih =>
    intro j ref e
    have hl := h.len
    rw [List.map_append, List.map_singleton, refsOf_app, List.getElem?_append] at e
    split at e
    · rename_i hj
      obtain ⟨e1, t', e2, e3⟩ := ih e
      refine ⟨e1, t', ?_, ?_⟩
      · rw [List.getElem?_append_left (List.getElem?_eq_some_iff.mp e2).1]; exact e2
      · rw [List.getElem?_append_left (List.getElem?_eq_some_iff.mp e3).1]; exact e3
    · rename_i hj
      rw [hl.2.2] at e hj
      rw [if_pos (show isSg (Mark.sign l).w = true from rfl)] at e
      have hz : j - r.length = 0 := by
        have := (List.getElem?_eq_some_iff.mp e).1
        simp only [List.length_singleton] at this
        omega
      rw [hz] at e
      cases e
      refine ⟨rfl, t, ?_, ?_⟩
      · show (ts ++ [t])[(ms.map Mark.w).length]? = _
        rw [List.length_map, ← hl.1, List.getElem?_append_right (Nat.le_refl _), Nat.sub_self]; rfl
      · rw [List.getElem?_append_right (by omega), hz]; rfl
  | @other k t ms r ts hk h ih =>
    intro j ref e
    rw [List.map_append, List.map_singleton, refsOf_app, if_neg (by cases k <;> first | exact absurd rfl hk | exact (show ¬ ((MW.none == MW.sign) = true) by decide) | exact (show ¬ ((MW.run == MW.sign) = true) by decide)), List.append_nil] at e
    obtain ⟨e1, t', e2, e3⟩ := ih e
    refine ⟨e1, t', ?_, e3⟩
    rw [List.getElem?_append_left (List.getElem?_eq_some_iff.mp e2).1]; exact e2
theorem Wear.at {ps : List Piece} {r : List Tx} {d : Dr} (h : Wear ps r d) : ∀ {j : Nat} {ref : Ref}, (refsTo isSg (ps.map Piece.k))[j]? = some ref → ref.1 < d.length ∧ r[j]? = some (txAt d ref) ∧ ∃ ts t, d[ref.1]? = some (some ts) ∧ ts[ref.2]? = some t ∧ txAt d ref = t := by
  induction h with
  | nil => intro j ref e; simp [refsTo] at e
  | @lot n ps r d h ih =>
    intro j ref e
    rw [List.map_append, List.map_singleton, refsTo_app] at e
    have e : (refsTo isSg (ps.map Piece.k))[j]? = some ref := by simpa [Piece.k] using e
    obtain ⟨e1, e2, ts, t, e3, e4, e5⟩ := ih e
    have ex : txAt (d ++ [none]) ref = txAt d ref := by unfold txAt; rw [List.getElem?_append_left e1]
    exact ⟨by rw [List.length_append]; omega, by rw [ex]; exact e2, ts, t, by rw [List.getElem?_append_left e1]; exact e3, e4, by rw [ex]; exact e5⟩
  | @plain ms ts r1 ps r d h hm ih =>
    intro j ref e
    have hl := h.len
    rw [List.map_append, List.map_singleton, refsTo_app, List.getElem?_append] at e
    split at e
    · rename_i hj
      obtain ⟨e1, e2, ts', t, e3, e4, e5⟩ := ih e
      have ex : txAt (d ++ [some ts]) ref = txAt d ref := by unfold txAt; rw [List.getElem?_append_left e1]
      refine ⟨by rw [List.length_append]; omega, ?_, ts', t, by rw [List.getElem?_append_left e1]; exact e3, e4, by rw [ex]; exact e5⟩
      rw [ex, List.getElem?_append_left (by rw [← hl.2.2]; exact hj)]; exact e2
    · rename_i hj
      rw [hl.2.2] at e hj
      obtain ⟨e1, t, e2, e3⟩ := hm.at e
      have ed : (d ++ [some ts])[ref.1]? = some (some ts) := by rw [e1, List.length_map, ← hl.1, List.getElem?_append_right (Nat.le_refl _), Nat.sub_self]; rfl
      have et : txAt (d ++ [some ts]) ref = t := by unfold txAt; rw [ed]; show ts.getD ref.2 [] = t; rw [List.getD_eq_getElem?_getD, e2]; rfl
      refine ⟨by rw [e1, List.length_append, List.length_map, hl.1, List.length_singleton]; omega, ?_, ts, t, ed, e2, et⟩
      rw [List.getElem?_append_right (by omega), et]
      exact e3
theorem WearM.mem {ms : List Mark} {r ts : List Tx} (h : WearM ms r ts) : ∀ t ∈ r, t ∈ ts := by
  induction h with
  | nil => exact fun _ h => h
  | sign _ ih =>
    intro t ht
    rcases List.mem_append.mp ht with h | h
    · exact List.mem_append_left _ (ih t h)
    · exact List.mem_append_right _ h
  | other _ _ ih => exact fun t ht => List.mem_append_left _ (ih t ht)
theorem Wear.mem {ps : List Piece} {r : List Tx} {d : Dr} (h : Wear ps r d) {t : Tx} (ht : t ∈ r) : ∃ ts, some ts ∈ d ∧ t ∈ ts := by
  induction h with
  | nil => cases ht
  | lot _ ih => obtain ⟨ts, h1, h2⟩ := ih ht; exact ⟨ts, List.mem_append_left _ h1, h2⟩
  | @plain ms ts r1 ps r d _ hm ih =>
    rcases List.mem_append.mp ht with h | h
    · obtain ⟨ts, h1, h2⟩ := ih h; exact ⟨ts, List.mem_append_left _ h1, h2⟩
    · exact ⟨ts, List.mem_append_right _ (List.mem_singleton.mpr rfl), hm.mem t h⟩
theorem dLen_seq {m : Mu} {x : D} {es : List D} {Q : DK} (e : seqOf m x = some es) (h : Q (.int es.length) m) : dLen [x] m Q := by
  cases x with
  | str _ => cases e
  | _ => exact ⟨es, e, h⟩
theorem dIx_seq {m : Mu} {x d : D} {i : Int} {es : List D} {Q : DK} (e : seqOf m x = some es) (h : atI es i = some d) (hQ : Q d m) : dIx x (.int i) m Q := by
  cases x with
  | str _ => cases e
  | _ => exact ⟨es, e, d, h, hQ⟩
def S3 (S : List Nat) : Prop := S = [97, 98] ∨ S = [98, 97] ∨ S = [98, 99, 97]
theorem S3.len {S : List Nat} (h : S3 S) : 2 ≤ S.length ∧ S.length ≤ 3 := by rcases h with rfl | rfl | rfl <;> decide
/-- every sign of the row is one of its choices -/
inductive InCh : List (List Nat) → List Nat → Prop
  | nil : InCh [] []
  | cons {chs : List (List Nat)} {r ch : List Nat} {c : Nat} : c ∈ ch → InCh chs r → InCh (ch :: chs) (c :: r)
theorem InCh.len {chs : List (List Nat)} {r : List Nat} (h : InCh chs r) : r.length = chs.length := by
  induction h with
  | nil => rfl
  | cons _ _ ih => simp [ih]
end Bk
namespace Bk
open PySem PySem.Spec PyProof.Rows L2 PD
/-- where the sign of node t + 1 stands -/
def tpos (fr : Bool) (M A t : Nat) : Nat := if fr = true then A + M - (t + 1) else A + t
def NL (n line : Nat) : Prop := (n = 1 ∧ line = 0) ∨ (n = 2 ∧ line = 0) ∨ (n = 2 ∧ line = 1)
theorem NL.two {n line : Nat} (h : NL n line) : (n = 1 ∨ n = 2) ∧ line < n := by rcases h with ⟨rfl, rfl⟩ | ⟨rfl, rfl⟩ | ⟨rfl, rfl⟩ <;> decide
end Bk
namespace PD
open PySem PySem.Spec PyProof.Rows L2
end PD
namespace PD
open PySem PySem.Spec PyProof.Rows L2
theorem code_tup_src {prog : Program} {w : World} {A : Around} {E : Value → Shared → Prop} {s : Shared} {p d : Addr} {n : Nat} {P : Nat → Value → Prop} {OK : Heap → Prop} {Q1 : Value → Shared → Prop}
    (S : PySem.W.KdlSrc prog w "dict" p d n P OK) (hh : A.handled = none) (ok : OK s.heap) (hn : n ≤ sizeLine)
    (h : ∀ (g : Heap) (tk : Nat) (acc : Array Value), (∀ b o, s.heap.get? b = some o → g.get? b = some o) → ItemsOf P acc n → Q1 (.ref g.objs.size) { s with heap := g.push { cls := .type "tuple", data := .seq acc }, toks := tk }) :
    codeAny (model prog w) A (.call (.builtin "tuple.__new__") ⟨[.type "tuple", .ref p], []⟩) (wants Q1 E) s := by
  refine codeAny_of_tree ?_
  show wpAny _ A.in1 (do checkBuiltinCall "tuple.__new__" ⟨[.type "tuple", .ref p], []⟩; again (.builtin "tuple.__new__" ⟨[.type "tuple", .ref p], []⟩)) _ _ s
  refine wpAny_bind (wpAny_of_eq (F.newCall_tuple_1 _) (wpAny_pure ⟨plainId_quiet F.plain_tuple_new _, codeAny_builtin F.entry_tuple_new ?_⟩))
  rw [Around.under_plainId F.plain_tuple_new _]
  have hsub := sub_tuple_self
  have hinit := init_tuple_lookup
  have hmh := madeHere_tuple
  have hTI : s.TypeIs (.ref p) "dict" := S.type s ok
  have h1 : A.in1.handled = none := hh
  wp_walk using wpAny_typeOf hTI, PySem.W.kdu_collect (A := A.in1) S h1 ok hn
  intro g tk acc hk it
  show wpAny _ _ (Builtin.Tuple.tupleExact acc.toList.toArray >>= fun v => ret v) _ _ _
  unfold Builtin.Tuple.tupleExact
  refine wpAny_bind (wpAny_newObj_type ?_ (by show acc.toList.toArray.size ≤ sizeLine; rw [Array.toArray_toList, it.1]; exact hn))
  refine wpAny_pure ?_
  rw [show acc.toList.toArray = acc from by simp]
  exact h g tk acc hk it
def rTupD : List V → Hp → VK → Prop := fun xs H Q => ∃ p o kvs, xs = [.ref p] ∧ H p = some (.frz o (.dK kvs)) ∧ ∀ q, H q = none → Q (.ref q) (upd H q (.tup (kvs.map fun kv => kV kv.1)))
theorem call_tup_dK {X : Cx} (hc : X.calm = true) : CallR X (.type "tuple") rTupD := by
  intro pins s σ H xs us Q I r ⟨p, o, kvs, e, hk, q⟩
  subst e
  obtain ⟨u, eu, rx⟩ := vals1 r
  subst eu
  obtain rfl : u = Value.ref p := rx
  obtain ⟨_, z, lo, vs, rk, hd⟩ := (show ObjOk X.prog X.w H s.heap p (.frz o (.dK kvs)) from I.hok p _ hk)
  obtain ⟨ep, hat⟩ := hd.dictAt
  have hl : kvs.length = vs.length := Paired.length rk
  refine callType_codes (Q₁ := fun obj s1 => s1.TypeIs obj "tuple" ∧ EP X pins σ Q obj s1) F.called_tuple (F.typeCall_tuple_1 _) F.entry_object_init (code_tup_src (PySem.W.kdl_dict (knd := mixKind X.prog X.w) (kvs := vs) (ep := ep) lo) (I.ok.hd hc) hat (by rw [← hl]; exact z) fun g tk acc kp it => ⟨⟨_, Heap.get?_push_size _ rfl, rfl⟩, ?_⟩) fun obj s1 h1 => ⟨h1.1, F.args_object_init_2 obj _, object_init_meets F.called_tuple.init.lookup F.called_tuple.made (by decide) X.prog X.w X.A.in1 _ s1 ⟨h1.1, rfl, h1.2⟩⟩
  have I1 : Inv X pins σ H { s with heap := g, toks := tk } := I.kept (t' := tk) kp
  have el : acc.toList.length = acc.size := by simp
  have hv : Vals (kvs.map fun kv => kV kv.1) acc.toList := vals_of_at (by rw [List.length_map, el, it.1, hl]) fun j x w h1 h2 => by
    obtain ⟨k, y, hky, hi⟩ := it.2 j w (by rw [← Array.getElem?_toList]; exact h2)
    rw [List.getElem?_map] at h1
    have e1 : (kvs.map (·.1))[j]? = some k := by rw [KV.keys rk, List.getElem?_map, hky]; rfl
    rw [List.getElem?_map] at e1
    cases e2 : kvs[j]? with
    | none => rw [e2] at h1; cases h1
    | some kv =>
      rw [e2] at h1 e1
      cases h1; cases e1
      exact keyIs_rel hi
  have I2 : Inv X pins σ (upd H g.objs.size (.tup (kvs.map fun kv => kV kv.1))) { s with heap := g.push { cls := .type "tuple", data := .seq acc }, toks := tk } :=
    I1.laid (t' := tk) (fun b o e => Heap.get?_push_of_some _ e) (Nat.le_refl _) (show ObjOk X.prog X.w _ _ _ (.tup (kvs.map fun kv => kV kv.1)) from ⟨by rw [List.length_map]; exact z, acc.toList, hv, by rw [Array.toArray_toList]; exact IsTup.new _ _⟩)
  exact ⟨.ref g.objs.size, _, I2, rfl, q _ (I1.hok.fresh (Nat.le_refl _))⟩
def dTupD : DC := fun ds m R => match ds with
  | [.dic ks _] => R (.tup (ks.map keyD)) m
  | _ => False
theorem repL_keys {K : PySem.W.Frag} {H : Hp} : ∀ us : List (Key × V), RepL K H ((us.map (·.1)).map keyD) (us.map fun kv => kV kv.1)
  | [] => .nil
  | u :: us => .cons (keyD_rep u.1) (repL_keys us)
theorem lc_tupD {K : PySem.W.Frag} : LC K rTupD dTupD := fun vs H ds m Qd Q rm r h k => by
  match ds, h with
  | [.dic ks ds'], h =>
    obtain ⟨v, rfl, ra9⟩ := repL1 r
    cases ra9 with
    | @dic _ _ a o us ea en r2 =>
      refine ⟨a, o, us, rfl, ea, fun q hq => k _ _ _ m (.new hq) (rm.skip hq) (.tup upd_same ?_) h⟩
      subst en
      exact (repL_keys us).mono (.new hq)
end PD
namespace PD
open PySem PySem.Spec PyProof.Rows L2
def rMulLB (K : PySem.W.Frag) : R2 := fun x y H Q => ∃ a xs k, x = V.ref a ∧ y = V.bl k ∧ SqL K H a xs ∧ ∀ p, H p = none → Q (.ref p) (upd H p (.lst (if k = true then xs else [])))
def dMulLB : D2 := fun x y m Q => match x, y with
  | .ref a, .bl b => ∃ xs, m a = some (.lst xs) ∧ ∀ p, m p = none → Q (.ref p) (mset m p (.lst (if b = true then xs else [])))
  | _, _ => False
theorem op_mulLB {X : Cx} : OpR X (binaryOp .Mult) (rMulLB X.K) := op_mul_lb
theorem lr_mulLB {K : PySem.W.Frag} : LR K (rMulLB K) dMulLB := fun x y H dx dy m Qd Q rm rx ry h k => by
  cases rx with
  | ref a =>
    cases ry with
    | bl b =>
      obtain ⟨xs, e, h4⟩ := h
      obtain ⟨vs, e2, r⟩ := rm a _ e
      refine ⟨a, vs, b, rfl, rfl, SqL.of e2, fun p hp => k _ _ _ _ (.new hp) (rm.newL hp ?_) (.ref p) (h4 p (rm.fresh hp))⟩
      cases b with
      | true => exact r
      | false => exact .nil
    | _ => exact h.elim
  | _ => exact h.elim
theorem dMulLB_b {a : Addr} {b : Bool} {m : Mu} {Q : DK} : dMulLB (.ref a) (.bl b) m Q = ∃ xs, m a = some (.lst xs) ∧ ∀ p, m p = none → Q (.ref p) (mset m p (.lst (if b = true then xs else []))) := rfl
end PD
namespace PD
open PySem PySem.Spec PyProof.Rows L2
/-- a def that may raise, where it does not -/
theorem fnOk_calm {P : Program} {w : World} {K : PySem.W.Frag} {mg : Str → Option Value} {base : Heap} {k n : Nat} {f : Addr} {fd : FuncData} {ps : List Str} {sd : SpX} (F : FnOk P w K mg base (L2.CX P w) k f fd ps (spX K n sd)) :
    FnOk P w K mg base CX0 k f fd ps (spL K n fun ds m Q => sd ds m Q fun _ _ _ => False) := by
  have up : ∀ {vs : List V} {H : Hp} {Q : VK} {E : XK}, spL K n (fun ds m Q => sd ds m Q fun _ _ _ => False) vs H Q E → spX K n sd vs H Q fun _ _ _ => False := by
    rintro vs H Q E ⟨ds, m, Qd, r, rm, h, kq⟩
    exact ⟨ds, m, Qd, _, r, rm, h, kq, fun _ _ _ _ _ _ _ z => z⟩
  refine ⟨fun vs H Q E h => F.len _ _ _ _ (up h), fun A outer s H args us vs Q E hr e0 bt va h => codeAny_mono (F.run A outer s H args us vs Q _ hr e0 bt va (up h)) fun r s' hq => ?_⟩
  cases r with
  | ok f => cases f <;> exact hq
  | error e =>
    obtain ⟨_, _, _, _, _, _, _, _, _, _, _, _, z⟩ := hq
    exact z.elim
section
variable {P : Program} {w : World} {K : PySem.W.Frag} {mg : Str → Option Value} {base : Heap}
/-- def f(..): try: body except ..: suites; then the rest -/
theorem fn_okT3 {x qual : Str} {st : Stmt} {f : Addr} {fd : FuncData} {N ps : List Str} {k : Nat} {sd : SpD} {db : DX → DS} {dr : DS} {body rest : List Stmt} {h₀ : ExceptHandler} {hds : List ExceptHandler} {pos : Pos}
    (F : Fun K x qual st f fd) (S : FnScope N ps (defScope st)) (hst : defBody st = .Try body (h₀ :: hds) [] [] pos :: rest)
    (hb : ∀ (cdv : Value) (A : Around) (outer : List Env) (s : Shared) (H : Hp) (E : XK) (pn : List (Addr × Obj)) (xe : Value → Shared → Prop) (Ed : DX), Room k (A.deeper (envOfC qual (defScope st) s.heap.objs.size f cdv)) →
      Takes ((cxOf CX0 P w K mg base N qual (defScope st) f cdv A outer s H E).nox.tr pn xe) (wX K Ed) → PassesOwn (model P w) (cxOf CX0 P w K mg base N qual (defScope st) f cdv A outer s H E).nox.A (cxOf CX0 P w K mg base N qual (defScope st) f cdv A outer s H E).nox.env xe → GSs ((cxOf CX0 P w K mg base N qual (defScope st) f cdv A outer s H E).nox.tr pn xe) body (db Ed))
    (hr : ∀ (cdv : Value) (A : Around) (outer : List Env) (s : Shared) (H : Hp) (E : XK), Room k (A.deeper (envOfC qual (defScope st) s.heap.objs.size f cdv)) → GSs (cxOf CX0 P w K mg base N qual (defScope st) f cdv A outer s H E).nox rest dr)
    (hh : ∀ (cdv : Value) (A : Around) (outer : List Env) (s : Shared) (H : Hp) (E : XK), Room k (A.deeper (envOfC qual (defScope st) s.heap.objs.size f cdv)) →
      ∃ l, Hs (cxOf CX0 P w K mg base N qual (defScope st) f cdv A outer s H E).nox (h₀ :: hds) l ∧
        ∀ ds m Qd (D : Ends), sd ds m Qd → (∀ v H' dv m', TX H H' → RM K H' m' → Rep K H' dv v → Qd dv m' → D.rt v H') → ∀ Ed : DX, (∀ cls fs m', (∀ d σ H', RM K H' m' → FldR K H' fs d → wHs K (fun _ _ _ _ => False) D l cls d σ H') → Ed cls fs m') → db Ed { nx := dr { nx := fun _ _ => False, rt := Qd }, rt := Qd } (startD N ds) m) :
    FnOk P w K mg base CX0 (k + 1) f fd ps (spL K ps.length sd) := by
  refine F.ok S (fun vs H Q E ⟨ds, m, Qd, r, rm, h, _⟩ => by rw [← r.length]; exact h.1) fun cdv A outer s H vs Q E hrm ⟨ds, m, Qd, r, rm, ⟨_, h⟩, kq⟩ => ?_
  obtain ⟨l, hl, hd⟩ := hh cdv A outer s H E hrm
  rw [hst]
  refine ⟨_, pss_cons (ps_try_hs (tb := fun W => liftS K (db (EdOf K W))) rfl rfl takes0 (fun W pn xe tk po => pss_lift (hb cdv A outer s H E pn xe _ hrm (takes_ed tk) po)) hl) (pss_lift (hr cdv A outer s H E hrm)), ?_⟩
  refine ⟨startD N ds, m, { nx := dr { nx := fun _ _ => False, rt := Qd }, rt := Qd }, rs_start r, rm, hd ds m Qd _ h (fun v H' dv m' t a b c => kq v H' dv m' t a b c) _ (fun cls fs m' hw => hw), ?_, ?_, ?_, ?_⟩
  · intro s' H' sd' m' t rs' rm' hn
    refine ⟨sd', m', _, rs', rm', hn, ?_, ?_, ?_, ?_⟩
    · intro _ _ _ _ _ _ _ h; exact h.elim
    · intro v H2 dv m2 t2 rm2 r2 q; exact kq v H2 dv m2 (t.trans t2) rm2 r2 q
    · intro _ _ _ _ _ _ _ h; exact h.elim
    · intro _ _ _ _ _ _ _ h; exact h.elim
  · intro v H' dv m' t a b c; exact kq v H' dv m' t a b c
  · intro _ _ _ _ _ _ _ h; exact h.elim
  · intro _ _ _ _ _ _ _ h; exact h.elim
end
end PD
namespace K22
open PySem PySem.Spec PyProof.Rows L2 PD Bk
abbrev N_judges_of : List Str := ["ask", "judges", "one"]
theorem sc_judges_of : FnScope N_judges_of ["ask"] (defScope s_judges_of) := ⟨rfl, rfl, rfl, by decide +kernel, rfl, by decide +kernel, by decide +kernel⟩
abbrev N_asks_in : List Str := ["ask"]
theorem sc_asks_in : FnScope N_asks_in ["ask"] (defScope s_asks_in) := ⟨rfl, rfl, rfl, by decide +kernel, rfl, by decide +kernel, by decide +kernel⟩
abbrev N_has_first : List Str := ["ask", "one"]
theorem sc_has_first : FnScope N_has_first ["ask"] (defScope s_has_first) := ⟨rfl, rfl, rfl, by decide +kernel, rfl, by decide +kernel, by decide +kernel⟩
abbrev N_all_asks : List Str := ["ask", "found", "due", "one"]
theorem sc_all_asks : FnScope N_all_asks ["ask"] (defScope s_all_asks) := ⟨rfl, rfl, rfl, by decide +kernel, rfl, by decide +kernel, by decide +kernel⟩
abbrev N_own_judge : List Str := ["ask"]
theorem sc_own_judge : FnScope N_own_judge ["ask"] (defScope s_own_judge) := ⟨rfl, rfl, rfl, by decide +kernel, rfl, by decide +kernel, by decide +kernel⟩
abbrev N_kinds_of : List Str := ["way", "piece"]
theorem sc_kinds_of : FnScope N_kinds_of ["way"] (defScope s_kinds_of) := ⟨rfl, rfl, rfl, by decide +kernel, rfl, by decide +kernel, by decide +kernel⟩
abbrev N_part_places : List Str := ["kinds", "place", "kind"]
theorem sc_part_places : FnScope N_part_places ["kinds"] (defScope s_part_places) := ⟨rfl, rfl, rfl, by decide +kernel, rfl, by decide +kernel, by decide +kernel⟩
abbrev N_sign_places : List Str := ["kinds"]
theorem sc_sign_places : FnScope N_sign_places ["kinds"] (defScope s_sign_places) := ⟨rfl, rfl, rfl, by decide +kernel, rfl, by decide +kernel, by decide +kernel⟩
abbrev N_run_places : List Str := ["kinds"]
theorem sc_run_places : FnScope N_run_places ["kinds"] (defScope s_run_places) := ⟨rfl, rfl, rfl, by decide +kernel, rfl, by decide +kernel, by decide +kernel⟩
abbrev N_mark_places : List Str := ["kinds"]
theorem sc_mark_places : FnScope N_mark_places ["kinds"] (defScope s_mark_places) := ⟨rfl, rfl, rfl, by decide +kernel, rfl, by decide +kernel, by decide +kernel⟩
abbrev N_kinds_by_maker : List Str := ["ways", "kinds", "way"]
theorem sc_kinds_by_maker : FnScope N_kinds_by_maker ["ways"] (defScope s_kinds_by_maker) := ⟨rfl, rfl, rfl, by decide +kernel, rfl, by decide +kernel, by decide +kernel⟩
abbrev N__kind_of : List Str := ["piece", "mark"]
theorem sc__kind_of : FnScope N__kind_of ["piece"] (defScope s__kind_of) := ⟨rfl, rfl, rfl, by decide +kernel, rfl, by decide +kernel, by decide +kernel⟩
abbrev N__refs_to : List Str := ["kinds", "words", "refs", "piece", "kind", "row", "word"]
theorem sc__refs_to : FnScope N__refs_to ["kinds", "words"] (defScope s__refs_to) := ⟨rfl, rfl, rfl, by decide +kernel, rfl, by decide +kernel, by decide +kernel⟩
abbrev N_all_ways : List Str := ["program", "ways", "lot"]
theorem sc_all_ways : FnScope N_all_ways ["program"] (defScope s_all_ways) := ⟨rfl, rfl, rfl, by decide +kernel, rfl, by decide +kernel, by decide +kernel⟩
abbrev N_look_formulas : List Str := ["program", "first_kinds", "widths", "judge", "sort", "formulas", "made", "maker", "entry", "formula"]
theorem sc_look_formulas : FnScope N_look_formulas ["program"] (defScope s_look_formulas) := ⟨rfl, rfl, rfl, by decide +kernel, rfl, by decide +kernel, by decide +kernel⟩
abbrev N_look_asks : List Str := ["program", "sorts", "name", "ask", "judges", "judge", "twice", "entry", "one"]
theorem sc_look_asks : FnScope N_look_asks ["program"] (defScope s_look_asks) := ⟨rfl, rfl, rfl, by decide +kernel, rfl, by decide +kernel, by decide +kernel⟩
abbrev N__first_told : List Str := ["pairs", "told", "name", "value"]
theorem sc__first_told : FnScope N__first_told ["pairs"] (defScope s__first_told) := ⟨rfl, rfl, rfl, by decide +kernel, rfl, by decide +kernel, by decide +kernel⟩
abbrev N__look_makers_of : List Str := ["formulas", "sort", "first_kinds", "widths", "seen", "maker", "formula", "mention"]
theorem sc__look_makers_of : FnScope N__look_makers_of ["formulas", "sort", "first_kinds", "widths"] (defScope s__look_makers_of) := ⟨rfl, rfl, rfl, by decide +kernel, rfl, by decide +kernel, by decide +kernel⟩
abbrev N__mentions_in : List Str := ["sort", "formula", "mentions", "form", "_", "nums", "parts", "k", "atom", "place", "name", "refs"]
theorem sc__mentions_in : FnScope N__mentions_in ["sort", "formula"] (defScope s__mentions_in) := ⟨rfl, rfl, rfl, by decide +kernel, rfl, by decide +kernel, by decide +kernel⟩
abbrev N__look_mention : List Str := ["mention", "maker", "kinds", "widths"]
theorem sc__look_mention : FnScope N__look_mention ["mention", "maker", "kinds", "widths"] (defScope s__look_mention) := ⟨rfl, rfl, rfl, by decide +kernel, rfl, by decide +kernel, by decide +kernel⟩
abbrev N__fits : List Str := ["mention", "kinds", "widths", "places", "known", "ref"]
theorem sc__fits : FnScope N__fits ["mention", "kinds", "widths"] (defScope s__fits) := ⟨rfl, rfl, rfl, by decide +kernel, rfl, by decide +kernel, by decide +kernel⟩
abbrev N__is_let : List Str := ["ask", "sorts", "judge"]
theorem sc__is_let : FnScope N__is_let ["ask", "sorts"] (defScope s__is_let) := ⟨rfl, rfl, rfl, by decide +kernel, rfl, by decide +kernel, by decide +kernel⟩
abbrev N__may_lead : List Str := ["ask"]
theorem sc__may_lead : FnScope N__may_lead ["ask"] (defScope s__may_lead) := ⟨rfl, rfl, rfl, by decide +kernel, rfl, by decide +kernel, by decide +kernel⟩
abbrev N_look_names : List Str := ["program", "place", "entry"]
theorem sc_look_names : FnScope N_look_names ["program"] (defScope s_look_names) := ⟨rfl, rfl, rfl, by decide +kernel, rfl, by decide +kernel, by decide +kernel⟩
abbrev N__look_list : List Str := ["names", "seen", "name"]
theorem sc__look_list : FnScope N__look_list ["names"] (defScope s__look_list) := ⟨rfl, rfl, rfl, by decide +kernel, rfl, by decide +kernel, by decide +kernel⟩
abbrev N_look_mentions : List Str := ["program", "lots", "pairs", "maker", "pieces", "tests", "piece", "test", "lot", "pair"]
theorem sc_look_mentions : FnScope N_look_mentions ["program"] (defScope s_look_mentions) := ⟨rfl, rfl, rfl, by decide +kernel, rfl, by decide +kernel, by decide +kernel⟩
abbrev N_look_makers : List Str := ["program", "ways", "first_kinds", "way"]
theorem sc_look_makers : FnScope N_look_makers ["program"] (defScope s_look_makers) := ⟨rfl, rfl, rfl, by decide +kernel, rfl, by decide +kernel, by decide +kernel⟩
abbrev N_look_tests : List Str := ["program", "way", "places", "_", "one", "other"]
theorem sc_look_tests : FnScope N_look_tests ["program"] (defScope s_look_tests) := ⟨rfl, rfl, rfl, by decide +kernel, rfl, by decide +kernel, by decide +kernel⟩
abbrev N__look_name : List Str := ["name", "names"]
theorem sc__look_name : FnScope N__look_name ["name", "names"] (defScope s__look_name) := ⟨rfl, rfl, rfl, by decide +kernel, rfl, by decide +kernel, by decide +kernel⟩
abbrev N_has_only : List Str := ["word", "characters", "character"]
theorem sc_has_only : FnScope N_has_only ["word", "characters"] (defScope s_has_only) := ⟨rfl, rfl, rfl, by decide +kernel, rfl, by decide +kernel, by decide +kernel⟩
abbrev N_look_signs : List Str := ["program", "word"]
theorem sc_look_signs : FnScope N_look_signs ["program"] (defScope s_look_signs) := ⟨rfl, rfl, rfl, by decide +kernel, rfl, by decide +kernel, by decide +kernel⟩
abbrev N__words_of : List Str := ["program", "words", "pair", "numbers", "word", "integer"]
theorem sc__words_of : FnScope N__words_of ["program"] (defScope s__words_of) := ⟨rfl, rfl, rfl, by decide +kernel, rfl, by decide +kernel, by decide +kernel⟩
abbrev N__letters_of : List Str := ["program", "letters", "way", "piece", "mark"]
theorem sc__letters_of : FnScope N__letters_of ["program"] (defScope s__letters_of) := ⟨rfl, rfl, rfl, by decide +kernel, rfl, by decide +kernel, by decide +kernel⟩
abbrev N_Book___init__ : List Str := ["self", "program", "entry", "name", "ways", "words", "ask"]
theorem sc_Book___init__ : FnScope N_Book___init__ ["self", "program"] (defScope s_Book___init__) := ⟨rfl, rfl, rfl, by decide +kernel, rfl, by decide +kernel, by decide +kernel⟩
abbrev N_Book_asks : List Str := ["self"]
theorem sc_Book_asks : FnScope N_Book_asks ["self"] (defScope s_Book_asks) := ⟨rfl, rfl, rfl, by decide +kernel, rfl, by decide +kernel, by decide +kernel⟩
abbrev N_Book_ask : List Str := ["self", "name"]
theorem sc_Book_ask : FnScope N_Book_ask ["self", "name"] (defScope s_Book_ask) := ⟨rfl, rfl, rfl, by decide +kernel, rfl, by decide +kernel, by decide +kernel⟩
abbrev N__look_all : List Str := ["program"]
theorem sc__look_all : FnScope N__look_all ["program"] (defScope s__look_all) := ⟨rfl, rfl, rfl, by decide +kernel, rfl, by decide +kernel, by decide +kernel⟩
abbrev N__told_by : List Str := ["numbers", "entries", "word", "integer"]
theorem sc__told_by : FnScope N__told_by ["numbers"] (defScope s__told_by) := ⟨rfl, rfl, rfl, by decide +kernel, rfl, by decide +kernel, by decide +kernel⟩
abbrev N__formulas_of : List Str := ["program", "found", "judge", "_", "formulas", "maker", "formula"]
theorem sc__formulas_of : FnScope N__formulas_of ["program"] (defScope s__formulas_of) := ⟨rfl, rfl, rfl, by decide +kernel, rfl, by decide +kernel, by decide +kernel⟩
abbrev N__law_pick : List Str := ["_law_pool", "_law_many", "_law_cell", "_law_told_here"]
theorem sc__law_pick : FnScope N__law_pick ["_law_pool", "_law_many"] (defScope s__law_pick) := ⟨rfl, rfl, rfl, by decide +kernel, rfl, by decide +kernel, by decide +kernel⟩
abbrev N__law_same : List Str := ["_law_told_here", "_law_due_here", "_law_k"]
theorem sc__law_same : FnScope N__law_same ["_law_told_here", "_law_due_here"] (defScope s__law_same) := ⟨rfl, rfl, rfl, by decide +kernel, rfl, by decide +kernel, by decide +kernel⟩
abbrev N__law_names : List Str := ["_law_pool", "_law_letter", "_law_ahead", "_law_tail", "_law_k"]
theorem sc__law_names : FnScope N__law_names ["_law_pool"] (defScope s__law_names) := ⟨rfl, rfl, rfl, by decide +kernel, rfl, by decide +kernel, by decide +kernel⟩
abbrev N__law_judges : List Str := ["_law_pool", "_law_names_here", "_law_maker", "_law_bodies", "_law_judges_here", "_law_k", "_law_sort"]
theorem sc__law_judges : FnScope N__law_judges ["_law_pool", "_law_names_here", "_law_maker"] (defScope s__law_judges) := ⟨rfl, rfl, rfl, by decide +kernel, rfl, by decide +kernel, by decide +kernel⟩
abbrev N__law_basic : List Str := ["_law_pool", "_law_name", "_law_what", "_law_word"]
theorem sc__law_basic : FnScope N__law_basic ["_law_pool", "_law_name", "_law_what"] (defScope s__law_basic) := ⟨rfl, rfl, rfl, by decide +kernel, rfl, by decide +kernel, by decide +kernel⟩
abbrev N__law_right : List Str := ["_law_pool", "_law_judge"]
theorem sc__law_right : FnScope N__law_right ["_law_pool", "_law_judge"] (defScope s__law_right) := ⟨rfl, rfl, rfl, by decide +kernel, rfl, by decide +kernel, by decide +kernel⟩
abbrev N__law_taken : List Str := ["_law_pool", "_law_left", "_law_sorts", "_law_noise", "_law_names_here", "_law_good", "_law_judge", "_law_sort"]
theorem sc__law_taken : FnScope N__law_taken ["_law_pool", "_law_left", "_law_sorts", "_law_noise", "_law_names_here"] (defScope s__law_taken) := ⟨rfl, rfl, rfl, by decide +kernel, rfl, by decide +kernel, by decide +kernel⟩
abbrev N__law_wish : List Str := ["_law_pool", "_law_room", "_law_left", "_law_noise", "_law_names_here", "_law_numbers", "_law_options", "_law_what", "_law_sides", "_law_k", "_law_judge", "_law_part", "_law_one", "_law_side"]
theorem sc__law_wish : FnScope N__law_wish ["_law_pool", "_law_room", "_law_left", "_law_noise", "_law_names_here"] (defScope s__law_wish) := ⟨rfl, rfl, rfl, by decide +kernel, rfl, by decide +kernel, by decide +kernel⟩
abbrev N__law_framed : List Str := ["_law_pool", "_law_one", "_law_name", "_law_known", "_law_others", "_law_two", "_law_first", "_law_frames", "_law_made", "_law_more", "_law_right_here", "_law_judge"]
theorem sc__law_framed : FnScope N__law_framed ["_law_pool", "_law_one", "_law_name", "_law_known"] (defScope s__law_framed) := ⟨rfl, rfl, rfl, by decide +kernel, rfl, by decide +kernel, by decide +kernel⟩
abbrev N__law_walk : List Str := ["_law_wish_here", "_law_heard"]
theorem sc__law_walk : FnScope N__law_walk ["_law_wish_here", "_law_heard"] (defScope s__law_walk) := ⟨rfl, rfl, rfl, by decide +kernel, rfl, by decide +kernel, by decide +kernel⟩
abbrev N__law_due : List Str := ["_law_name", "_law_wish_here", "_law_judges_here", "_law_heard", "_law_names_here", "_law_fault", "_law_one", "_law_judge", "_law_twice", "_law_word", "_law_k", "_law_lets", "_law_line"]
theorem sc__law_due : FnScope N__law_due ["_law_name", "_law_wish_here", "_law_judges_here"] (defScope s__law_due) := ⟨rfl, rfl, rfl, by decide +kernel, rfl, by decide +kernel, by decide +kernel⟩
abbrev N__law_told : List Str := ["_law_tree", "_law_how", "_law_made", "_law_line", "_law_told_here", "e"]
theorem sc__law_told : FnScope N__law_told ["_law_tree", "_law_how"] (defScope s__law_told) := ⟨rfl, rfl, rfl, by decide +kernel, rfl, by decide +kernel, by decide +kernel⟩
abbrev N_law : List Str := ["_law_script", "_law_pool", "_law_names_here", "_law_turned", "_law_asks", "_law_judges_here", "_law_lot", "_law_tree", "_law_known", "_law_name", "_law_turn", "_law_what", "_law_noise", "_law_lines", "_law_due_here", "_law_k", "_law_how", "_law_line", "_law_wish_here", "_law_room", "_law_pair"]
theorem sc_law : FnScope N_law ["_law_script"] (defScope s_law) := ⟨rfl, rfl, rfl, by decide +kernel, rfl, by decide +kernel, by decide +kernel⟩
theorem sci_TwiceNamed : FnScope ["self", "name"] ["self", "name"] (defScope si_TwiceNamed) := ⟨rfl, rfl, rfl, by decide +kernel, rfl, by decide +kernel, by decide +kernel⟩
theorem sci_BadSign : FnScope ["self", "word"] ["self", "word"] (defScope si_BadSign) := ⟨rfl, rfl, rfl, by decide +kernel, rfl, by decide +kernel, by decide +kernel⟩
theorem sci_NoName : FnScope ["self", "name"] ["self", "name"] (defScope si_NoName) := ⟨rfl, rfl, rfl, by decide +kernel, rfl, by decide +kernel, by decide +kernel⟩
theorem sci_BadMaker : FnScope ["self", "maker"] ["self", "maker"] (defScope si_BadMaker) := ⟨rfl, rfl, rfl, by decide +kernel, rfl, by decide +kernel, by decide +kernel⟩
theorem sci_BadRef : FnScope ["self", "maker"] ["self", "maker"] (defScope si_BadRef) := ⟨rfl, rfl, rfl, by decide +kernel, rfl, by decide +kernel, by decide +kernel⟩
theorem sci_Missing : FnScope ["self", "judge", "maker"] ["self", "judge", "maker"] (defScope si_Missing) := ⟨rfl, rfl, rfl, by decide +kernel, rfl, by decide +kernel, by decide +kernel⟩
theorem sci_BadAsk : FnScope ["self", "name"] ["self", "name"] (defScope si_BadAsk) := ⟨rfl, rfl, rfl, by decide +kernel, rfl, by decide +kernel, by decide +kernel⟩
theorem us1 {α : Type} {us : List α} (h : us.length = 1) : ∃ a, us = [a] := List.length_eq_one_iff.mp h
theorem us2 {α : Type} {us : List α} (h : us.length = 2) : ∃ a b, us = [a, b] := by
  cases us with
  | nil => cases h
  | cons x us =>
    obtain ⟨b, rfl⟩ := us1 (Nat.succ.inj h)
    exact ⟨x, b, rfl⟩
theorem us3 {α : Type} {us : List α} (h : us.length = 3) : ∃ a b c, us = [a, b, c] := by
  cases us with
  | nil => cases h
  | cons x us =>
    obtain ⟨b, c, rfl⟩ := us2 (Nat.succ.inj h)
    exact ⟨x, b, c, rfl⟩
theorem us4 {α : Type} {us : List α} (h : us.length = 4) : ∃ a b c d, us = [a, b, c, d] := by
  cases us with
  | nil => cases h
  | cons x us =>
    obtain ⟨b, c, d, rfl⟩ := us3 (Nat.succ.inj h)
    exact ⟨x, b, c, d, rfl⟩
theorem us5 {α : Type} {us : List α} (h : us.length = 5) : ∃ a b c d e, us = [a, b, c, d, e] := by
  cases us with
  | nil => cases h
  | cons x us =>
    obtain ⟨b, c, d, e, rfl⟩ := us4 (Nat.succ.inj h)
    exact ⟨x, b, c, d, e, rfl⟩
set_option genInjectivity false in
set_option genSizeOfSpec false in
structure Txt (K : PySem.W.Frag) (mg : Str → Option Value) where
  c_TwiceNamed : Addr
  oe_TwiceNamed : OexC K c_TwiceNamed
  no_TwiceNamed : ∀ n ∈ (["name"] : List Str), PySem.W.findIn K (.ref c_TwiceNamed) n = some none
  fi_TwiceNamed : Addr
  fdi_TwiceNamed : FuncData
  ic_TwiceNamed : PySem.W.findIn K (.ref c_TwiceNamed) "__init__" = some (some (.ref fi_TwiceNamed))
  ti_TwiceNamed : PySem.W.typeIn K (.ref fi_TwiceNamed) = some (.type "function")
  Fi_TwiceNamed : Fun K "__init__" "TwiceNamed.__init__" si_TwiceNamed fi_TwiceNamed fdi_TwiceNamed
  gc_TwiceNamed : mg "TwiceNamed" = some (.ref c_TwiceNamed)
  c_BadSign : Addr
  oe_BadSign : OexC K c_BadSign
  no_BadSign : ∀ n ∈ (["word"] : List Str), PySem.W.findIn K (.ref c_BadSign) n = some none
  fi_BadSign : Addr
  fdi_BadSign : FuncData
  ic_BadSign : PySem.W.findIn K (.ref c_BadSign) "__init__" = some (some (.ref fi_BadSign))
  ti_BadSign : PySem.W.typeIn K (.ref fi_BadSign) = some (.type "function")
  Fi_BadSign : Fun K "__init__" "BadSign.__init__" si_BadSign fi_BadSign fdi_BadSign
  gc_BadSign : mg "BadSign" = some (.ref c_BadSign)
  c_NoName : Addr
  oe_NoName : OexC K c_NoName
  no_NoName : ∀ n ∈ (["name"] : List Str), PySem.W.findIn K (.ref c_NoName) n = some none
  fi_NoName : Addr
  fdi_NoName : FuncData
  ic_NoName : PySem.W.findIn K (.ref c_NoName) "__init__" = some (some (.ref fi_NoName))
  ti_NoName : PySem.W.typeIn K (.ref fi_NoName) = some (.type "function")
  Fi_NoName : Fun K "__init__" "NoName.__init__" si_NoName fi_NoName fdi_NoName
  gc_NoName : mg "NoName" = some (.ref c_NoName)
  c_BadMaker : Addr
  oe_BadMaker : OexC K c_BadMaker
  no_BadMaker : ∀ n ∈ (["maker"] : List Str), PySem.W.findIn K (.ref c_BadMaker) n = some none
  fi_BadMaker : Addr
  fdi_BadMaker : FuncData
  ic_BadMaker : PySem.W.findIn K (.ref c_BadMaker) "__init__" = some (some (.ref fi_BadMaker))
  ti_BadMaker : PySem.W.typeIn K (.ref fi_BadMaker) = some (.type "function")
  Fi_BadMaker : Fun K "__init__" "BadMaker.__init__" si_BadMaker fi_BadMaker fdi_BadMaker
  gc_BadMaker : mg "BadMaker" = some (.ref c_BadMaker)
  c_BadRef : Addr
  oe_BadRef : OexC K c_BadRef
  no_BadRef : ∀ n ∈ (["maker"] : List Str), PySem.W.findIn K (.ref c_BadRef) n = some none
  fi_BadRef : Addr
  fdi_BadRef : FuncData
  ic_BadRef : PySem.W.findIn K (.ref c_BadRef) "__init__" = some (some (.ref fi_BadRef))
  ti_BadRef : PySem.W.typeIn K (.ref fi_BadRef) = some (.type "function")
  Fi_BadRef : Fun K "__init__" "BadRef.__init__" si_BadRef fi_BadRef fdi_BadRef
  gc_BadRef : mg "BadRef" = some (.ref c_BadRef)
  c_Missing : Addr
  oe_Missing : OexC K c_Missing
  no_Missing : ∀ n ∈ (["judge", "maker"] : List Str), PySem.W.findIn K (.ref c_Missing) n = some none
  fi_Missing : Addr
  fdi_Missing : FuncData
  ic_Missing : PySem.W.findIn K (.ref c_Missing) "__init__" = some (some (.ref fi_Missing))
  ti_Missing : PySem.W.typeIn K (.ref fi_Missing) = some (.type "function")
  Fi_Missing : Fun K "__init__" "Missing.__init__" si_Missing fi_Missing fdi_Missing
  gc_Missing : mg "Missing" = some (.ref c_Missing)
  c_BadAsk : Addr
  oe_BadAsk : OexC K c_BadAsk
  no_BadAsk : ∀ n ∈ (["name"] : List Str), PySem.W.findIn K (.ref c_BadAsk) n = some none
  fi_BadAsk : Addr
  fdi_BadAsk : FuncData
  ic_BadAsk : PySem.W.findIn K (.ref c_BadAsk) "__init__" = some (some (.ref fi_BadAsk))
  ti_BadAsk : PySem.W.typeIn K (.ref fi_BadAsk) = some (.type "function")
  Fi_BadAsk : Fun K "__init__" "BadAsk.__init__" si_BadAsk fi_BadAsk fdi_BadAsk
  gc_BadAsk : mg "BadAsk" = some (.ref c_BadAsk)
  c_Book : Addr
  cls_Book : Cls K c_Book
  gc_Book : mg "Book" = some (.ref c_Book)
  na_Book_program : NoAttr K c_Book "program"
  na_Book_signs : NoAttr K c_Book "signs"
  na_Book_rows : NoAttr K c_Book "rows"
  na_Book_start : NoAttr K c_Book "start"
  na_Book__ways : NoAttr K c_Book "_ways"
  na_Book__kinds : NoAttr K c_Book "_kinds"
  na_Book__pairs : NoAttr K c_Book "_pairs"
  na_Book__numbers : NoAttr K c_Book "_numbers"
  na_Book__sorts : NoAttr K c_Book "_sorts"
  na_Book__formulas : NoAttr K c_Book "_formulas"
  na_Book__asks : NoAttr K c_Book "_asks"
  f_judges_of : Addr
  fd_judges_of : FuncData
  F_judges_of : Fun K "judges_of" "judges_of" s_judges_of f_judges_of fd_judges_of
  g_judges_of : mg "judges_of" = some (.ref f_judges_of)
  f_asks_in : Addr
  fd_asks_in : FuncData
  F_asks_in : Fun K "asks_in" "asks_in" s_asks_in f_asks_in fd_asks_in
  g_asks_in : mg "asks_in" = some (.ref f_asks_in)
  f_has_first : Addr
  fd_has_first : FuncData
  F_has_first : Fun K "has_first" "has_first" s_has_first f_has_first fd_has_first
  g_has_first : mg "has_first" = some (.ref f_has_first)
  f_all_asks : Addr
  fd_all_asks : FuncData
  F_all_asks : Fun K "all_asks" "all_asks" s_all_asks f_all_asks fd_all_asks
  g_all_asks : mg "all_asks" = some (.ref f_all_asks)
  f_own_judge : Addr
  fd_own_judge : FuncData
  F_own_judge : Fun K "own_judge" "own_judge" s_own_judge f_own_judge fd_own_judge
  g_own_judge : mg "own_judge" = some (.ref f_own_judge)
  f_kinds_of : Addr
  fd_kinds_of : FuncData
  F_kinds_of : Fun K "kinds_of" "kinds_of" s_kinds_of f_kinds_of fd_kinds_of
  g_kinds_of : mg "kinds_of" = some (.ref f_kinds_of)
  f_part_places : Addr
  fd_part_places : FuncData
  F_part_places : Fun K "part_places" "part_places" s_part_places f_part_places fd_part_places
  g_part_places : mg "part_places" = some (.ref f_part_places)
  f_sign_places : Addr
  fd_sign_places : FuncData
  F_sign_places : Fun K "sign_places" "sign_places" s_sign_places f_sign_places fd_sign_places
  g_sign_places : mg "sign_places" = some (.ref f_sign_places)
  f_run_places : Addr
  fd_run_places : FuncData
  F_run_places : Fun K "run_places" "run_places" s_run_places f_run_places fd_run_places
  g_run_places : mg "run_places" = some (.ref f_run_places)
  f_mark_places : Addr
  fd_mark_places : FuncData
  F_mark_places : Fun K "mark_places" "mark_places" s_mark_places f_mark_places fd_mark_places
  g_mark_places : mg "mark_places" = some (.ref f_mark_places)
  f_kinds_by_maker : Addr
  fd_kinds_by_maker : FuncData
  F_kinds_by_maker : Fun K "kinds_by_maker" "kinds_by_maker" s_kinds_by_maker f_kinds_by_maker fd_kinds_by_maker
  g_kinds_by_maker : mg "kinds_by_maker" = some (.ref f_kinds_by_maker)
  f__kind_of : Addr
  fd__kind_of : FuncData
  F__kind_of : Fun K "_kind_of" "_kind_of" s__kind_of f__kind_of fd__kind_of
  g__kind_of : mg "_kind_of" = some (.ref f__kind_of)
  f__refs_to : Addr
  fd__refs_to : FuncData
  F__refs_to : Fun K "_refs_to" "_refs_to" s__refs_to f__refs_to fd__refs_to
  g__refs_to : mg "_refs_to" = some (.ref f__refs_to)
  f_all_ways : Addr
  fd_all_ways : FuncData
  F_all_ways : Fun K "all_ways" "all_ways" s_all_ways f_all_ways fd_all_ways
  g_all_ways : mg "all_ways" = some (.ref f_all_ways)
  f_look_formulas : Addr
  fd_look_formulas : FuncData
  F_look_formulas : Fun K "look_formulas" "look_formulas" s_look_formulas f_look_formulas fd_look_formulas
  g_look_formulas : mg "look_formulas" = some (.ref f_look_formulas)
  f_look_asks : Addr
  fd_look_asks : FuncData
  F_look_asks : Fun K "look_asks" "look_asks" s_look_asks f_look_asks fd_look_asks
  g_look_asks : mg "look_asks" = some (.ref f_look_asks)
  f__first_told : Addr
  fd__first_told : FuncData
  F__first_told : Fun K "_first_told" "_first_told" s__first_told f__first_told fd__first_told
  g__first_told : mg "_first_told" = some (.ref f__first_told)
  f__look_makers_of : Addr
  fd__look_makers_of : FuncData
  F__look_makers_of : Fun K "_look_makers_of" "_look_makers_of" s__look_makers_of f__look_makers_of fd__look_makers_of
  g__look_makers_of : mg "_look_makers_of" = some (.ref f__look_makers_of)
  f__mentions_in : Addr
  fd__mentions_in : FuncData
  F__mentions_in : Fun K "_mentions_in" "_mentions_in" s__mentions_in f__mentions_in fd__mentions_in
  g__mentions_in : mg "_mentions_in" = some (.ref f__mentions_in)
  f__look_mention : Addr
  fd__look_mention : FuncData
  F__look_mention : Fun K "_look_mention" "_look_mention" s__look_mention f__look_mention fd__look_mention
  g__look_mention : mg "_look_mention" = some (.ref f__look_mention)
  f__fits : Addr
  fd__fits : FuncData
  F__fits : Fun K "_fits" "_fits" s__fits f__fits fd__fits
  g__fits : mg "_fits" = some (.ref f__fits)
  f__is_let : Addr
  fd__is_let : FuncData
  F__is_let : Fun K "_is_let" "_is_let" s__is_let f__is_let fd__is_let
  g__is_let : mg "_is_let" = some (.ref f__is_let)
  f__may_lead : Addr
  fd__may_lead : FuncData
  F__may_lead : Fun K "_may_lead" "_may_lead" s__may_lead f__may_lead fd__may_lead
  g__may_lead : mg "_may_lead" = some (.ref f__may_lead)
  f_look_names : Addr
  fd_look_names : FuncData
  F_look_names : Fun K "look_names" "look_names" s_look_names f_look_names fd_look_names
  g_look_names : mg "look_names" = some (.ref f_look_names)
  f__look_list : Addr
  fd__look_list : FuncData
  F__look_list : Fun K "_look_list" "_look_list" s__look_list f__look_list fd__look_list
  g__look_list : mg "_look_list" = some (.ref f__look_list)
  f_look_mentions : Addr
  fd_look_mentions : FuncData
  F_look_mentions : Fun K "look_mentions" "look_mentions" s_look_mentions f_look_mentions fd_look_mentions
  g_look_mentions : mg "look_mentions" = some (.ref f_look_mentions)
  f_look_makers : Addr
  fd_look_makers : FuncData
  F_look_makers : Fun K "look_makers" "look_makers" s_look_makers f_look_makers fd_look_makers
  g_look_makers : mg "look_makers" = some (.ref f_look_makers)
  f_look_tests : Addr
  fd_look_tests : FuncData
  F_look_tests : Fun K "look_tests" "look_tests" s_look_tests f_look_tests fd_look_tests
  g_look_tests : mg "look_tests" = some (.ref f_look_tests)
  f__look_name : Addr
  fd__look_name : FuncData
  F__look_name : Fun K "_look_name" "_look_name" s__look_name f__look_name fd__look_name
  g__look_name : mg "_look_name" = some (.ref f__look_name)
  f_has_only : Addr
  fd_has_only : FuncData
  F_has_only : Fun K "has_only" "has_only" s_has_only f_has_only fd_has_only
  g_has_only : mg "has_only" = some (.ref f_has_only)
  f_look_signs : Addr
  fd_look_signs : FuncData
  F_look_signs : Fun K "look_signs" "look_signs" s_look_signs f_look_signs fd_look_signs
  g_look_signs : mg "look_signs" = some (.ref f_look_signs)
  f__words_of : Addr
  fd__words_of : FuncData
  F__words_of : Fun K "_words_of" "_words_of" s__words_of f__words_of fd__words_of
  g__words_of : mg "_words_of" = some (.ref f__words_of)
  f__letters_of : Addr
  fd__letters_of : FuncData
  F__letters_of : Fun K "_letters_of" "_letters_of" s__letters_of f__letters_of fd__letters_of
  g__letters_of : mg "_letters_of" = some (.ref f__letters_of)
  f_Book___init__ : Addr
  fd_Book___init__ : FuncData
  F_Book___init__ : Fun K "__init__" "Book.__init__" s_Book___init__ f_Book___init__ fd_Book___init__
  mk_Book : Mk K c_Book f_Book___init__
  f_Book_asks : Addr
  fd_Book_asks : FuncData
  F_Book_asks : Fun K "asks" "Book.asks" s_Book_asks f_Book_asks fd_Book_asks
  m_Book_asks : Meth K c_Book "asks" f_Book_asks
  f_Book_ask : Addr
  fd_Book_ask : FuncData
  F_Book_ask : Fun K "ask" "Book.ask" s_Book_ask f_Book_ask fd_Book_ask
  m_Book_ask : Meth K c_Book "ask" f_Book_ask
  f__look_all : Addr
  fd__look_all : FuncData
  F__look_all : Fun K "_look_all" "_look_all" s__look_all f__look_all fd__look_all
  g__look_all : mg "_look_all" = some (.ref f__look_all)
  f__told_by : Addr
  fd__told_by : FuncData
  F__told_by : Fun K "_told_by" "_told_by" s__told_by f__told_by fd__told_by
  g__told_by : mg "_told_by" = some (.ref f__told_by)
  f__formulas_of : Addr
  fd__formulas_of : FuncData
  F__formulas_of : Fun K "_formulas_of" "_formulas_of" s__formulas_of f__formulas_of fd__formulas_of
  g__formulas_of : mg "_formulas_of" = some (.ref f__formulas_of)
  f__law_pick : Addr
  fd__law_pick : FuncData
  F__law_pick : Fun K "_law_pick" "_law_pick" s__law_pick f__law_pick fd__law_pick
  g__law_pick : mg "_law_pick" = some (.ref f__law_pick)
  f__law_same : Addr
  fd__law_same : FuncData
  F__law_same : Fun K "_law_same" "_law_same" s__law_same f__law_same fd__law_same
  g__law_same : mg "_law_same" = some (.ref f__law_same)
  f__law_names : Addr
  fd__law_names : FuncData
  F__law_names : Fun K "_law_names" "_law_names" s__law_names f__law_names fd__law_names
  g__law_names : mg "_law_names" = some (.ref f__law_names)
  f__law_judges : Addr
  fd__law_judges : FuncData
  F__law_judges : Fun K "_law_judges" "_law_judges" s__law_judges f__law_judges fd__law_judges
  g__law_judges : mg "_law_judges" = some (.ref f__law_judges)
  f__law_basic : Addr
  fd__law_basic : FuncData
  F__law_basic : Fun K "_law_basic" "_law_basic" s__law_basic f__law_basic fd__law_basic
  g__law_basic : mg "_law_basic" = some (.ref f__law_basic)
  f__law_right : Addr
  fd__law_right : FuncData
  F__law_right : Fun K "_law_right" "_law_right" s__law_right f__law_right fd__law_right
  g__law_right : mg "_law_right" = some (.ref f__law_right)
  f__law_taken : Addr
  fd__law_taken : FuncData
  F__law_taken : Fun K "_law_taken" "_law_taken" s__law_taken f__law_taken fd__law_taken
  g__law_taken : mg "_law_taken" = some (.ref f__law_taken)
  f__law_wish : Addr
  fd__law_wish : FuncData
  F__law_wish : Fun K "_law_wish" "_law_wish" s__law_wish f__law_wish fd__law_wish
  g__law_wish : mg "_law_wish" = some (.ref f__law_wish)
  f__law_framed : Addr
  fd__law_framed : FuncData
  F__law_framed : Fun K "_law_framed" "_law_framed" s__law_framed f__law_framed fd__law_framed
  g__law_framed : mg "_law_framed" = some (.ref f__law_framed)
  f__law_walk : Addr
  fd__law_walk : FuncData
  F__law_walk : Fun K "_law_walk" "_law_walk" s__law_walk f__law_walk fd__law_walk
  g__law_walk : mg "_law_walk" = some (.ref f__law_walk)
  f__law_due : Addr
  fd__law_due : FuncData
  F__law_due : Fun K "_law_due" "_law_due" s__law_due f__law_due fd__law_due
  g__law_due : mg "_law_due" = some (.ref f__law_due)
  f__law_told : Addr
  fd__law_told : FuncData
  F__law_told : Fun K "_law_told" "_law_told" s__law_told f__law_told fd__law_told
  g__law_told : mg "_law_told" = some (.ref f__law_told)
  f_law : Addr
  fd_law : FuncData
  F_law : Fun K "law" "law" s_law f_law fd_law
  g_law : mg "law" = some (.ref f_law)
  z_tuple : mg "tuple" = none
  z_len : mg "len" = none
  z_enumerate : mg "enumerate" = none
  z_all : mg "all" = none
  z_set : mg "set" = none
  z_int : mg "int" = none
  z_range : mg "range" = none
  z_isinstance : mg "isinstance" = none
  z_str : mg "str" = none
  z_bool : mg "bool" = none
  z_min : mg "min" = none
  z_list : mg "list" = none
  v_SIGNS : ∃ t, mg "SIGNS" = some (.int 1 t)
  v_ROWS : ∃ t, mg "ROWS" = some (.int 2 t)
  v_PAIRS : ∃ t, mg "PAIRS" = some (.int 3 t)
  v_NUMBERS : ∃ t, mg "NUMBERS" = some (.int 4 t)
  v_START : ∃ t, mg "START" = some (.int 5 t)
  v_LOTS : ∃ t, mg "LOTS" = some (.int 6 t)
  v_JUDGES : ∃ t, mg "JUDGES" = some (.int 7 t)
  v_ASKS : ∃ t, mg "ASKS" = some (.int 8 t)
theorem Txt.b_judges_of {K : PySem.W.Frag} {mg : Str → Option Value} (T : Txt K mg) : Binds K T.fd_judges_of ["ask"] [] := T.F_judges_of.binds fun _ _ _ _ _ _ us hl => by obtain ⟨_, rfl⟩ := us1 hl; rfl
theorem Txt.b_asks_in {K : PySem.W.Frag} {mg : Str → Option Value} (T : Txt K mg) : Binds K T.fd_asks_in ["ask"] [] := T.F_asks_in.binds fun _ _ _ _ _ _ us hl => by obtain ⟨_, rfl⟩ := us1 hl; rfl
theorem Txt.b_has_first {K : PySem.W.Frag} {mg : Str → Option Value} (T : Txt K mg) : Binds K T.fd_has_first ["ask"] [] := T.F_has_first.binds fun _ _ _ _ _ _ us hl => by obtain ⟨_, rfl⟩ := us1 hl; rfl
theorem Txt.b_all_asks {K : PySem.W.Frag} {mg : Str → Option Value} (T : Txt K mg) : Binds K T.fd_all_asks ["ask"] [] := T.F_all_asks.binds fun _ _ _ _ _ _ us hl => by obtain ⟨_, rfl⟩ := us1 hl; rfl
theorem Txt.b_own_judge {K : PySem.W.Frag} {mg : Str → Option Value} (T : Txt K mg) : Binds K T.fd_own_judge ["ask"] [] := T.F_own_judge.binds fun _ _ _ _ _ _ us hl => by obtain ⟨_, rfl⟩ := us1 hl; rfl
theorem Txt.b_kinds_of {K : PySem.W.Frag} {mg : Str → Option Value} (T : Txt K mg) : Binds K T.fd_kinds_of ["way"] [] := T.F_kinds_of.binds fun _ _ _ _ _ _ us hl => by obtain ⟨_, rfl⟩ := us1 hl; rfl
theorem Txt.b_part_places {K : PySem.W.Frag} {mg : Str → Option Value} (T : Txt K mg) : Binds K T.fd_part_places ["kinds"] [] := T.F_part_places.binds fun _ _ _ _ _ _ us hl => by obtain ⟨_, rfl⟩ := us1 hl; rfl
theorem Txt.b_sign_places {K : PySem.W.Frag} {mg : Str → Option Value} (T : Txt K mg) : Binds K T.fd_sign_places ["kinds"] [] := T.F_sign_places.binds fun _ _ _ _ _ _ us hl => by obtain ⟨_, rfl⟩ := us1 hl; rfl
theorem Txt.b_run_places {K : PySem.W.Frag} {mg : Str → Option Value} (T : Txt K mg) : Binds K T.fd_run_places ["kinds"] [] := T.F_run_places.binds fun _ _ _ _ _ _ us hl => by obtain ⟨_, rfl⟩ := us1 hl; rfl
theorem Txt.b_mark_places {K : PySem.W.Frag} {mg : Str → Option Value} (T : Txt K mg) : Binds K T.fd_mark_places ["kinds"] [] := T.F_mark_places.binds fun _ _ _ _ _ _ us hl => by obtain ⟨_, rfl⟩ := us1 hl; rfl
theorem Txt.b_kinds_by_maker {K : PySem.W.Frag} {mg : Str → Option Value} (T : Txt K mg) : Binds K T.fd_kinds_by_maker ["ways"] [] := T.F_kinds_by_maker.binds fun _ _ _ _ _ _ us hl => by obtain ⟨_, rfl⟩ := us1 hl; rfl
theorem Txt.b__kind_of {K : PySem.W.Frag} {mg : Str → Option Value} (T : Txt K mg) : Binds K T.fd__kind_of ["piece"] [] := T.F__kind_of.binds fun _ _ _ _ _ _ us hl => by obtain ⟨_, rfl⟩ := us1 hl; rfl
theorem Txt.b__refs_to {K : PySem.W.Frag} {mg : Str → Option Value} (T : Txt K mg) : Binds K T.fd__refs_to ["kinds", "words"] [] := T.F__refs_to.binds fun _ _ _ _ _ _ us hl => by obtain ⟨_, _, rfl⟩ := us2 hl; rfl
theorem Txt.b_all_ways {K : PySem.W.Frag} {mg : Str → Option Value} (T : Txt K mg) : Binds K T.fd_all_ways ["program"] [] := T.F_all_ways.binds fun _ _ _ _ _ _ us hl => by obtain ⟨_, rfl⟩ := us1 hl; rfl
theorem Txt.b_look_formulas {K : PySem.W.Frag} {mg : Str → Option Value} (T : Txt K mg) : Binds K T.fd_look_formulas ["program"] [] := T.F_look_formulas.binds fun _ _ _ _ _ _ us hl => by obtain ⟨_, rfl⟩ := us1 hl; rfl
theorem Txt.b_look_asks {K : PySem.W.Frag} {mg : Str → Option Value} (T : Txt K mg) : Binds K T.fd_look_asks ["program"] [] := T.F_look_asks.binds fun _ _ _ _ _ _ us hl => by obtain ⟨_, rfl⟩ := us1 hl; rfl
theorem Txt.b__first_told {K : PySem.W.Frag} {mg : Str → Option Value} (T : Txt K mg) : Binds K T.fd__first_told ["pairs"] [] := T.F__first_told.binds fun _ _ _ _ _ _ us hl => by obtain ⟨_, rfl⟩ := us1 hl; rfl
theorem Txt.b__look_makers_of {K : PySem.W.Frag} {mg : Str → Option Value} (T : Txt K mg) : Binds K T.fd__look_makers_of ["formulas", "sort", "first_kinds", "widths"] [] := T.F__look_makers_of.binds fun _ _ _ _ _ _ us hl => by obtain ⟨_, _, _, _, rfl⟩ := us4 hl; rfl
theorem Txt.b__mentions_in {K : PySem.W.Frag} {mg : Str → Option Value} (T : Txt K mg) : Binds K T.fd__mentions_in ["sort", "formula"] [] := T.F__mentions_in.binds fun _ _ _ _ _ _ us hl => by obtain ⟨_, _, rfl⟩ := us2 hl; rfl
theorem Txt.b__look_mention {K : PySem.W.Frag} {mg : Str → Option Value} (T : Txt K mg) : Binds K T.fd__look_mention ["mention", "maker", "kinds", "widths"] [] := T.F__look_mention.binds fun _ _ _ _ _ _ us hl => by obtain ⟨_, _, _, _, rfl⟩ := us4 hl; rfl
theorem Txt.b__fits {K : PySem.W.Frag} {mg : Str → Option Value} (T : Txt K mg) : Binds K T.fd__fits ["mention", "kinds", "widths"] [] := T.F__fits.binds fun _ _ _ _ _ _ us hl => by obtain ⟨_, _, _, rfl⟩ := us3 hl; rfl
theorem Txt.b__is_let {K : PySem.W.Frag} {mg : Str → Option Value} (T : Txt K mg) : Binds K T.fd__is_let ["ask", "sorts"] [] := T.F__is_let.binds fun _ _ _ _ _ _ us hl => by obtain ⟨_, _, rfl⟩ := us2 hl; rfl
theorem Txt.b__may_lead {K : PySem.W.Frag} {mg : Str → Option Value} (T : Txt K mg) : Binds K T.fd__may_lead ["ask"] [] := T.F__may_lead.binds fun _ _ _ _ _ _ us hl => by obtain ⟨_, rfl⟩ := us1 hl; rfl
theorem Txt.b_look_names {K : PySem.W.Frag} {mg : Str → Option Value} (T : Txt K mg) : Binds K T.fd_look_names ["program"] [] := T.F_look_names.binds fun _ _ _ _ _ _ us hl => by obtain ⟨_, rfl⟩ := us1 hl; rfl
theorem Txt.b__look_list {K : PySem.W.Frag} {mg : Str → Option Value} (T : Txt K mg) : Binds K T.fd__look_list ["names"] [] := T.F__look_list.binds fun _ _ _ _ _ _ us hl => by obtain ⟨_, rfl⟩ := us1 hl; rfl
theorem Txt.b_look_mentions {K : PySem.W.Frag} {mg : Str → Option Value} (T : Txt K mg) : Binds K T.fd_look_mentions ["program"] [] := T.F_look_mentions.binds fun _ _ _ _ _ _ us hl => by obtain ⟨_, rfl⟩ := us1 hl; rfl
theorem Txt.b_look_makers {K : PySem.W.Frag} {mg : Str → Option Value} (T : Txt K mg) : Binds K T.fd_look_makers ["program"] [] := T.F_look_makers.binds fun _ _ _ _ _ _ us hl => by obtain ⟨_, rfl⟩ := us1 hl; rfl
theorem Txt.b_look_tests {K : PySem.W.Frag} {mg : Str → Option Value} (T : Txt K mg) : Binds K T.fd_look_tests ["program"] [] := T.F_look_tests.binds fun _ _ _ _ _ _ us hl => by obtain ⟨_, rfl⟩ := us1 hl; rfl
theorem Txt.b__look_name {K : PySem.W.Frag} {mg : Str → Option Value} (T : Txt K mg) : Binds K T.fd__look_name ["name", "names"] [] := T.F__look_name.binds fun _ _ _ _ _ _ us hl => by obtain ⟨_, _, rfl⟩ := us2 hl; rfl
theorem Txt.b_has_only {K : PySem.W.Frag} {mg : Str → Option Value} (T : Txt K mg) : Binds K T.fd_has_only ["word", "characters"] [] := T.F_has_only.binds fun _ _ _ _ _ _ us hl => by obtain ⟨_, _, rfl⟩ := us2 hl; rfl
theorem Txt.b_look_signs {K : PySem.W.Frag} {mg : Str → Option Value} (T : Txt K mg) : Binds K T.fd_look_signs ["program"] [] := T.F_look_signs.binds fun _ _ _ _ _ _ us hl => by obtain ⟨_, rfl⟩ := us1 hl; rfl
theorem Txt.b__words_of {K : PySem.W.Frag} {mg : Str → Option Value} (T : Txt K mg) : Binds K T.fd__words_of ["program"] [] := T.F__words_of.binds fun _ _ _ _ _ _ us hl => by obtain ⟨_, rfl⟩ := us1 hl; rfl
theorem Txt.b__letters_of {K : PySem.W.Frag} {mg : Str → Option Value} (T : Txt K mg) : Binds K T.fd__letters_of ["program"] [] := T.F__letters_of.binds fun _ _ _ _ _ _ us hl => by obtain ⟨_, rfl⟩ := us1 hl; rfl
theorem Txt.b_Book___init__ {K : PySem.W.Frag} {mg : Str → Option Value} (T : Txt K mg) : Binds K T.fd_Book___init__ ["self", "program"] [] := T.F_Book___init__.binds fun _ _ _ _ _ _ us hl => by obtain ⟨_, _, rfl⟩ := us2 hl; rfl
theorem Txt.b_Book_asks {K : PySem.W.Frag} {mg : Str → Option Value} (T : Txt K mg) : Binds K T.fd_Book_asks ["self"] [] := T.F_Book_asks.binds fun _ _ _ _ _ _ us hl => by obtain ⟨_, rfl⟩ := us1 hl; rfl
theorem Txt.b_Book_ask {K : PySem.W.Frag} {mg : Str → Option Value} (T : Txt K mg) : Binds K T.fd_Book_ask ["self", "name"] [] := T.F_Book_ask.binds fun _ _ _ _ _ _ us hl => by obtain ⟨_, _, rfl⟩ := us2 hl; rfl
theorem Txt.b__look_all {K : PySem.W.Frag} {mg : Str → Option Value} (T : Txt K mg) : Binds K T.fd__look_all ["program"] [] := T.F__look_all.binds fun _ _ _ _ _ _ us hl => by obtain ⟨_, rfl⟩ := us1 hl; rfl
theorem Txt.b__told_by {K : PySem.W.Frag} {mg : Str → Option Value} (T : Txt K mg) : Binds K T.fd__told_by ["numbers"] [] := T.F__told_by.binds fun _ _ _ _ _ _ us hl => by obtain ⟨_, rfl⟩ := us1 hl; rfl
theorem Txt.b__formulas_of {K : PySem.W.Frag} {mg : Str → Option Value} (T : Txt K mg) : Binds K T.fd__formulas_of ["program"] [] := T.F__formulas_of.binds fun _ _ _ _ _ _ us hl => by obtain ⟨_, rfl⟩ := us1 hl; rfl
theorem Txt.b__law_pick {K : PySem.W.Frag} {mg : Str → Option Value} (T : Txt K mg) : Binds K T.fd__law_pick ["_law_pool", "_law_many"] [] := T.F__law_pick.binds fun _ _ _ _ _ _ us hl => by obtain ⟨_, _, rfl⟩ := us2 hl; rfl
theorem Txt.b__law_same {K : PySem.W.Frag} {mg : Str → Option Value} (T : Txt K mg) : Binds K T.fd__law_same ["_law_told_here", "_law_due_here"] [] := T.F__law_same.binds fun _ _ _ _ _ _ us hl => by obtain ⟨_, _, rfl⟩ := us2 hl; rfl
theorem Txt.b__law_names {K : PySem.W.Frag} {mg : Str → Option Value} (T : Txt K mg) : Binds K T.fd__law_names ["_law_pool"] [] := T.F__law_names.binds fun _ _ _ _ _ _ us hl => by obtain ⟨_, rfl⟩ := us1 hl; rfl
theorem Txt.b__law_judges {K : PySem.W.Frag} {mg : Str → Option Value} (T : Txt K mg) : Binds K T.fd__law_judges ["_law_pool", "_law_names_here", "_law_maker"] [] := T.F__law_judges.binds fun _ _ _ _ _ _ us hl => by obtain ⟨_, _, _, rfl⟩ := us3 hl; rfl
theorem Txt.b__law_basic {K : PySem.W.Frag} {mg : Str → Option Value} (T : Txt K mg) : Binds K T.fd__law_basic ["_law_pool", "_law_name", "_law_what"] [] := T.F__law_basic.binds fun _ _ _ _ _ _ us hl => by obtain ⟨_, _, _, rfl⟩ := us3 hl; rfl
theorem Txt.b__law_right {K : PySem.W.Frag} {mg : Str → Option Value} (T : Txt K mg) : Binds K T.fd__law_right ["_law_pool", "_law_judge"] [] := T.F__law_right.binds fun _ _ _ _ _ _ us hl => by obtain ⟨_, _, rfl⟩ := us2 hl; rfl
theorem Txt.b__law_taken {K : PySem.W.Frag} {mg : Str → Option Value} (T : Txt K mg) : Binds K T.fd__law_taken ["_law_pool", "_law_left", "_law_sorts", "_law_noise", "_law_names_here"] [] := T.F__law_taken.binds fun _ _ _ _ _ _ us hl => by obtain ⟨_, _, _, _, _, rfl⟩ := us5 hl; rfl
theorem Txt.b__law_wish {K : PySem.W.Frag} {mg : Str → Option Value} (T : Txt K mg) : Binds K T.fd__law_wish ["_law_pool", "_law_room", "_law_left", "_law_noise", "_law_names_here"] [] := T.F__law_wish.binds fun _ _ _ _ _ _ us hl => by obtain ⟨_, _, _, _, _, rfl⟩ := us5 hl; rfl
theorem Txt.b__law_framed {K : PySem.W.Frag} {mg : Str → Option Value} (T : Txt K mg) : Binds K T.fd__law_framed ["_law_pool", "_law_one", "_law_name", "_law_known"] [] := T.F__law_framed.binds fun _ _ _ _ _ _ us hl => by obtain ⟨_, _, _, _, rfl⟩ := us4 hl; rfl
theorem Txt.b__law_walk {K : PySem.W.Frag} {mg : Str → Option Value} (T : Txt K mg) : Binds K T.fd__law_walk ["_law_wish_here", "_law_heard"] [] := T.F__law_walk.binds fun _ _ _ _ _ _ us hl => by obtain ⟨_, _, rfl⟩ := us2 hl; rfl
theorem Txt.b__law_due {K : PySem.W.Frag} {mg : Str → Option Value} (T : Txt K mg) : Binds K T.fd__law_due ["_law_name", "_law_wish_here", "_law_judges_here"] [] := T.F__law_due.binds fun _ _ _ _ _ _ us hl => by obtain ⟨_, _, _, rfl⟩ := us3 hl; rfl
theorem Txt.b__law_told {K : PySem.W.Frag} {mg : Str → Option Value} (T : Txt K mg) : Binds K T.fd__law_told ["_law_tree", "_law_how"] [] := T.F__law_told.binds fun _ _ _ _ _ _ us hl => by obtain ⟨_, _, rfl⟩ := us2 hl; rfl
theorem Txt.kp_look_asks_0 {K : PySem.W.Frag} {mg : Str → Option Value} (T : Txt K mg) : KwP K T.fd_look_asks ["program"] ["program"] [0] := kw_perm T.F_look_asks rfl fun _ _ _ _ _ _ ws hl => by obtain ⟨_, rfl⟩ := us1 hl; rfl
theorem Txt.ini_TwiceNamed {P : Program} {w : World} {K : PySem.W.Frag} {mg : Str → Option Value} {base : Heap} (T : Txt K mg) : FnOk P w K mg base CX0 1 T.fi_TwiceNamed T.fdi_TwiceNamed ["self", "name"] (iniSp K ["name"]) := ini_one T.Fi_TwiceNamed sci_TwiceNamed fun _ _ _ _ _ _ => pss_one (ps_ost (pv 0) (pv 1))
theorem Txt.bi_TwiceNamed {K : PySem.W.Frag} {mg : Str → Option Value} (T : Txt K mg) : Binds K T.fdi_TwiceNamed ["self", "name"] [] := T.Fi_TwiceNamed.binds fun _ _ _ _ _ _ us hl => by obtain ⟨_, _, rfl⟩ := us2 hl; rfl
theorem Txt.ini_BadSign {P : Program} {w : World} {K : PySem.W.Frag} {mg : Str → Option Value} {base : Heap} (T : Txt K mg) : FnOk P w K mg base CX0 1 T.fi_BadSign T.fdi_BadSign ["self", "word"] (iniSp K ["word"]) := ini_one T.Fi_BadSign sci_BadSign fun _ _ _ _ _ _ => pss_one (ps_ost (pv 0) (pv 1))
theorem Txt.bi_BadSign {K : PySem.W.Frag} {mg : Str → Option Value} (T : Txt K mg) : Binds K T.fdi_BadSign ["self", "word"] [] := T.Fi_BadSign.binds fun _ _ _ _ _ _ us hl => by obtain ⟨_, _, rfl⟩ := us2 hl; rfl
theorem Txt.ini_NoName {P : Program} {w : World} {K : PySem.W.Frag} {mg : Str → Option Value} {base : Heap} (T : Txt K mg) : FnOk P w K mg base CX0 1 T.fi_NoName T.fdi_NoName ["self", "name"] (iniSp K ["name"]) := ini_one T.Fi_NoName sci_NoName fun _ _ _ _ _ _ => pss_one (ps_ost (pv 0) (pv 1))
theorem Txt.bi_NoName {K : PySem.W.Frag} {mg : Str → Option Value} (T : Txt K mg) : Binds K T.fdi_NoName ["self", "name"] [] := T.Fi_NoName.binds fun _ _ _ _ _ _ us hl => by obtain ⟨_, _, rfl⟩ := us2 hl; rfl
theorem Txt.ini_BadMaker {P : Program} {w : World} {K : PySem.W.Frag} {mg : Str → Option Value} {base : Heap} (T : Txt K mg) : FnOk P w K mg base CX0 1 T.fi_BadMaker T.fdi_BadMaker ["self", "maker"] (iniSp K ["maker"]) := ini_one T.Fi_BadMaker sci_BadMaker fun _ _ _ _ _ _ => pss_one (ps_ost (pv 0) (pv 1))
theorem Txt.bi_BadMaker {K : PySem.W.Frag} {mg : Str → Option Value} (T : Txt K mg) : Binds K T.fdi_BadMaker ["self", "maker"] [] := T.Fi_BadMaker.binds fun _ _ _ _ _ _ us hl => by obtain ⟨_, _, rfl⟩ := us2 hl; rfl
theorem Txt.ini_BadRef {P : Program} {w : World} {K : PySem.W.Frag} {mg : Str → Option Value} {base : Heap} (T : Txt K mg) : FnOk P w K mg base CX0 1 T.fi_BadRef T.fdi_BadRef ["self", "maker"] (iniSp K ["maker"]) := ini_one T.Fi_BadRef sci_BadRef fun _ _ _ _ _ _ => pss_one (ps_ost (pv 0) (pv 1))
theorem Txt.bi_BadRef {K : PySem.W.Frag} {mg : Str → Option Value} (T : Txt K mg) : Binds K T.fdi_BadRef ["self", "maker"] [] := T.Fi_BadRef.binds fun _ _ _ _ _ _ us hl => by obtain ⟨_, _, rfl⟩ := us2 hl; rfl
theorem Txt.ini_Missing {P : Program} {w : World} {K : PySem.W.Frag} {mg : Str → Option Value} {base : Heap} (T : Txt K mg) : FnOk P w K mg base CX0 1 T.fi_Missing T.fdi_Missing ["self", "judge", "maker"] (iniSp K ["judge", "maker"]) := ini_two T.Fi_Missing sci_Missing fun _ _ _ _ _ _ => pss_cons (ps_ost (pv 0) (pv 1)) (pss_one (ps_ost (pv 0) (pv 2)))
theorem Txt.bi_Missing {K : PySem.W.Frag} {mg : Str → Option Value} (T : Txt K mg) : Binds K T.fdi_Missing ["self", "judge", "maker"] [] := T.Fi_Missing.binds fun _ _ _ _ _ _ us hl => by obtain ⟨_, _, _, rfl⟩ := us3 hl; rfl
theorem Txt.ini_BadAsk {P : Program} {w : World} {K : PySem.W.Frag} {mg : Str → Option Value} {base : Heap} (T : Txt K mg) : FnOk P w K mg base CX0 1 T.fi_BadAsk T.fdi_BadAsk ["self", "name"] (iniSp K ["name"]) := ini_one T.Fi_BadAsk sci_BadAsk fun _ _ _ _ _ _ => pss_one (ps_ost (pv 0) (pv 1))
theorem Txt.bi_BadAsk {K : PySem.W.Frag} {mg : Str → Option Value} (T : Txt K mg) : Binds K T.fdi_BadAsk ["self", "name"] [] := T.Fi_BadAsk.binds fun _ _ _ _ _ _ us hl => by obtain ⟨_, _, rfl⟩ := us2 hl; rfl
local macro_rules | `(tactic| walk_at "pd") => `(tactic| simp (config := { decide := true, maxSteps := 400000 }) only [dIZipL, dFzT, dDGetTU, dDInTU, dDGet2TU, dDcT, dDCompT, dFzT, dIsB_b, dStrI_i, dTupS_s, dRevT, revT_tx, Bk.pd_sg, Bk.pd_rows, Bk.pd_pairs, Bk.pd_nums, Bk.pd_start, Bk.pd_lots, Bk.pd_js, Bk.pd_as, dFldO, dFldV_o, dMethO, dMethV_o, dDGetU, dDInU, dDGet2U, dDc, dDComp, dIKeys, dFrzD_v, dFrzT_v, dFrzO, dFz, dFzD, dSetF, dMakeX, dMake, dSet0, dSAdd, Bk.dMethV_bk, Bk.dFldV_bk, Bk.bk_program, Bk.bk_signs, Bk.bk_rows, Bk.bk_start, Bk.bk_ways, Bk.bk_kinds, Bk.bk_pairs, Bk.bk_numbers, Bk.bk_sorts, Bk.bk_formulas, Bk.bk_asks, Bk.bk_m1, Bk.bk_m2, Bk.bk_m3, Bk.bk_m4, Bk.bk_m5, Bk.bk_m6, Bk.bk_m7, Bk.bk_m8, Bk.bk_m9, Bk.bk_ma, Bk.bk_mb, Bk.bk_mc, Bk.atI_5, Bk.atI_6, Bk.atI_7, Bk.atI_8, dAbs_i, tx_app, tx_len, tx_emp, dIx_tx, sgn_tx, cutS_to, cutS_fr, cutS_fr1, dPar, dIRng2, dIEnumS, dIStr, dInSg, dJoin, dSlS, dUpper, dChain, dDNewT, dDGetT, dDPutT, dMin3_i, dMax3_i, dCallX, dRaise, dSeq, dSet, dAsg, dgN, dRet, dRetN, dIfS, dFor, dLoop, dDrop, dNext, dVar, dC, dNil, dCons, dOp, dUn, dTest, dTru, dAnd, dOr, dNot, dAndV, dOrV, dNotV, dIfE, dTup, dLst, dCB, dCall, dCallP, dBM, dBML, dBM0, dLc, dComp, dYes, dgTup, dgCons, dgNil, dgSub, dPart, dNoPart, dAug, dIsi, dEq, dNe, wipeD, endsOf,
  dFrz, dFrzV_i, dFrzV_s, dFrzV_b, dFrzV_n, dFrzV_t, dFrzV_l, dFrzV_r, dAddL_i, dAddL_s, dAddL_t, dAddL_rr, dAddL_rl, dAddL_lr, dAddL_ll, dMulL_i, dMulL_s, dMulL_r, dSlL_v, dSlLV_t, dSlLV_l, dSlLV_r, dMinU_1, dMinU_2, dSumL_1, dSetTx_1, dIx_l, dLen_l, dInG_l, truD_rol, tyD_rol, dInt1_b, dISeqV_l, dLtS_i, dLtS_s, ltP_i, ltP_s, lsq_rol, dDNew, dDGet, dDGet2, dDSetd, dDPut, dSub_i, dInt2_i, dNeg_i, dCmp_i, dIsN_n, dNotN_n, dInG_t, dInG_r, dIx_t, dIx_r, dLen_s, dLen_t, dLen_r, dTuple_1, dList_1, dInt1_i, dRev_v, dRevV_t, dRevV_r, dISeq_v, dISeqV_t, dISeqV_r, dIEnum_v, dIEnumV_t, dIEnumV_r, dPop_0, dPop_i, dAppend_1, dExtend_1, dSub3_i, dIRng1_v, dRng1V_i,
  seqOf_tup, seqOf_rol, seqW_tup, eqK_ss, eqK_ii, eqK_bb, eqK_nn, eqK_ts, eqK_st, eqK_ti, eqK_is, eqK_ns, flatD_str, flatD_int, flatD_bl, flatD_non, isT_NoneType_bool, isT_NoneType_int, isT_NoneType_str, isT_NoneType_tuple, isT_NoneType_list, isT_bool_bool, isT_bool_int, isT_bool_str, isT_bool_tuple, isT_bool_list, isT_int_bool, isT_int_int, isT_int_str, isT_int_tuple, isT_int_list, isT_str_bool, isT_str_int, isT_str_str, isT_str_tuple, isT_str_list, isT_tuple_bool, isT_tuple_int, isT_tuple_str, isT_tuple_tuple, isT_tuple_list, isT_list_bool, isT_list_int, isT_list_str, isT_list_tuple, isT_list_list, isNon_non, isNon_bl, isNon_int, isNon_str, isNon_tup, tyD_non, tyD_bl, tyD_int, tyD_str, tyD_tup, truD_bl, truD_int, truD_tup,
  atI_0, atI_1, atI_2, atI_3, atI_4, atI_m1, atI_m2, atI_m3, Option.some.injEq, exists_eq_left', exists_eq_left, beq_self_eq_true, Bool.not_true, Bool.not_false, if_true, if_false, true_and, and_true, Bool.false_eq_true, ↓reduceIte,
  List.getElem?_cons_zero, List.getElem?_cons_succ, List.set_cons_zero, List.set_cons_succ, List.map_cons, List.map_nil, List.length_cons, List.length_nil, mset_same, mset_mset, List.isEmpty_nil, List.isEmpty_cons, decide_eq_true_eq, beq_iff_eq, seqI_0, List.eraseIdx_cons_zero, List.eraseIdx_cons_succ, ixN_40, ixN_41, ixN_42, ixN_43, Nat.reduceAdd])
local macro_rules | `(tactic| walk_at "ne") => `(tactic| first | assumption | exact Ne.symm (by assumption))
local macro_rules | `(tactic| walk_at "mu") => `(tactic| first | exact mset_same | assumption | exact mset_skip (by walk_at "ne") (by walk_at "mu"))
local macro_rules | `(tactic| walk_at "go") => `(tactic| repeat (first | walk_at "pd" | refine ⟨_, seqOf_ref (by walk_at "mu"), ?_⟩ | refine ⟨⟨_, _, lstOf_ref (by walk_at "mu")⟩, ?_⟩ | refine ⟨_, _, lstOf_ref (by walk_at "mu"), ?_⟩ | refine ⟨(show CMul _ _ from Or.inr ⟨by decide, by decide⟩), ?_⟩ | refine ⟨(show CDiv _ _ from ⟨by decide, by decide⟩), ?_⟩))
local macro_rules | `(tactic| walk_at "w") => `(tactic| try walk_at "pd")
section
variable {P : Program} {w : World} {K : PySem.W.Frag} {mg : Str → Option Value} {base : Heap}
def sp_all_ways : SpD := fun ds m Q => ∃ p : Prog, ds = [p.d] ∧ Sizes p ∧ Q (.rol (p.ways.map Way.d)) m
theorem ok_all_ways  (T : Txt K mg)  : FnOk P w K mg base CX0 (1) T.f_all_ways T.fd_all_ways ["program"] (spL K 1 sp_all_ways) := by
  refine fn_ok T.F_all_ways sc_all_ways (fun cdv A outer s H E hr =>
(gss_cons (gs_set (i := 1) sc_all_ways.nd rfl (.inl rfl) (ge_lst ga_nil))
 (gss_cons (gs_for PassesOwn.never rfl (gi_seq (ge_ix (gv 0) (ge_glb (by rfl) T.v_LOTS))) (gg_name (i := 2) sc_all_ways.nd rfl (.inl rfl))
 (gss_one (gs_expr (ge_bm PySem.F.slot_list_extend PySem.F.type_list_extend mt_extendU lm_extend (gv 1) (ga_cons (ge_ix (gv 2) ge_int) ga_nil)))))
 (gss_one (gs_ret (ge_frz (gv 1))))))) (fun ds m Q h => ?_)
  obtain ⟨p, rfl, hz, h⟩ := h
  rw [show startD N_all_ways [p.d] = [some (p.d), none, none] from rfl]
  unfold Prog.d
  walk_at "pd"
  intro q hq
  refine loop_accT (m0 := m) (p := q) (fun s' => ∃ x, s' = [some p.d, some (.ref q), x]) lotD (fun l => l.2.map Way.d) (us := p.lots) (init := []) (fun _ _ => trivial) ?_ ?_ ⟨_, rfl⟩ (PD.Sub.new hq) mset_same
  · rintro l hl acc s' m' R ⟨x, rfl⟩ b1 b2 hz2 hR
    unfold lotD waysD
    walk_at "pd"
    refine ⟨⟨_, _, lstOf_ref b2⟩, _, _, _, lstOf_ref b2, rfl, ?_, hR _ _ ⟨_, rfl⟩ ?_ mset_same⟩
    · have e : ([] ++ p.lots.flatMap fun l => l.2.map Way.d) = (p.ways).map Way.d := by
        unfold Prog.ways; rw [List.nil_append, List.map_flatMap]
      rw [e] at hz2
      have := hz.ways
      have e2 : (p.ways.map Way.d).length = p.ways.length := List.length_map _
      rw [e2] at hz2
      exact Nat.le_trans hz2 (Nat.le_trans this (by decide))
    · exact PD.Sub.new' b1 hq
  · rintro s' m' ⟨x, rfl⟩ b1 b2
    walk_at "pd"
    refine ⟨_, b2, m, b1.del hq, ?_⟩
    have e : ([] ++ p.lots.flatMap fun l => l.2.map Way.d) = (p.ways).map Way.d := by
      unfold Prog.ways; rw [List.nil_append, List.map_flatMap]
    rw [e]; exact h
def sp__kind_of : SpD := fun ds m Q => ∃ q : Piece, ds = [q.d] ∧ (∀ ms, q = .plain ms → ms.length ≤ 10) ∧ Q (kindD q.k) m
theorem ok__kind_of  (T : Txt K mg)  : FnOk P w K mg base CX0 (1) T.f__kind_of T.fd__kind_of ["piece"] (spL K 1 sp__kind_of) := by
  refine fn_ok T.F__kind_of sc__kind_of (fun cdv A outer s H E hr =>
(gss_cons (gs_if (gt_cmpR (op_eqS hr.units) lr_eq (ge_ix (gv 0) ge_int) ge_str (nomark _))
 (gss_one (gs_ret ge_str))
 gss_nil)
 (gss_one (gs_ret (ge_callTy call_tuple_of lc_tuple (by rfl) T.z_tuple (by decide +kernel) (ga_cons (ge_lc (own := [("mark", 1)]) rfl sc__kind_of.nd (gi_seq (ge_ix (gv 0) ge_int)) (blkOk_by (N := N__kind_of) (sc := defScope s__kind_of) (by decide +kernel)) (fun _ _ _ _ _ => (gg_name (i := 1) sc__kind_of.nd rfl (.inl rfl))) (fun _ _ _ _ _ => gts_nil) (fun _ _ _ _ _ => (ge_ix (gv 1) ge_int)) (by decide)) ga_nil)))))) (fun ds m Q h => ?_)
  obtain ⟨q, rfl, hz, h⟩ := h
  rw [show startD N__kind_of [q.d] = [some (q.d), none] from rfl]
  cases q with
  | lot n =>
    unfold Piece.d
    walk_at "pd"
    exact sub_refl_fin h
  | plain ms =>
    unfold Piece.d
    walk_at "pd"
    intro q hq
    refine comp_all Mark.d (fun a => .str a.w.s) (fun _ => trivial) (by have := hz ms rfl; omega) (fun a ha acc R1 k1 => ?_) ?_
    · cases a <;> unfold Mark.d <;> walk_at "pd" <;> exact k1
    · refine ⟨_, seqOf_ref mset_same, m, PD.Sub.new hq, ?_⟩
      have e : (ms.map fun a => D.str a.w.s) = (ms.map Mark.w).map fun a => D.str a.s := by rw [List.map_map]; rfl
      rw [e]; exact h
def sp_kinds_of : SpD := fun ds m Q => ∃ y : Way, ds = [y.d] ∧ y.ps.length ≤ 100 ∧ (∀ ms, Piece.plain ms ∈ y.ps → ms.length ≤ 10) ∧ Q (kindsD y.k) m
theorem ok_kinds_of  (T : Txt K mg) (G__kind_of : FnOk P w K mg base CX0 (1) T.f__kind_of T.fd__kind_of ["piece"] (spL K 1 sp__kind_of)) : FnOk P w K mg base CX0 (2) T.f_kinds_of T.fd_kinds_of ["way"] (spL K 1 sp_kinds_of) := by
  refine fn_ok T.F_kinds_of sc_kinds_of (fun cdv A outer s H E hr =>
(gss_one (gs_ret (ge_callTy call_tuple_of lc_tuple (by rfl) T.z_tuple (by decide +kernel) (ga_cons (ge_lc (own := [("piece", 1)]) rfl sc_kinds_of.nd (gi_seq (ge_ix (gv 0) ge_int)) (blkOk_by (N := N_kinds_of) (sc := defScope s_kinds_of) (by decide +kernel)) (fun _ _ _ _ _ => (gg_name (i := 1) sc_kinds_of.nd rfl (.inl rfl))) (fun _ _ _ _ _ => gts_nil) (fun _ _ _ _ _ => (ge_call G__kind_of (hr.mono (by omega)) (by rfl) T.g__kind_of T.F__kind_of.kp T.b__kind_of (ga_cons (gv 1) ga_nil))) (by decide)) ga_nil))))) (fun ds m Q h => ?_)
  obtain ⟨y, rfl, hz, hz2, h⟩ := h
  rw [show startD N_kinds_of [y.d] = [some (y.d), none] from rfl]
  unfold Way.d
  walk_at "pd"
  intro q hq
  refine comp_all Piece.d (fun a => kindD a.k) (fun _ => trivial) (by omega) (fun a ha acc R1 k1 => ?_) ?_
  · walk_at "pd"
    exact ⟨a, rfl, fun ms e => hz2 ms (e ▸ ha), k1⟩
  · refine ⟨_, seqOf_ref mset_same, m, PD.Sub.new hq, ?_⟩
    unfold kindsD Way.k at h
    rw [List.map_map] at h
    exact h
def sp__refs_to : SpD := fun ds m Q => ∃ (ks : List Knd) (ws : List D) (S : MW → Bool), ds = [kindsD ks, .tup ws] ∧ ws.all flatD = true ∧ (∀ a : MW, inF (.str a.s) ws = S a) ∧ ks.length ≤ 100 ∧ (∀ k, some k ∈ ks → k.length ≤ 10) ∧ Q (.tup ((refsTo S ks).map refD)) m
theorem ok__refs_to  (T : Txt K mg)  : FnOk P w K mg base CX0 (1) T.f__refs_to T.fd__refs_to ["kinds", "words"] (spL K 2 sp__refs_to) := by
  refine fn_ok T.F__refs_to sc__refs_to (fun cdv A outer s H E hr =>
(gss_cons (gs_set (i := 2) sc__refs_to.nd rfl (.inl rfl) (ge_lst ga_nil))
 (gss_cons (gs_for PassesOwn.never rfl (gi_enum (by rfl) T.z_enumerate (ga_cons (gv 0) ga_nil)) (gg_tup (n := 2) rfl (ggs_cons (gg_name (i := 3) sc__refs_to.nd rfl (.inr rfl)) (ggs_cons (gg_name (i := 4) sc__refs_to.nd rfl (.inl rfl)) ggs_nil)))
 (gss_one (gs_if (gt_cmpR (op_neS hr.units) lr_ne (gv 4) ge_str (nomark _))
 (gss_one (gs_expr (ge_bm PySem.F.slot_list_extend PySem.F.type_list_extend mt_extendU lm_extend (gv 2) (ga_cons (ge_lc (own := [("row", 5), ("word", 6)]) rfl sc__refs_to.nd (gi_enum (by rfl) T.z_enumerate (ga_cons (gv 4) ga_nil)) (blkOk_by (N := N__refs_to) (sc := defScope s__refs_to) (by decide +kernel)) (fun _ _ _ _ _ => (gg_tup (n := 2) rfl (ggs_cons (gg_name (i := 5) sc__refs_to.nd rfl (.inl rfl)) (ggs_cons (gg_name (i := 6) sc__refs_to.nd rfl (.inl rfl)) ggs_nil)))) (fun _ _ _ _ _ => (gts_one (gt_cmpR op_inU lr_in (gv 6) (gv 1) (by rfl)))) (fun _ _ _ _ _ => (ge_tup (ga_cons (gv 3) (ga_cons (gv 5) ga_nil)))) (by decide)) ga_nil))))
 gss_nil)))
 (gss_one (gs_ret (ge_callTy call_tuple_of lc_tuple (by rfl) T.z_tuple (by decide +kernel) (ga_cons (gv 2) ga_nil))))))) (fun ds m Q h => ?_)
  obtain ⟨ks, ws, S, rfl, hf, hS, hz, hz2, h⟩ := h
  rw [show startD N__refs_to [kindsD ks, .tup ws] = [some (kindsD ks), some (.tup ws), none, none, none, none, none] from rfl]
  unfold kindsD
  walk_at "pd"
  intro q hq
  rw [enumD_map]
  refine loop_accT (m0 := m) (p := q) (fun s' => ∃ x y z u, s' = [some (.tup (ks.map kindD)), some (.tup ws), some (.ref q), x, y, z, u]) (fun p : Knd × Nat => D.tup [.int (p.2 : Int), kindD p.1]) (fun p => match p.1 with | none => [] | some ws => (refsOf p.2 S ws).map refD) (us := ks.zipIdx) (init := []) (fun _ _ => trivial) ?_ ?_ ⟨_, _, _, _, rfl⟩ (PD.Sub.new hq) mset_same
  · rintro ⟨k, i⟩ hk acc s' m' R ⟨x, y, z, u, rfl⟩ b1 b2 hz3 hR
    cases k with
    | none =>
      rw [show kindD none = D.str "lot" from rfl]
      walk_at "pd"
      simp only [List.append_nil] at hR
      exact hR _ _ ⟨_, _, _, _, rfl⟩ b1 b2
    | some k =>
      have hkl : k.length ≤ 10 := hz2 k (List.mem_of_getElem? (List.mem_zipIdx_iff_getElem?.mp hk))
      rw [show kindD (some k) = D.tup (k.map fun w => .str w.s) from rfl]
      walk_at "pd"
      refine ⟨⟨_, _, lstOf_ref b2⟩, fun q2 hq2 => ?_⟩
      have n2 : q ≠ q2 := fun e => by rw [e, hq2] at b2; cases b2
      rw [enumD_map]
      refine comp_pT (fun p : MW × Nat => D.tup [.int (p.2 : Int), .str p.1.s]) (fun p => refD (i, p.2)) (fun p => S p.1) (fun _ => trivial) (by rw [List.length_zipIdx]; omega) (fun p hp acc2 R1 R2 k1 k2 => ?_) ?_
      · walk_at "pd"
        refine ⟨hf, ?_⟩
        rw [hS]
        cases e : S p.1 with
        | true => walk_at "pd"; exact k1 e
        | false => walk_at "pd"; exact k2 e
      · refine ⟨_, _, _, lstOf_ref (by rw [mset_ne n2]; exact b2), seqW_ref mset_same, ?_, hR _ _ ⟨_, _, _, _, rfl⟩ ?_ ?_⟩
        · have h1 : (List.map (fun p : MW × Nat => refD (i, p.2)) (List.filter (fun p => S p.1) k.zipIdx)).length ≤ 10 := by
            rw [List.length_map]
            exact Nat.le_trans (List.length_filter_le _ _) (by rw [List.length_zipIdx]; exact hkl)
          have h2 : ([] ++ ks.zipIdx.flatMap fun p : Knd × Nat => match p.1 with | none => ([] : List D) | some ws => (refsOf p.2 S ws).map refD).length ≤ 100 * 10 := by
            rw [List.nil_append]
            refine Nat.le_trans (flat_le (n := 10) ?_) (by rw [List.length_zipIdx]; omega)
            rintro ⟨k', i'⟩ hk'
            cases k' with
            | none => exact Nat.zero_le _
            | some k' =>
              show ((refsOf i' S k').map refD).length ≤ 10
              rw [List.length_map]
              exact Nat.le_trans refsOf_len (hz2 k' (List.mem_of_getElem? (List.mem_zipIdx_iff_getElem?.mp hk')))
          exact Nat.le_trans (by omega : acc.length + _ ≤ 1010) (by decide)
        · exact PD.Sub.new' (PD.Sub.new' b1 (PD.Sub.free b1 hq2)) hq
        · rw [mset_same]
          congr 3
          show _ = List.map refD (refsOf i S k)
          unfold refsOf
          rw [List.map_map]
          rfl
  · rintro s' m' ⟨x, y, z, u, rfl⟩ b1 b2
    walk_at "pd"
    refine ⟨_, seqOf_ref b2, m, b1, ?_⟩
    have e : ([] ++ ks.zipIdx.flatMap fun p : Knd × Nat => match p.1 with | none => ([] : List D) | some ws => (refsOf p.2 S ws).map refD) = (refsTo S ks).map refD := by
      unfold refsTo
      rw [List.nil_append, List.map_flatMap]
      congr 1
      funext p
      cases p.1 <;> rfl
    rw [e]; exact h
def sp_sign_places : SpD := fun ds m Q => ∃ (ks : List Knd), ds = [kindsD ks] ∧ ks.length ≤ 100 ∧ (∀ k, some k ∈ ks → k.length ≤ 10) ∧ Q (.tup ((refsTo isSg ks).map refD)) m
theorem ok_sign_places  (T : Txt K mg) (G__refs_to : FnOk P w K mg base CX0 (1) T.f__refs_to T.fd__refs_to ["kinds", "words"] (spL K 2 sp__refs_to)) : FnOk P w K mg base CX0 (2) T.f_sign_places T.fd_sign_places ["kinds"] (spL K 1 sp_sign_places) := by
  refine fn_ok T.F_sign_places sc_sign_places (fun cdv A outer s H E hr =>
(gss_one (gs_ret (ge_call G__refs_to (hr.mono (by omega)) (by rfl) T.g__refs_to T.F__refs_to.kp T.b__refs_to (ga_cons (gv 0) (ga_cons (ge_tup (ga_cons ge_str ga_nil)) ga_nil)))))) (fun ds m Q h => ?_)
  obtain ⟨ks, rfl, hz, hz2, h⟩ := h
  rw [show startD N_sign_places [kindsD ks] = [some (kindsD ks)] from rfl]
  walk_at "pd"
  exact ⟨ks, _, isSg, rfl, rfl, (fun a => by cases a <;> decide), hz, hz2, sub_refl_fin h⟩
def sp_kinds_by_maker : SpD := fun ds m Q => ∃ (ws : List Way), ds = [.rol (ws.map Way.d)] ∧ ws.length ≤ 10000 ∧ (∀ y ∈ ws, y.ps.length ≤ 100 ∧ ∀ ms, Piece.plain ms ∈ y.ps → ms.length ≤ 10) ∧ Q (dicOf (sDic kindsD (kbm ws))) m
theorem ok_kinds_by_maker  (T : Txt K mg) (G_kinds_of : FnOk P w K mg base CX0 (2) T.f_kinds_of T.fd_kinds_of ["way"] (spL K 1 sp_kinds_of)) : FnOk P w K mg base CX0 (3) T.f_kinds_by_maker T.fd_kinds_by_maker ["ways"] (spL K 1 sp_kinds_by_maker) := by
  refine fn_ok T.F_kinds_by_maker sc_kinds_by_maker (fun cdv A outer s H E hr =>
(gss_cons (gs_set (i := 1) sc_kinds_by_maker.nd rfl (.inl rfl) ge_dnew)
 (gss_cons (gs_for PassesOwn.never rfl (gi_seq (gv 0)) (gg_name (i := 2) sc_kinds_by_maker.nd rfl (.inl rfl))
 (gss_one (gs_if (gt_dnotinU (lt1 hr.units) (ge_ix (gv 2) ge_int) (gv 1))
 (gss_one (gs_dput (lt1 hr.units) (gv 1) (ge_ix (gv 2) ge_int) (ge_call G_kinds_of (hr.mono (by omega)) (by rfl) T.g_kinds_of T.F_kinds_of.kp T.b_kinds_of (ga_cons (gv 2) ga_nil))))
 gss_nil)))
 (gss_one (gs_ret (ge_frzD (gv 1))))))) (fun ds m Q h => ?_)
  obtain ⟨ws, rfl, hz, hz2, h⟩ := h
  rw [show startD N_kinds_by_maker [.rol (ws.map Way.d)] = [some (.rol (ws.map Way.d)), none, none] from rfl]
  walk_at "pd"
  intro q hq
  refine loop_pre (fun pre s' m' => (∃ x, s' = [some (.rol (ws.map Way.d)), some (.ref q), x]) ∧ m' = mset m q (.dct (sDic kindsD (kbm pre)))) Way.d (fun _ _ _ _ => trivial) ?_ ?_ ⟨⟨_, rfl⟩, rfl⟩
  · rintro pre y post e s' m' R ⟨⟨x, rfl⟩, rfl⟩ hR
    have hy : y ∈ ws := by rw [e]; simp
    have ek : kbm (pre ++ [y]) = insK (kbm pre) y := by unfold kbm; rw [List.foldl_append]; rfl
    have hl : (kbm pre).length < 20000 := by
      have := foldK_len pre []
      have h2 : pre.length ≤ ws.length := by rw [e]; simp
      unfold kbm
      rw [List.length_nil] at this
      omega
    unfold Way.d
    walk_at "pd"
    refine ⟨_, dct_ref mset_same, _, rfl, ?_⟩
    rw [valD_s]
    by_cases hc : y.mr ∈ (kbm pre).map (·.1)
    · obtain ⟨ks, ev⟩ := fnd_some hc
      rw [ev]
      walk_at "pd"
      refine hR _ _ ⟨⟨_, rfl⟩, ?_⟩
      rw [ek]; unfold insK; rw [if_pos hc]
    · rw [fnd_none.mpr hc]
      walk_at "pd"
      refine ⟨y, rfl, (hz2 y hy).1, (hz2 y hy).2, ?_⟩
      walk_at "pd"
      refine ⟨q, _, _, rfl, mset_same, rfl, by rw [sDic_len]; exact Nat.lt_of_lt_of_le hl (by decide), hR _ _ ⟨⟨_, rfl⟩, ?_⟩⟩
      rw [put_new hc, mset_mset, ek]; unfold insK; rw [if_neg hc]
  · rintro s' m' ⟨⟨x, rfl⟩, rfl⟩
    walk_at "pd"
    exact ⟨q, _, rfl, mset_same, m, (PD.Sub.new hq).del hq, h⟩
end
section
variable {P : Program} {w : World} {K : PySem.W.Frag} {mg : Str → Option Value} {base : Heap}
def sp_own_judge : SpD := fun ds m Q => ∃ a : Ak, ds = [akD a] ∧ Q (.tup ((ownA a).map .str)) m
theorem ok_own_judge  (T : Txt K mg)  : FnOk P w K mg base CX0 (1) T.f_own_judge T.fd_own_judge ["ask"] (spL K 1 sp_own_judge) := by
  refine fn_ok T.F_own_judge sc_own_judge (fun cdv A outer s H E hr =>
(gss_cons (gs_if (gt_cmpR (op_eqS hr.units) lr_eq (ge_ix (gv 0) ge_int) ge_str (nomark _))
 (gss_one (gs_ret (ge_tup (ga_cons (ge_ix (gv 0) ge_int) ga_nil))))
 gss_nil)
 (gss_cons (gs_if (gt_cmpR op_inU lr_in (ge_ix (gv 0) ge_int) (ge_tup (ga_cons ge_str (ga_cons ge_str (ga_cons ge_str (ga_cons ge_str ga_nil))))) (by rfl))
 (gss_one (gs_ret (ge_tup ga_nil)))
 gss_nil)
 (gss_one (gs_ret (ge_tup (ga_cons (ge_ix (gv 0) (ge_un un_neg lu_neg ge_int)) ga_nil))))))) (fun ds m Q h => ?_)
  obtain ⟨a, rfl, h⟩ := h
  rw [show startD N_own_judge [akD a] = [some (akD a)] from rfl]
  cases a with
  | one w j => cases w <;> (unfold akD W1.s; walk_at "pd"; exact sub_refl_fin h)
  | sm w n j => cases w <;> (unfold akD W2.s; walk_at "pd"; exact sub_refl_fin h)
  | fst => unfold akD; walk_at "pd"; exact sub_refl_fin h
  | each j b => unfold akD; walk_at "pd"; exact sub_refl_fin h
  | two w a b => cases w <;> (unfold akD W3.s; walk_at "pd"; exact sub_refl_fin h)
def sp_asks_in : SpD := fun ds m Q => ∃ a : Ak, ds = [akD a] ∧ Q (.tup ((insA a).map akD)) m
theorem ok_asks_in  (T : Txt K mg)  : FnOk P w K mg base CX0 (1) T.f_asks_in T.fd_asks_in ["ask"] (spL K 1 sp_asks_in) := by
  refine fn_ok T.F_asks_in sc_asks_in (fun cdv A outer s H E hr =>
(gss_cons (gs_if (gt_cmpR (op_eqS hr.units) lr_eq (ge_ix (gv 0) ge_int) ge_str (nomark _))
 (gss_one (gs_ret (ge_tup (ga_cons (ge_ix (gv 0) ge_int) ga_nil))))
 gss_nil)
 (gss_cons (gs_if (gt_cmpR op_inU lr_in (ge_ix (gv 0) ge_int) (ge_tup (ga_cons ge_str (ga_cons ge_str (ga_cons ge_str ga_nil)))) (by rfl))
 (gss_one (gs_ret (ge_tup (ga_cons (ge_ix (gv 0) ge_int) (ga_cons (ge_ix (gv 0) ge_int) ga_nil)))))
 gss_nil)
 (gss_one (gs_ret (ge_tup ga_nil)))))) (fun ds m Q h => ?_)
  obtain ⟨a, rfl, h⟩ := h
  rw [show startD N_asks_in [akD a] = [some (akD a)] from rfl]
  cases a with
  | one w j => cases w <;> (unfold akD W1.s; walk_at "pd"; exact sub_refl_fin h)
  | sm w n j => cases w <;> (unfold akD W2.s; walk_at "pd"; exact sub_refl_fin h)
  | fst => unfold akD; walk_at "pd"; exact sub_refl_fin h
  | each j b => unfold akD; walk_at "pd"; exact sub_refl_fin h
  | two w a b => cases w <;> (unfold akD W3.s; walk_at "pd"; exact sub_refl_fin h)
def sp_all_asks : SpD := fun ds m Q => ∃ a : Ak, ds = [akD a] ∧ sizeA a ≤ 1000 ∧ ∀ p, m p = none → Q (.ref p) (mset m p (.lst ((allA a).map akD)))
theorem ok_all_asks  (T : Txt K mg) (G_asks_in : FnOk P w K mg base CX0 (1) T.f_asks_in T.fd_asks_in ["ask"] (spL K 1 sp_asks_in)) : FnOk P w K mg base CX0 (2) T.f_all_asks T.fd_all_asks ["ask"] (spL K 1 sp_all_asks) := by
  refine fn_ok T.F_all_asks sc_all_asks (fun cdv A outer s H E hr =>
(gss_cons (gs_set (i := 1) sc_all_asks.nd rfl (.inl rfl) (ge_lst ga_nil))
 (gss_cons (gs_set (i := 2) sc_all_asks.nd rfl (.inl rfl) (ge_lst (ga_cons (gv 0) ga_nil)))
 (gss_cons (gs_while PassesOwn.never (gt_tru (gv 2))
 (gss_cons (gs_set (i := 3) sc_all_asks.nd rfl (.inl rfl) (ge_bm0 PySem.F.slot_list_pop PySem.F.type_list_pop mt_popU lm_pop (gv 2)))
 (gss_cons (gs_expr (ge_bm PySem.F.slot_list_append PySem.F.type_list_append mt_append lm_append (gv 1) (ga_cons (gv 3) ga_nil)))
 (gss_one (gs_expr (ge_bm PySem.F.slot_list_extend PySem.F.type_list_extend mt_extendU lm_extend (gv 2) (ga_cons (ge_rev (ge_call G_asks_in (hr.mono (by omega)) (by rfl) T.g_asks_in T.F_asks_in.kp T.b_asks_in (ga_cons (gv 3) ga_nil))) ga_nil)))))))
 (gss_one (gs_ret (gv 1))))))) (fun ds m Q h => ?_)
  obtain ⟨a, rfl, hz, h⟩ := h
  rw [show startD N_all_asks [akD a] = [some (akD a), none, none, none] from rfl]
  unfold dWhile
  walk_at "pd"
  intro p hp q hq
  have hpq : p ≠ q := mne hq mset_same
  refine ⟨fun n s' m' => ∃ acc st, (∃ c, s' = [some (akD a), some (.ref p), some (.ref q), c]) ∧ n = szS st ∧ acc.length + szS st = sizeA a ∧ acc ++ st.reverse.flatMap allA = allA a ∧ PD.Sub m m' ∧ m' p = some (.lst (acc.map akD)) ∧ m' q = some (.lst (st.map akD)), ⟨_, [], [a], ⟨_, rfl⟩, rfl, by simp [szS], by simp, ?_, ?_, mset_same⟩, ?_⟩
  · exact (PD.Sub.new hp).new' (by rw [mset_ne hpq.symm] at hq; exact hq)
  · rw [mset_ne hpq]; exact mset_same
  · rintro n s' m' ⟨acc, st, ⟨c, rfl⟩, rfl, hs, e1, sb, hp2, hq2⟩
    walk_at "pd"
    refine ⟨_, truD_ref hq2, ?_⟩
    rcases List.eq_nil_or_concat st with rfl | ⟨st', b, rfl⟩
    · walk_at "pd"
      refine ⟨_, fun x o hx => ?_, h p hp⟩
      have e2 : acc = allA a := by rw [← e1]; simp
      by_cases hxp : x = p
      · subst hxp
        rw [mset_same] at hx
        rw [hp2, e2]; exact hx
      · rw [mset_ne hxp] at hx
        exact sb x o hx
    · have hne : ((st'.concat b).map akD).isEmpty = false := by rw [List.concat_eq_append, List.map_append]; simp
      rw [hne]
      rw [List.concat_eq_append] at hs e1 hq2 ⊢
      rw [szS_app] at hs
      have hb : szS [b] = sizeA b := by simp [szS]
      have hbp := size_pos b
      have hls := len_szS st'
      walk_at "pd"
      refine ⟨⟨q, _, lstOf_ref hq2⟩, q, _, akD b, lstOf_ref hq2, by simp, ?_⟩
      have hp3 : mset m' q (.lst ((st' ++ [b]).map akD).dropLast) p = some (.lst (acc.map akD)) := by rw [mset_ne hpq]; exact hp2
      refine ⟨⟨p, _, lstOf_ref hp3⟩, p, _, lstOf_ref hp3, ?_, ?_⟩
      · rw [List.length_map]
        exact Nat.lt_of_lt_of_le (by omega : _ < 1001) (by decide)
      have hq3 : mset (mset m' q (.lst ((st' ++ [b]).map akD).dropLast)) p (.lst (acc.map akD ++ [akD b])) q = some (.lst (st'.map akD)) := by
        rw [mset_ne hpq.symm, mset_same, List.map_append]
        simp
      refine ⟨⟨q, _, lstOf_ref hq3⟩, b, rfl, q, _, ((insA b).map akD).reverse, lstOf_ref hq3, rfl, ?_, ?_⟩
      · have h2 := szS_ins b
        have h3 := len_szS (insA b)
        rw [List.length_map, List.length_reverse, List.length_map]
        exact Nat.le_trans (by omega : _ ≤ 2000) (by decide)
      · have e5 : szS (st' ++ (insA b).reverse) = szS st' + szS (insA b) := by rw [szS_app, szS_rev]
        have h2 := szS_ins b
        refine ⟨_, ?_, acc ++ [b], st' ++ (insA b).reverse, ⟨_, rfl⟩, rfl, ?_, ?_, ?_, ?_, ?_⟩
        · rw [e5, szS_app, hb]; omega
        · rw [e5, List.length_append, List.length_singleton]; omega
        · rw [← e1]
          simp only [List.reverse_append, List.reverse_cons, List.reverse_nil, List.nil_append, List.reverse_reverse, List.flatMap_append, List.flatMap_cons, List.append_assoc, List.singleton_append, List.cons_append]
          rw [all_ins b, List.cons_append]
        · have hq0 : m q = none := by rw [mset_ne hpq.symm] at hq; exact hq
          exact ((sb.new' hq0).new' hp).new' hq0
        · rw [mset_ne hpq, mset_same, List.map_append]; rfl
        · rw [mset_same, List.map_append, List.map_reverse]
def sp_judges_of : SpD := fun ds m Q => ∃ a : Ak, ds = [akD a] ∧ sizeA a ≤ 1000 ∧ Q (.tup ((judgesA a).map .str)) m
theorem ok_judges_of  (T : Txt K mg) (G_all_asks : FnOk P w K mg base CX0 (2) T.f_all_asks T.fd_all_asks ["ask"] (spL K 1 sp_all_asks)) (G_own_judge : FnOk P w K mg base CX0 (1) T.f_own_judge T.fd_own_judge ["ask"] (spL K 1 sp_own_judge)) : FnOk P w K mg base CX0 (3) T.f_judges_of T.fd_judges_of ["ask"] (spL K 1 sp_judges_of) := by
  refine fn_ok T.F_judges_of sc_judges_of (fun cdv A outer s H E hr =>
(gss_cons (gs_set (i := 1) sc_judges_of.nd rfl (.inl rfl) (ge_lst ga_nil))
 (gss_cons (gs_for PassesOwn.never rfl (gi_seq (ge_call G_all_asks (hr.mono (by omega)) (by rfl) T.g_all_asks T.F_all_asks.kp T.b_all_asks (ga_cons (gv 0) ga_nil))) (gg_name (i := 2) sc_judges_of.nd rfl (.inl rfl))
 (gss_one (gs_expr (ge_bm PySem.F.slot_list_extend PySem.F.type_list_extend mt_extendU lm_extend (gv 1) (ga_cons (ge_call G_own_judge (hr.mono (by omega)) (by rfl) T.g_own_judge T.F_own_judge.kp T.b_own_judge (ga_cons (gv 2) ga_nil)) ga_nil)))))
 (gss_one (gs_ret (ge_callTy call_tuple_of lc_tuple (by rfl) T.z_tuple (by decide +kernel) (ga_cons (gv 1) ga_nil))))))) (fun ds m Q h => ?_)
  obtain ⟨a, rfl, hz, h⟩ := h
  rw [show startD N_judges_of [akD a] = [some (akD a), none, none] from rfl]
  walk_at "pd"
  intro p hp
  refine ⟨a, rfl, hz, fun q hq => ?_⟩
  have hpq : p ≠ q := mne hq mset_same
  have hq0 : m q = none := by rw [mset_ne hpq.symm] at hq; exact hq
  refine ⟨_, seqOf_ref mset_same, ?_⟩
  refine loop_inv (fun rem s' m' => ∃ pre post, allA a = pre ++ post ∧ rem = post.map akD ∧ (∃ c, s' = [some (akD a), some (.ref p), c]) ∧ PD.Sub m m' ∧ m' q = some (.lst ((allA a).map akD)) ∧ m' p = some (.lst ((pre.flatMap ownA).map .str))) ?_ ?_ ⟨[], allA a, rfl, rfl, ⟨_, rfl⟩, (PD.Sub.new hp).new' hq0, mset_same, by rw [mset_ne hpq]; exact mset_same⟩
  · rintro d rem s' m' R hR ⟨pre, post, e1, e2, ⟨c, rfl⟩, sb, hq2, hp2⟩
    cases post with
    | nil => cases e2
    | cons b post =>
      rw [List.map_cons] at e2
      injection e2 with e2 e5
      subst e2
      walk_at "pd"
      refine ⟨seqOf_ref hq2, ⟨p, _, lstOf_ref hp2⟩, b, rfl, p, _, (ownA b).map .str, lstOf_ref hp2, rfl, ?_, ?_⟩
      · have h1 := fm_len pre
        have h2 := own_len b
        have h3 : pre.length < (allA a).length := by rw [e1]; simp
        rw [all_len] at h3
        rw [List.length_map, List.length_map]
        exact Nat.le_trans (by omega : _ ≤ 2000) (by decide)
      · refine hR _ _ ⟨pre ++ [b], post, by rw [e1]; simp, e5, ⟨_, rfl⟩, sb.new' hp, by rw [mset_ne hpq.symm]; exact hq2, ?_⟩
        rw [mset_same, List.flatMap_append, List.map_append]
        simp
  · rintro s' m' ⟨pre, post, e1, e2, ⟨c, rfl⟩, sb, hq2, hp2⟩
    cases post with
    | cons b post => cases e2
    | nil =>
      refine ⟨seqOf_ref hq2, ?_⟩
      walk_at "pd"
      refine ⟨_, seqOf_ref hp2, m, sb, ?_⟩
      rw [List.append_nil] at e1
      rw [← e1]
      exact h
def sp_has_first : SpD := fun ds m Q => ∃ a : Ak, ds = [akD a] ∧ sizeA a ≤ 1000 ∧ Q (.int (firstsA a)) m
theorem ok_has_first  (T : Txt K mg) (G_all_asks : FnOk P w K mg base CX0 (2) T.f_all_asks T.fd_all_asks ["ask"] (spL K 1 sp_all_asks)) : FnOk P w K mg base CX0 (3) T.f_has_first T.fd_has_first ["ask"] (spL K 1 sp_has_first) := by
  refine fn_ok T.F_has_first sc_has_first (fun cdv A outer s H E hr =>
(gss_one (gs_ret (ge_callB call_lenU lc_len (by rfl) T.z_len PySem.boot_len (ga_cons (ge_lc (own := [("one", 1)]) rfl sc_has_first.nd (gi_seq (ge_call G_all_asks (hr.mono (by omega)) (by rfl) T.g_all_asks T.F_all_asks.kp T.b_all_asks (ga_cons (gv 0) ga_nil))) (blkOk_by (N := N_has_first) (sc := defScope s_has_first) (by decide +kernel)) (fun _ _ _ _ _ => (gg_name (i := 1) sc_has_first.nd rfl (.inl rfl))) (fun _ _ _ _ _ => (gts_one (gt_cmpR (op_eqS hr.units) lr_eq (ge_ix (gv 1) ge_int) ge_str (nomark _)))) (fun _ _ _ _ _ => (gv 1)) (by decide)) ga_nil))))) (fun ds m Q h => ?_)
  obtain ⟨a, rfl, hz, h⟩ := h
  rw [show startD N_has_first [akD a] = [some (akD a), none] from rfl]
  walk_at "pd"
  refine ⟨a, rfl, hz, fun q hq => ?_⟩
  refine ⟨_, seqOf_ref mset_same, fun p hp => ?_⟩
  have hqp : q ≠ p := mne hp mset_same
  have hp0 : m p = none := by rw [mset_ne hqp.symm] at hp; exact hp
  refine comp_pure fstD (fun d => d) (fun _ => seqOf_ref (by rw [mset_ne hqp]; exact mset_same)) (by rw [List.length_map, all_len]; omega) (fun d hd x R1 R2 h1 h2 => ?_) ?_
  · obtain ⟨b, hb, rfl⟩ := List.mem_map.mp hd
    rw [fst_ak] at h1 h2
    cases b with
    | one w j => cases w <;> (unfold akD W1.s; walk_at "pd"; exact h2 rfl)
    | sm w n j => cases w <;> (unfold akD W2.s; walk_at "pd"; exact h2 rfl)
    | fst => unfold akD at h1 ⊢; walk_at "pd"; exact h1 rfl
    | each j b => unfold akD; walk_at "pd"; exact h2 rfl
    | two w a b => cases w <;> (unfold akD W3.s; walk_at "pd"; exact h2 rfl)
  · refine ⟨_, seqOf_ref mset_same, m, (PD.Sub.new hq).new' hp0, ?_⟩
    have e : (((allA a).map akD).filter fstD).map (fun d => d) = ((allA a).filter isFst).map akD := by
      rw [List.map_id', List.filter_map]
      congr 1
      exact congrArg (fun f => List.filter f (allA a)) (funext fun b => fst_ak b)
    rw [e, List.length_map]
    exact h
def sp__may_lead : SpD := fun ds m Q => ∃ a : Ak, ds = [akD a] ∧ Q (.bl (mayLead a)) m
theorem ok__may_lead  (T : Txt K mg)  : FnOk P w K mg base CX0 (1) T.f__may_lead T.fd__may_lead ["ask"] (spL K 1 sp__may_lead) := by
  refine fn_ok T.F__may_lead sc__may_lead (fun cdv A outer s H E hr =>
(gss_one (gs_ret (ge_cmpR op_inU lr_in (ge_ix (gv 0) ge_int) (ge_tup (ga_cons ge_str (ga_cons ge_str ga_nil))) (by rfl))))) (fun ds m Q h => ?_)
  obtain ⟨a, rfl, h⟩ := h
  rw [show startD N__may_lead [akD a] = [some (akD a)] from rfl]
  cases a with
  | one w j => cases w <;> (unfold akD W1.s; walk_at "pd"; exact sub_refl_fin h)
  | sm w n j => cases w <;> (unfold akD W2.s; walk_at "pd"; exact sub_refl_fin h)
  | fst => unfold akD; walk_at "pd"; exact sub_refl_fin h
  | each j b => unfold akD; walk_at "pd"; exact sub_refl_fin h
  | two w a b => cases w <;> (unfold akD W3.s; walk_at "pd"; exact sub_refl_fin h)
/-- the sorts of judges, as a dict -/
def srtD (l : List (Str × Str)) : D := dicOf (sDic D.str l)
def letB (l : List (Str × Str)) (zs : List Str) (j : Str) : Bool := match fnd l j with | some z => decide (z ∈ zs) | none => false
theorem let_run {m : Mu} {q : Addr} (hq : m q = none) {wd : Str} {rest : List D} {zs : List Str} {l : List (Str × Str)} {js : List Str} (hz : ∀ j ∈ js, (wd, zs) ∈ sortsLet) (hl : js.length ≤ 1) (hk : ∀ j ∈ js, ∃ z, fnd l j = some z) {Q : DK}
    (h : Q (.bl (js.all (letB l zs))) m) :
    dComp (fun _ => True) (dgN 2) dYes (dInKd sortsLet (dDGetU (dVar 1) (dVar 2)) (dOp dIx (dVar 0) (dC (D.int 0)))) q [some (.tup (.str wd :: rest)), some (srtD l), none]
      (fun x m1 => dAll [x] m1 fun v m' => ∃ m'', PD.Sub m'' m' ∧ Q v m'') (js.map D.str) [] (mset m q (.lst [])) := by
  refine comp_all (st := fun _ => True) (us := js) D.str (fun j => .bl (letB l zs j)) (fun _ => trivial) (by omega) (fun j hj acc R k => ?_) ?_
  · obtain ⟨z, ez⟩ := hk j hj
    unfold letB at k
    rw [ez] at k
    unfold dInKd
    walk_at "pd"
    exact ⟨sDic D.str l, dct_dic, _, rfl, .str z, by rw [valD_s, ez]; rfl, zs, hz j hj, k⟩
  · refine ⟨q, js.map (letB l zs), rfl, by rw [List.map_map, mset_same]; rfl, ?_⟩
    have e : (js.map (letB l zs)).all id = js.all (letB l zs) := by rw [List.all_map]; rfl
    rw [e]
    exact ⟨m, .new hq, h⟩
def sp__is_let : SpD := fun ds m Q => ∃ (a : Ak) (l : List (Str × Str)), ds = [akD a, srtD l] ∧ (∀ j ∈ ownA a, j ∈ l.map (·.1)) ∧ Q (.bl (isLet (fnd l) a)) m
theorem ok__is_let  (S9 : Kt K w mg) (T : Txt K mg) (G_own_judge : FnOk P w K mg base CX0 (1) T.f_own_judge T.fd_own_judge ["ask"] (spL K 1 sp_own_judge)) (G__may_lead : FnOk P w K mg base CX0 (1) T.f__may_lead T.fd__may_lead ["ask"] (spL K 1 sp__may_lead)) : FnOk P w K mg base CX0 (2) T.f__is_let T.fd__is_let ["ask", "sorts"] (spL K 2 sp__is_let) := by
  refine fn_ok T.F__is_let sc__is_let (fun cdv A outer s H E hr =>
(gss_cons (gs_if (gt_cmpR (op_eqS hr.units) lr_eq (ge_ix (gv 0) ge_int) ge_str (nomark _))
 (gss_one (gs_ret (ge_call G__may_lead (hr.mono (by omega)) (by rfl) T.g__may_lead T.F__may_lead.kp T.b__may_lead (ga_cons (ge_ix (gv 0) ge_int) ga_nil))))
 gss_nil)
 (gss_cons (gs_if (gt_cmpR (op_eqS hr.units) lr_eq (ge_ix (gv 0) ge_int) ge_str (nomark _))
 (gss_one (gs_ret (ge_and (ge_call G__may_lead (hr.mono (by omega)) (by rfl) T.g__may_lead T.F__may_lead.kp T.b__may_lead (ga_cons (ge_ix (gv 0) ge_int) ga_nil)) (ge_one (ge_call G__may_lead (hr.mono (by omega)) (by rfl) T.g__may_lead T.F__may_lead.kp T.b__may_lead (ga_cons (ge_ix (gv 0) ge_int) ga_nil))))))
 gss_nil)
 (gss_one (gs_ret (ge_callB (cr_all rfl) lc_all (by rfl) T.z_all (by decide +kernel) (ga_cons (ge_lc (own := [("judge", 2)]) rfl sc__is_let.nd (gi_seq (ge_call G_own_judge (hr.mono (by omega)) (by rfl) T.g_own_judge T.F_own_judge.kp T.b_own_judge (ga_cons (gv 0) ga_nil))) (blkOk_by (N := N__is_let) (sc := defScope s__is_let) (by decide +kernel)) (fun _ _ _ _ _ => (gg_name (i := 2) sc__is_let.nd rfl (.inl rfl))) (fun _ _ _ _ _ => gts_nil) (fun _ _ _ _ _ => (ge_inKd (by rfl) S9.g_SORTS_LET S9.t_SORTS_LET (ge_dgetU (lt1 hr.units) (gv 1) (gv 2) (fun _ _ => rfl)) (ge_ix (gv 0) ge_int))) (by decide)) ga_nil))))))) (fun ds m Q h => ?_)
  obtain ⟨a, l, rfl, hk, h⟩ := h
  rw [show startD N__is_let [akD a, srtD l] = [some (akD a), some (srtD l), none] from rfl]
  have key : ∀ j, j ∈ ownA a → ∃ z, fnd l j = some z := fun j hj => by
    cases e : fnd l j with
    | some z => exact ⟨z, rfl⟩
    | none => exact (fnd_none.mp e (hk j hj)).elim
  cases a with
  | two w a b =>
    cases w with
    | thn =>
      unfold akD W3.s
      walk_at "pd"
      exact ⟨a, rfl, sub_refl_fin h⟩
    | against =>
      unfold akD W3.s
      walk_at "pd"
      refine ⟨a, rfl, ?_⟩
      rw [show isLet (fnd l) (.two .against a b) = (mayLead a && mayLead b) from rfl] at h
      cases e : mayLead a with
      | true =>
        rw [e] at h
        exact ⟨b, rfl, sub_refl_fin h⟩
      | false =>
        rw [e] at h
        exact sub_refl_fin h
    | beside =>
      unfold akD W3.s
      walk_at "pd"
      refine ⟨.two .beside a b, rfl, ?_⟩
      walk_at "pd"
      intro q hq
      exact let_run (zs := []) (js := []) hq (fun j hj => (List.not_mem_nil hj).elim) (by decide) (fun j hj => (List.not_mem_nil hj).elim) h
  | fst =>
    unfold akD
    walk_at "pd"
    refine ⟨.fst, rfl, ?_⟩
    walk_at "pd"
    intro q hq
    exact let_run (zs := []) (js := []) hq (fun j hj => (List.not_mem_nil hj).elim) (by decide) (fun j hj => (List.not_mem_nil hj).elim) h
  | one w j =>
    cases w with
    | least =>
      unfold akD W1.s
      walk_at "pd"
      refine ⟨.one .least j, rfl, ?_⟩
      walk_at "pd"
      intro q hq
      refine let_run (zs := ["number"]) hq (fun _ _ => by decide) (own_len _) key ?_
      rw [show (ownA (Ak.one W1.least j)).all (letB l ["number"]) = isLet (fnd l) (.one .least j) from Bool.and_true _]
      exact h
    | greatest =>
      unfold akD W1.s
      walk_at "pd"
      refine ⟨.one .greatest j, rfl, ?_⟩
      walk_at "pd"
      intro q hq
      refine let_run (zs := ["number"]) hq (fun _ _ => by decide) (own_len _) key ?_
      rw [show (ownA (Ak.one W1.greatest j)).all (letB l ["number"]) = isLet (fnd l) (.one .greatest j) from Bool.and_true _]
      exact h
    | spread =>
      unfold akD W1.s
      walk_at "pd"
      refine ⟨.one .spread j, rfl, ?_⟩
      walk_at "pd"
      intro q hq
      refine let_run (zs := ["number", "product"]) hq (fun _ _ => by decide) (own_len _) key ?_
      rw [show (ownA (Ak.one W1.spread j)).all (letB l ["number", "product"]) = isLet (fnd l) (.one .spread j) from Bool.and_true _]
      exact h
    | total =>
      unfold akD W1.s
      walk_at "pd"
      refine ⟨.one .total j, rfl, ?_⟩
      walk_at "pd"
      intro q hq
      refine let_run (zs := ["product"]) hq (fun _ _ => by decide) (own_len _) key ?_
      rw [show (ownA (Ak.one W1.total j)).all (letB l ["product"]) = isLet (fnd l) (.one .total j) from Bool.and_true _]
      exact h
    | names =>
      unfold akD W1.s
      walk_at "pd"
      refine ⟨.one .names j, rfl, ?_⟩
      walk_at "pd"
      intro q hq
      refine let_run (zs := ["text"]) hq (fun _ _ => by decide) (own_len _) key ?_
      rw [show (ownA (Ak.one W1.names j)).all (letB l ["text"]) = isLet (fnd l) (.one .names j) from Bool.and_true _]
      exact h
  | sm w n j =>
    cases w with
    | best =>
      unfold akD W2.s
      walk_at "pd"
      refine ⟨.sm .best n j, rfl, ?_⟩
      walk_at "pd"
      intro q hq
      refine let_run (zs := ["number"]) hq (fun _ _ => by decide) (own_len _) key ?_
      rw [show (ownA (Ak.sm W2.best n j)).all (letB l ["number"]) = isLet (fnd l) (.sm .best n j) from Bool.and_true _]
      exact h
    | ends =>
      unfold akD W2.s
      walk_at "pd"
      refine ⟨.sm .ends n j, rfl, ?_⟩
      walk_at "pd"
      intro q hq
      refine let_run (zs := ["number"]) hq (fun _ _ => by decide) (own_len _) key ?_
      rw [show (ownA (Ak.sm W2.ends n j)).all (letB l ["number"]) = isLet (fnd l) (.sm .ends n j) from Bool.and_true _]
      exact h
    | within =>
      unfold akD W2.s
      walk_at "pd"
      refine ⟨.sm .within n j, rfl, ?_⟩
      walk_at "pd"
      intro q hq
      refine let_run (zs := ["number"]) hq (fun _ _ => by decide) (own_len _) key ?_
      rw [show (ownA (Ak.sm W2.within n j)).all (letB l ["number"]) = isLet (fnd l) (.sm .within n j) from Bool.and_true _]
      exact h
  | each j b =>
    unfold akD
    walk_at "pd"
    refine ⟨.each j b, rfl, ?_⟩
    walk_at "pd"
    intro q hq
    refine let_run (zs := ["number", "text"]) hq (fun _ _ => by decide) (own_len _) key ?_
    rw [show (ownA (Ak.each j b)).all (letB l ["number", "text"]) = isLet (fnd l) (.each j b) from Bool.and_true _]
    exact h
end
inductive AkO where
  | fine
  | noName (j : Str)
  | badAsk (n : Str)
def badJ (l : List (Str × Str)) (js : List Str) : Option Str := js.find? fun j => decide (j ∉ l.map (·.1))
def akGood (l : List (Str × Str)) (a : Ak) : Bool := decide (judgesA a).Nodup && (decide (firstsA a ≤ 1) && (allA a).all (isLet (fnd l)))
def askOut (l : List (Str × Str)) : List (Str × Ak) → AkO
  | [] => .fine
  | q :: r => match badJ l (judgesA q.2) with
    | some j => .noName j
    | none => if akGood l q.2 then askOut l r else .badAsk q.1
structure Jd where
  nm : Str
  sort : Str
  body : D
def Jd.d (j : Jd) : D := .tup [.str j.nm, .str j.sort, j.body]
def Jd.s (j : Jd) : Str × Str := (j.nm, j.sort)
def akR (q : Str × Ak) : D := .tup [.str q.1, akD q.2]
theorem nd_len {js ls : List Str} (nd : ls.Nodup) (mem : ∀ x, x ∈ ls ↔ x ∈ js) : ls.length < js.length ↔ ¬ js.Nodup := by
  constructor
  · intro h hn
    have := hn.length_le_of_subset (l₂ := ls) fun x hx => (mem x).mpr hx
    omega
  · intro h
    refine Nat.lt_of_not_le fun hle => h ?_
    exact ((TXS.perm_of_sub nd (fun x hx => (mem x).mp hx) hle).nodup_iff).mpr nd
section
variable {P : Program} {w : World} {K : PySem.W.Frag} {mg : Str → Option Value} {base : Heap}
def sp__first_told : SpD := fun ds m Q => ∃ l : List (Str × D), ds = [.rol (l.map fun p => .tup [.str p.1, p.2])] ∧ (l.map (·.1)).Nodup ∧ l.length ≤ 1000 ∧ Q (dicOf (sDic id l)) m
theorem ok__first_told  (T : Txt K mg)  : FnOk P w K mg base CX0 (1) T.f__first_told T.fd__first_told ["pairs"] (spL K 1 sp__first_told) := by
  refine fn_ok T.F__first_told sc__first_told (fun cdv A outer s H E hr =>
(gss_cons (gs_set (i := 1) sc__first_told.nd rfl (.inl rfl) ge_dnew)
 (gss_cons (gs_for PassesOwn.never rfl (gi_seq (gv 0)) (gg_tup (n := 2) rfl (ggs_cons (gg_name (i := 2) sc__first_told.nd rfl (.inl rfl)) (ggs_cons (gg_name (i := 3) sc__first_told.nd rfl (.inl rfl)) ggs_nil)))
 (gss_one (gs_if (gt_dnotinU (lt1 hr.units) (gv 2) (gv 1))
 (gss_one (gs_dput (lt1 hr.units) (gv 1) (gv 2) (gv 3)))
 gss_nil)))
 (gss_one (gs_ret (ge_frzD (gv 1))))))) (fun ds m Q h => ?_)
  obtain ⟨l, rfl, nd, hl, h⟩ := h
  rw [show startD N__first_told [.rol (l.map fun p => .tup [.str p.1, p.2])] = [some (.rol (l.map fun p => .tup [.str p.1, p.2])), none, none, none] from rfl]
  walk_at "pd"
  intro q hq
  refine loop_pre (fun pre s' m' => (∃ x y, s' = [some (.rol (l.map fun p => .tup [.str p.1, p.2])), some (.ref q), x, y]) ∧ m' = mset m q (.dct (sDic id pre))) (fun p : Str × D => .tup [.str p.1, p.2]) (fun _ _ _ _ => trivial) ?_ ?_ ⟨⟨_, _, rfl⟩, rfl⟩
  · rintro pre x post e s' m' R ⟨⟨y, z, rfl⟩, rfl⟩ hR
    have hn : x.1 ∉ pre.map (·.1) := by
      rw [e, List.map_append, List.nodup_append] at nd
      exact fun hc => nd.2.2 _ hc _ (List.mem_cons_self ..) rfl
    have hpl : pre.length < l.length := by rw [e]; simp
    walk_at "pd"
    refine ⟨_, dct_ref mset_same, _, rfl, ?_⟩
    rw [valD_s, fnd_none.mpr hn]
    walk_at "pd"
    refine ⟨q, _, _, rfl, mset_same, rfl, by rw [sDic_len]; exact Nat.lt_of_lt_of_le (by omega : pre.length < 1000) (by decide), hR _ _ ⟨⟨_, _, rfl⟩, ?_⟩⟩
    rw [mset_mset]
    congr 2
    exact put_new (f := id) (a := x.2) hn
  · rintro s' m' ⟨⟨x, y, rfl⟩, rfl⟩
    walk_at "pd"
    exact ⟨q, _, rfl, mset_same, m, (PD.Sub.new hq).del hq, h⟩
def sp_look_asks (T : Txt K mg) : SpX := fun ds m Q Ed => ∃ (p : Prog) (js : List Jd) (as : List (Str × Ak)), ds = [p.d] ∧ p.js = js.map Jd.d ∧ p.as = as.map akR ∧ (js.map (·.nm)).Nodup ∧ js.length ≤ 100 ∧ as.length ≤ 100 ∧ (∀ q ∈ as, sizeA q.2 ≤ 1000) ∧
  (askOut (js.map Jd.s) as = .fine → Q .non m) ∧ (∀ j, askOut (js.map Jd.s) as = .noName j → ∀ m', PD.Sub m m' → Ed (.ref T.c_NoName) [("name", .str j)] m') ∧ (∀ n, askOut (js.map Jd.s) as = .badAsk n → ∀ m', PD.Sub m m' → Ed (.ref T.c_BadAsk) [("name", .str n)] m')
theorem ok_look_asks  (T : Txt K mg) (G_all_asks : FnOk P w K mg base CX0 (2) T.f_all_asks T.fd_all_asks ["ask"] (spL K 1 sp_all_asks)) (G__is_let : FnOk P w K mg base CX0 (2) T.f__is_let T.fd__is_let ["ask", "sorts"] (spL K 2 sp__is_let)) (G_has_first : FnOk P w K mg base CX0 (3) T.f_has_first T.fd_has_first ["ask"] (spL K 1 sp_has_first)) (G_judges_of : FnOk P w K mg base CX0 (3) T.f_judges_of T.fd_judges_of ["ask"] (spL K 1 sp_judges_of)) (G__first_told : FnOk P w K mg base CX0 (1) T.f__first_told T.fd__first_told ["pairs"] (spL K 1 sp__first_told)) : FnOk P w K mg base (L2.CX P w) (4) T.f_look_asks T.fd_look_asks ["program"] (spX K 1 (sp_look_asks T)) := by
  refine fn_okX T.F_look_asks sc_look_asks (fun cdv A outer s H E Ed hr tk =>
(gss_cons (gs_set (i := 1) sc_look_asks.nd rfl (.inr rfl) (ge_call G__first_told (hr.mono (by omega)) (by rfl) T.g__first_told T.F__first_told.kp T.b__first_told (ga_cons (ge_frz (ge_lc (own := [("entry", 7)]) rfl sc_look_asks.nd (gi_seq (ge_ix (gv 0) (ge_glb (by rfl) T.v_JUDGES))) (blkOk_by (N := N_look_asks) (sc := defScope s_look_asks) (by decide +kernel)) (fun _ _ _ _ _ => (gg_name (i := 7) sc_look_asks.nd rfl (.inl rfl))) (fun _ _ _ _ _ => gts_nil) (fun _ _ _ _ _ => (ge_tup (ga_cons (ge_ix (gv 7) ge_int) (ga_cons (ge_ix (gv 7) ge_int) ga_nil)))) (by decide))) ga_nil)))
 (gss_one (gs_for (passes_of rfl) rfl (gi_seq (ge_ix (gv 0) (ge_glb (by rfl) T.v_ASKS))) (gg_tup (n := 2) rfl (ggs_cons (gg_name (i := 2) sc_look_asks.nd rfl (.inl rfl)) (ggs_cons (gg_name (i := 3) sc_look_asks.nd rfl (.inl rfl)) ggs_nil)))
 (gss_cons (gs_set (i := 4) sc_look_asks.nd rfl (.inl rfl) (ge_call G_judges_of (hr.mono (by omega)) (by rfl) T.g_judges_of T.F_judges_of.kp T.b_judges_of (ga_cons (gv 3) ga_nil)))
 (gss_cons (gs_for (passes_of rfl) rfl (gi_seq (gv 4)) (gg_name (i := 5) sc_look_asks.nd rfl (.inl rfl))
 (gss_one (gs_if (gt_dnotinU (lt1 hr.units) (gv 5) (gv 1))
 (gss_one (gs_raise rfl tk T.oe_NoName T.no_NoName T.ic_NoName T.ti_NoName (T.ini_NoName) (hr.mono (by omega)) T.bi_NoName (by rfl) T.gc_NoName (ga_cons (gv 5) ga_nil) (by decide)))
 gss_nil)))
 (gss_cons (gs_set (i := 6) sc_look_asks.nd rfl (.inl rfl) (ge_or (ge_cmpR (op_ltS hr.units) lr_ltP (ge_callB cr_lenTx lc_lenTx (by rfl) T.z_len PySem.boot_len (ga_cons (ge_callTy (cr_setTx rfl) lc_setTx (by rfl) T.z_set (by decide +kernel) (ga_cons (gv 4) ga_nil)) ga_nil)) (ge_callB call_lenU lc_len (by rfl) T.z_len PySem.boot_len (ga_cons (gv 4) ga_nil)) (nomark _)) (ge_one (ge_cmpR (op_gtS hr.units) lr_gtP (ge_call G_has_first (hr.mono (by omega)) (by rfl) T.g_has_first T.F_has_first.kp T.b_has_first (ga_cons (gv 3) ga_nil)) ge_int (nomark _)))))
 (gss_one (gs_if (gw_or (gt_tru (gv 6)) (gw_or1 (gt_not (gt_val (ge_callB (cr_all rfl) lc_all (by rfl) T.z_all (by decide +kernel) (ga_cons (ge_lc (own := [("one", 8)]) rfl sc_look_asks.nd (gi_seq (ge_call G_all_asks (hr.mono (by omega)) (by rfl) T.g_all_asks T.F_all_asks.kp T.b_all_asks (ga_cons (gv 3) ga_nil))) (blkOk_by (N := N_look_asks) (sc := defScope s_look_asks) (by decide +kernel)) (fun _ _ _ _ _ => (gg_name (i := 8) sc_look_asks.nd rfl (.inl rfl))) (fun _ _ _ _ _ => gts_nil) (fun _ _ _ _ _ => (ge_call G__is_let (hr.mono (by omega)) (by rfl) T.g__is_let T.F__is_let.kp T.b__is_let (ga_cons (gv 8) (ga_cons (gv 1) ga_nil)))) (by decide)) ga_nil)))))).gt
 (gss_one (gs_raise rfl tk T.oe_BadAsk T.no_BadAsk T.ic_BadAsk T.ti_BadAsk (T.ini_BadAsk) (hr.mono (by omega)) T.bi_BadAsk (by rfl) T.gc_BadAsk (ga_cons (gv 2) ga_nil) (by decide)))
 gss_nil))))))))) (fun ds m Q Ed h _ => ?_)
  obtain ⟨p, js, as, rfl, ej, ea, nd, hjl, hal, hsz, h1, h2, h3⟩ := h
  rw [show startD N_look_asks [p.d] = [some (p.d), none, none, none, none, none, none, none, none] from rfl]
  unfold Prog.d
  rw [ej, ea]
  walk_at "pd"
  intro q hq
  refine comp_all (st := fun _ => True) (us := js) Jd.d (fun j => .tup [.str j.nm, .str j.sort]) (fun _ => trivial) (by omega) (fun n hn acc R1 k1 => ?_) ?_
  · unfold Jd.d
    walk_at "pd"
    exact k1
  refine ⟨_, mset_same, js.map fun j => (j.nm, .str j.sort), by rw [List.map_map]; rfl, by rw [List.map_map]; exact nd, by rw [List.length_map]; omega, ?_⟩
  rw [show dicOf (sDic id (js.map fun j => (j.nm, D.str j.sort))) = srtD (js.map Jd.s) from by unfold srtD sDic; rw [List.map_map, List.map_map]; rfl]
  have S1 : PD.Sub m (mdel (mset m q (.lst (js.map fun j => .tup [.str j.nm, .str j.sort]))) q) := fun a o e => by
    have : a ≠ q := fun z => by rw [z, hq] at e; cases e
    rw [mdel_ne this, mset_ne this]; exact e
  generalize mdel (mset m q (.lst (js.map fun j => .tup [.str j.nm, .str j.sort]))) q = m1 at S1
  generalize js.map Jd.s = l at *
  walk_at "pd"
  refine loop_pre (us := as) (fun pre s' m' => (∃ c0 c2 c3 c4 c5 c6 c7 c8, s' = [c0, some (srtD l), c2, c3, c4, c5, c6, c7, c8]) ∧ PD.Sub m m' ∧ (∀ post, as = pre ++ post → askOut l as = askOut l post)) akR (fun _ _ _ _ => trivial) ?_ ?_ ⟨⟨_, _, _, _, _, _, _, _, rfl⟩, S1, fun post e => by rw [e]; rfl⟩
  · rintro pre a post e s' m' R ⟨⟨c0, c2, c3, c4, c5, c6, c7, c8, rfl⟩, S2, ho⟩ hR
    have oz := hsz a (by rw [e]; simp)
    unfold akR
    walk_at "pd"
    refine ⟨a.2, rfl, oz, ?_⟩
    walk_at "pd"
    refine loop_pre (us := judgesA a.2) (fun pre2 s' m2 => (∃ c5, s' = [c0, some (srtD l), some (.str a.1), some (akD a.2), some (.tup ((judgesA a.2).map D.str)), c5, c6, c7, c8]) ∧ m2 = m' ∧ ∀ x ∈ pre2, x ∈ l.map (·.1)) D.str (fun _ _ _ _ => trivial) ?_ ?_ ⟨⟨_, rfl⟩, rfl, fun x hx => (List.not_mem_nil hx).elim⟩
    · rintro pre2 j post2 e2 s' m2 R2 ⟨⟨c, rfl⟩, rfl, hp⟩ hR2
      walk_at "pd"
      refine ⟨sDic D.str l, dct_dic, _, rfl, ?_⟩
      rw [valD_s]
      by_cases hj : j ∈ l.map (·.1)
      · cases ez : fnd l j with
        | none => exact (fnd_none.mp ez hj).elim
        | some z =>
          walk_at "pd"
          exact hR2 _ _ ⟨⟨_, rfl⟩, rfl, fun x hx => by
            rcases List.mem_append.mp hx with h | h
            · exact hp x h
            · rw [List.mem_singleton.mp h]; exact hj⟩
      · rw [fnd_none.mpr hj]
        walk_at "pd"
        refine h2 j ?_ m2 S2
        rw [ho _ e]
        unfold askOut
        rw [show badJ l (judgesA a.2) = some j from by
          unfold badJ
          rw [e2, List.find?_append, List.find?_eq_none.mpr (fun x hx => by simpa using hp x hx)]
          simp [hj]]
    · rintro s' m2 ⟨⟨c, rfl⟩, rfl, hp⟩
      have bn : badJ l (judgesA a.2) = none := List.find?_eq_none.mpr fun x hx => by simpa using hp x hx
      have hjl2 : (judgesA a.2).length ≤ 1000 := by
        have := fm_len (allA a.2)
        rw [all_len] at this
        exact Nat.le_trans this oz
      walk_at "pd"
      refine ⟨judgesA a.2, rfl, hjl2, fun u ls nd1 mem1 len1 hu => ?_⟩
      refine ⟨u, ls, rfl, mset_same, by omega, ?_⟩
      have bad : akGood l a.2 = false → ∀ m3, PD.Sub m m3 → Ed (.ref T.c_BadAsk) [("name", .str a.1)] m3 := fun hg m3 S3 => h3 a.1 (by
        rw [ho _ e]
        unfold askOut
        rw [bn, hg]; rfl) m3 S3
      have S3 : PD.Sub m (mset m2 u (.oth (SetTx P w u ls))) := PD.Sub.new' S2 (PD.Sub.free S2 hu)
      generalize mset m2 u (.oth (SetTx P w u ls)) = m3 at S3
      walk_at "pd"
      rw [List.length_map]
      by_cases hn : (judgesA a.2).Nodup
      · have hge : ¬ ls.length < (judgesA a.2).length := fun h => (nd_len nd1 mem1).mp h hn
        rw [if_neg (by omega)]
        refine ⟨a.2, rfl, oz, ?_⟩
        walk_at "pd"
        by_cases hf : 1 < firstsA a.2
        · rw [if_pos (by omega)]
          exact bad (by unfold akGood; rw [decide_eq_false (show ¬ firstsA a.2 ≤ 1 by omega), Bool.false_and, Bool.and_false]) m3 S3
        · rw [if_neg (by omega)]
          refine ⟨a.2, rfl, oz, fun v hv => ⟨_, seqOf_ref mset_same, fun y hy => ?_⟩⟩
          have hvy : v ≠ y := mne hy mset_same
          have hv0 : m3 y = none := by rw [mset_ne hvy.symm] at hy; exact hy
          have hin : ∀ b ∈ allA a.2, ∀ x ∈ ownA b, x ∈ l.map (·.1) := fun b hb x hx => hp x (List.mem_flatMap.mpr ⟨b, hb, hx⟩)
          refine comp_all (us := allA a.2) akD (fun b => .bl (isLet (fnd l) b)) (fun _ => seqOf_ref (by rw [mset_ne hvy]; exact mset_same)) (by rw [all_len]; omega) (fun b hb acc R1 k1 => ?_) ?_
          · walk_at "pd"
            exact ⟨b, l, rfl, hin b hb, k1⟩
          · refine ⟨y, (allA a.2).map (isLet (fnd l)), rfl, by rw [List.map_map, mset_same]; rfl, ?_⟩
            have ea : ((allA a.2).map (isLet (fnd l))).all id = (allA a.2).all (isLet (fnd l)) := by rw [List.all_map]; rfl
            have eg : akGood l a.2 = (allA a.2).all (isLet (fnd l)) := by
              unfold akGood
              rw [decide_eq_true hn, decide_eq_true (show firstsA a.2 ≤ 1 by omega), Bool.true_and, Bool.true_and]
            rw [ea, ← eg]
            have S4 : ∀ o, PD.Sub m (mset (mset m3 v (.lst ((allA a.2).map akD))) y o) := fun o => PD.Sub.new' (PD.Sub.new' S3 (PD.Sub.free S3 hv)) (by
              rw [mset_ne hvy.symm] at hy
              exact PD.Sub.free S3 hv0)
            cases ez : akGood l a.2 with
            | false => exact bad ez _ (S4 _)
            | true =>
              refine hR _ _ ⟨⟨_, _, _, _, _, _, _, _, rfl⟩, S4 _, fun post2 e2 => ?_⟩
              rw [ho _ (by rw [e2, List.append_assoc, List.singleton_append])]
              show askOut l (a :: post2) = _
              unfold askOut
              rw [bn]
              dsimp only
              rw [ez, if_pos rfl]
              cases post2 <;> rfl
      · have hlt : ls.length < (judgesA a.2).length := (nd_len nd1 mem1).mpr hn
        rw [if_pos (by omega)]
        exact bad (by unfold akGood; rw [decide_eq_false hn]; rfl) m3 S3
  · rintro s' m' ⟨⟨c0, c2, c3, c4, c5, c6, c7, c8, rfl⟩, S2, ho⟩
    have := ho [] (by simp)
    exact ⟨m, S2, h1 this⟩
end
def asksD (as : List (Str × Ak)) : D := dicOf (sDic akD as)
section
variable {P : Program} {w : World} {K : PySem.W.Frag} {mg : Str → Option Value} {base : Heap}
/-- an ask that the book has -/
def sp_Book_ask (C : Addr) : SpX := fun ds m Q Ed => ∃ (p : Prog) (nv sv fv : D) (as : List (Str × Ak)) (n : Str) (a : Ak), ds = [bookD C p nv sv fv (asksD as), .str n] ∧ fnd as n = some a ∧ Q (akD a) m
theorem ok_Book_ask  (T : Txt K mg)  : FnOk P w K mg base (L2.CX P w) (3) T.f_Book_ask T.fd_Book_ask ["self", "name"] (spX K 2 (sp_Book_ask T.c_Book)) := by
  refine fn_okX T.F_Book_ask sc_Book_ask (fun cdv A outer s H E Ed hr tk =>
(gss_cons (gs_if (gt_dnotinU (lt1 hr.units) (gv 1) (ge_fldO T.cls_Book T.na_Book__asks (gv 0)))
 (gss_one (gs_raise rfl tk T.oe_NoName T.no_NoName T.ic_NoName T.ti_NoName (T.ini_NoName) (hr.mono (by omega)) T.bi_NoName (by rfl) T.gc_NoName (ga_cons (gv 1) ga_nil) (by decide)))
 gss_nil)
 (gss_one (gs_ret (ge_dgetU (lt1 hr.units) (ge_fldO T.cls_Book T.na_Book__asks (gv 0)) (gv 1) (fun _ _ => rfl)))))) (fun ds m Q Ed h _ => ?_)
  obtain ⟨p, nv, sv, fv, as, n, a, rfl, e, h⟩ := h
  unfold bookD
  rw [show startD N_Book_ask [.obj T.c_Book bkFs (bkVs p nv sv fv (asksD as)), .str n] = [some (.obj T.c_Book bkFs (bkVs p nv sv fv (asksD as))), some (.str n)] from rfl]
  walk_at "pd"
  refine ⟨_, dct_dic, _, rfl, ?_⟩
  rw [valD_s, e]
  walk_at "pd"
  refine ⟨_, dct_dic, _, rfl, _, by rw [valD_s, e]; rfl, ?_⟩
  exact sub_refl_fin h
end
structure Good1 (p : Prog) : Prop extends Good p where
  nn : p.nums = []
inductive Srt | num | prod | txt
def Srt.s : Srt → Str
  | .num => "number"
  | .prod => "product"
  | .txt => "text"
def oneD : D := .tup [.str "one"]
def Srt.b : Srt → D
  | .num => .tup [.str "one", .tup [.tup [.tup [.int 1, oneD]]]]
  | .prod => .tup [.tup [.int 1, .tup [], .tup []]]
  | .txt => .tup []
def JbO (p : Prog) (j : Jd) : Prop := ∃ (z : Srt) (mk : Str), j.sort = z.s ∧ j.body = .tup [.tup [.str mk, z.b]] ∧ (kbm p.ways).map (·.1) = [mk]
structure G22 (p : Prog) (js : List Jd) (as : List (Str × Ak)) : Prop extends Good1 p where
  ej : p.js = js.map Jd.d
  ea : p.as = as.map akR
  jn : (js.map (·.nm)).Nodup
  jl : js.length ≤ 100
  jb : ∀ j ∈ js, JbO p j
  an : (as.map (·.1)).Nodup
  al : as.length ≤ 100
  az : ∀ q ∈ as, sizeA q.2 ≤ 1000
section
variable {P : Program} {w : World} {K : PySem.W.Frag} {mg : Str → Option Value} {base : Heap}
def sp_has_only : SpD := fun ds m Q => ∃ (l sg : List Nat), ds = [.str (tx l), .str (tx sg)] ∧ l.length ≤ 1000 ∧ Q (.bl (l.all fun c => decide (c ∈ sg))) m
theorem ok_has_only  (T : Txt K mg)  : FnOk P w K mg base CX0 (1) T.f_has_only T.fd_has_only ["word", "characters"] (spL K 2 sp_has_only) := by
  refine fn_ok T.F_has_only sc_has_only (fun cdv A outer s H E hr =>
(gss_one (gs_ret (ge_callB (cr_all rfl) lc_all (by rfl) T.z_all (by decide +kernel) (ga_cons (ge_lc (own := [("character", 2)]) rfl sc_has_only.nd (gi_str (gv 0)) (blkOk_by (N := N_has_only) (sc := defScope s_has_only) (by decide +kernel)) (fun _ _ _ _ _ => (gg_name (i := 2) sc_has_only.nd rfl (.inl rfl))) (fun _ _ _ _ _ => gts_nil) (fun _ _ _ _ _ => (ge_cmpR op_in_sign lr_inSg (gv 2) (gv 1) (by rfl))) (by decide)) ga_nil))))) (fun ds m Q h => ?_)
  obtain ⟨l, sg, rfl, hl, h⟩ := h
  rw [show startD N_has_only [.str (tx l), .str (tx sg)] = [some (.str (tx l)), some (.str (tx sg)), none] from rfl]
  walk_at "pd"
  intro p hp
  refine comp_all (fun c => D.str (tx [c])) (fun c => D.bl (decide (c ∈ sg))) (fun _ => trivial) (by omega) (fun c hc acc R1 k1 => ?_) ?_
  · walk_at "pd"
    refine ⟨c, tx sg, rfl, rfl, ?_⟩
    rw [cps_tx]
    exact k1
  refine ⟨p, l.map fun c => decide (c ∈ sg), rfl, by rw [List.map_map, mset_same]; rfl, ?_⟩
  have e : (l.map fun c => decide (c ∈ sg)).all id = l.all fun c => decide (c ∈ sg) := by rw [List.all_map]; rfl
  rw [e]
  exact ⟨m, .new hp, h⟩
def sp__look_list : SpX := fun ds m Q Ed => ∃ ns : List Str, ds = [.rol (ns.map .str)] ∧ ns.Nodup ∧ ns.length ≤ 1000 ∧ Q .non m
theorem ok__look_list  (T : Txt K mg)  : FnOk P w K mg base (L2.CX P w) (3) T.f__look_list T.fd__look_list ["names"] (spX K 1 sp__look_list) := by
  refine fn_okX T.F__look_list sc__look_list (fun cdv A outer s H E Ed hr tk =>
(gss_cons (gs_set (i := 1) sc__look_list.nd rfl (.inl rfl) (ge_set0P (P := P) (w := w) rfl rfl (by rfl) T.z_set))
 (gss_one (gs_for (passes_of rfl) rfl (gi_seq (gv 0)) (gg_name (i := 2) sc__look_list.nd rfl (.inl rfl))
 (gss_cons (gs_if (gt_cmpR or_sinK (lr_sin (P := P) (w := w)) (gv 2) (gv 1) (by rfl))
 (gss_one (gs_raise rfl tk T.oe_TwiceNamed T.no_TwiceNamed T.ic_TwiceNamed T.ti_TwiceNamed (T.ini_TwiceNamed) (hr.mono (by omega)) T.bi_TwiceNamed (by rfl) T.gc_TwiceNamed (ga_cons (gv 2) ga_nil) (by decide)))
 gss_nil)
 (gss_one (gs_expr (ge_saddP (P := P) (w := w) rfl rfl (gv 1) (ga_cons (gv 2) ga_nil))))))))) (fun ds m Q Ed h _ => ?_)
  obtain ⟨ns, rfl, nd, hl, h⟩ := h
  rw [show startD N__look_list [.rol (ns.map .str)] = [some (.rol (ns.map .str)), none, none] from rfl]
  walk_at "pd"
  intro q hq
  refine loop_pre (fun pre s' m' => (∃ x, s' = [some (.rol (ns.map .str)), some (.ref q), x]) ∧ m' = mset m q (.sset P w (fun j => decide (∃ n ∈ pre, j = Sum.inr n)) pre.length)) D.str (fun _ _ _ _ => trivial) ?_ ?_ ⟨⟨_, rfl⟩, ?_⟩
  · rintro pre n post e s' m' R ⟨⟨x, rfl⟩, rfl⟩ hR
    have hn : n ∉ pre := by
      rw [e, List.nodup_append] at nd
      exact fun hc => nd.2.2 _ hc _ (List.mem_cons_self ..) rfl
    have hS : (decide (∃ a ∈ pre, (Sum.inr n : Key) = Sum.inr a)) = false := decide_eq_false (by rintro ⟨a, ha, e⟩; cases e; exact hn ha)
    have hpl : pre.length < ns.length := by rw [e]; simp
    walk_at "pd"
    refine ⟨_, q, _, _, rfl, rfl, mset_same, ?_⟩
    rw [hS]
    walk_at "pd"
    refine ⟨⟨q, _, _, rfl, mset_same⟩, q, _, _, _, _, rfl, rfl, rfl, mset_same, ?_, hR _ _ ⟨⟨_, rfl⟩, ?_⟩⟩
    · exact Nat.lt_of_lt_of_le (by omega : pre.length + 1 < 1002) (by decide)
    · rw [mset_mset]
      rw [hS, if_neg (by decide), List.length_append, List.length_singleton]
      congr 2
      funext j
      rw [← Bool.decide_or]
      congr 1
      apply propext
      constructor
      · rintro (⟨a, ha, e⟩ | e)
        · exact ⟨a, by simp [ha], e⟩
        · exact ⟨n, by simp, e⟩
      · rintro ⟨a, ha, e⟩
        rcases List.mem_append.mp ha with ha | ha
        · exact .inl ⟨a, ha, e⟩
        · exact .inr (by rw [e, List.mem_singleton.mp ha])
  · rintro s' m' ⟨⟨x, rfl⟩, rfl⟩
    exact ⟨m, PD.Sub.new hq, h⟩
  · congr 2
def sp_look_names : SpX := fun ds m Q Ed => ∃ (p : Prog) (js : List Jd) (as : List (Str × Ak)), ds = [p.d] ∧ G22 p js as ∧ Q .non m
theorem names_comp {α : Type} {f : α → D} {nm : α → Str} {us : List α} {s : Sd} {m : Mu} {p : Addr} {Q : DK} {j : Nat} (hz : us.length ≤ 1000) (hf : ∀ u ∈ us, ∀ m' (R : D → Mu → Prop), R (.str (nm u)) m' → dgN j (f u) s m' fun s2 m2 => dOp dIx (dVar j) (dC (.int 0)) s2 m2 R)
    (h : Q (.ref p) (mset m p (.lst ((us.map nm).map .str)))) : dComp (fun _ => True) (dgN j) dYes (dOp dIx (dVar j) (dC (.int 0))) p s Q (us.map f) [] (mset m p (.lst [])) := by
  refine comp_all f (fun u => .str (nm u)) (fun _ => trivial) (by omega) (fun u hu acc R1 k1 => hf u hu _ _ k1) ?_
  rw [List.map_map] at h
  exact h
theorem ok_look_names  (T : Txt K mg) (G__look_list : FnOk P w K mg base (L2.CX P w) (3) T.f__look_list T.fd__look_list ["names"] (spX K 1 sp__look_list)) : FnOk P w K mg base (L2.CX P w) (4) T.f_look_names T.fd_look_names ["program"] (spX K 1 sp_look_names) := by
  refine fn_okX T.F_look_names sc_look_names (fun cdv A outer s H E Ed hr tk =>
(gss_one (gs_for (passes_of rfl) rfl (gi_seq (ge_tup (ga_cons (ge_glb (by rfl) T.v_PAIRS) (ga_cons (ge_glb (by rfl) T.v_NUMBERS) (ga_cons (ge_glb (by rfl) T.v_LOTS) (ga_cons (ge_glb (by rfl) T.v_JUDGES) (ga_cons (ge_glb (by rfl) T.v_ASKS) ga_nil))))))) (gg_name (i := 1) sc_look_names.nd rfl (.inl rfl))
 (gss_one (gs_expr (ge_callX G__look_list tk (hr.mono (by omega)) (by rfl) T.g__look_list T.F__look_list.kp T.b__look_list (ga_cons (ge_frz (ge_lc (own := [("entry", 2)]) rfl sc_look_names.nd (gi_seq (ge_ix (gv 0) (gv 1))) (blkOk_by (N := N_look_names) (sc := defScope s_look_names) (by decide +kernel)) (fun _ _ _ _ _ => (gg_name (i := 2) sc_look_names.nd rfl (.inl rfl))) (fun _ _ _ _ _ => gts_nil) (fun _ _ _ _ _ => (ge_ix (gv 2) ge_int)) (by decide))) ga_nil))))))) (fun ds m Q Ed h _ => ?_)
  obtain ⟨p, js, as, rfl, g, h⟩ := h
  rw [show startD N_look_names [p.d] = [some (p.d), none, none] from rfl]
  unfold Prog.d
  walk_at "pd"
  intro q1 hq1
  refine names_comp (nm := fun x : Str × List (List Nat) => x.1) (by have := g.pr; omega) (fun u hu m' R k => by unfold Bk.pairD; walk_at "pd"; exact k) ?_
  refine ⟨_, mset_same, _, rfl, g.ndP, by rw [List.length_map]; have := g.pr; omega, ?_⟩
  rw [g.nn, g.ej, g.ea]
  have S1 := PD.Sub.del (PD.Sub.new (o := .lst (List.map D.str (List.map (fun x : Str × List (List Nat) => x.1) p.pairs))) hq1) hq1
  generalize mdel (mset m q1 (.lst (List.map D.str (List.map (fun x : Str × List (List Nat) => x.1) p.pairs)))) q1 = m1 at *
  intro q2 hq2
  walk_at "w"
  refine ⟨[], rfl, [], rfl, List.nodup_nil, Nat.zero_le _, ?_⟩
  have S2 := PD.Sub.del (PD.Sub.new' (o := .lst []) S1 (PD.Sub.free S1 hq2)) (PD.Sub.free S1 hq2)
  generalize mdel (mset m1 q2 (.lst [])) q2 = m2 at *
  intro q3 hq3
  refine names_comp (nm := fun x : Str × List Way => x.1) (by have := g.lt; omega) (fun u hu m' R k => by unfold lotD; walk_at "pd"; exact k) ?_
  refine ⟨_, mset_same, _, rfl, g.ndL, by rw [List.length_map]; have := g.lt; omega, ?_⟩
  have S3 := PD.Sub.del (PD.Sub.new' (o := .lst (List.map D.str (List.map (fun x : Str × List Way => x.1) p.lots))) S2 (PD.Sub.free S2 hq3)) (PD.Sub.free S2 hq3)
  generalize mdel (mset m2 q3 (.lst (List.map D.str (List.map (fun x : Str × List Way => x.1) p.lots)))) q3 = m3 at *
  intro q4 hq4
  refine names_comp (nm := fun x : Jd => x.nm) (by have := g.jl; omega) (fun u hu m' R k => by unfold Jd.d; walk_at "pd"; exact k) ?_
  refine ⟨_, mset_same, _, rfl, g.jn, by rw [List.length_map]; have := g.jl; omega, ?_⟩
  have S4 := PD.Sub.del (PD.Sub.new' (o := .lst (List.map D.str (List.map (fun x : Jd => x.nm) js))) S3 (PD.Sub.free S3 hq4)) (PD.Sub.free S3 hq4)
  generalize mdel (mset m3 q4 (.lst (List.map D.str (List.map (fun x : Jd => x.nm) js)))) q4 = m4 at *
  intro q5 hq5
  refine names_comp (nm := fun x : Str × Ak => x.1) (by have := g.al; omega) (fun u hu m' R k => by unfold akR; walk_at "pd"; exact k) ?_
  refine ⟨_, mset_same, _, rfl, g.an, by rw [List.length_map]; have := g.al; omega, ?_⟩
  have S5 := PD.Sub.del (PD.Sub.new' (o := .lst (List.map D.str (List.map (fun x : Str × Ak => x.1) as))) S4 (PD.Sub.free S4 hq5)) (PD.Sub.free S4 hq5)
  exact ⟨m, S5, h⟩
def sp__words_of : SpD := fun ds m Q => ∃ p : Prog, ds = [p.d] ∧ Good1 p ∧ Q (.rol ((p.pairs.flatMap (·.2)).map fun l => .str (tx l))) m
theorem ok__words_of  (T : Txt K mg)  : FnOk P w K mg base CX0 (1) T.f__words_of T.fd__words_of ["program"] (spL K 1 sp__words_of) := by
  refine fn_ok T.F__words_of sc__words_of (fun cdv A outer s H E hr =>
(gss_cons (gs_set (i := 1) sc__words_of.nd rfl (.inl rfl) (ge_lst ga_nil))
 (gss_cons (gs_for PassesOwn.never rfl (gi_seq (ge_ix (gv 0) (ge_glb (by rfl) T.v_PAIRS))) (gg_name (i := 2) sc__words_of.nd rfl (.inl rfl))
 (gss_one (gs_expr (ge_bm PySem.F.slot_list_extend PySem.F.type_list_extend mt_extendU lm_extend (gv 1) (ga_cons (ge_ix (gv 2) ge_int) ga_nil)))))
 (gss_cons (gs_for PassesOwn.never rfl (gi_seq (ge_ix (gv 0) (ge_glb (by rfl) T.v_NUMBERS))) (gg_name (i := 3) sc__words_of.nd rfl (.inl rfl))
 (gss_one (gs_expr (ge_bm PySem.F.slot_list_extend PySem.F.type_list_extend mt_extendU lm_extend (gv 1) (ga_cons (ge_lc (own := [("word", 4), ("integer", 5)]) rfl sc__words_of.nd (gi_seq (ge_ix (gv 3) ge_int)) (blkOk_by (N := N__words_of) (sc := defScope s__words_of) (by decide +kernel)) (fun _ _ _ _ _ => (gg_tup (n := 2) rfl (ggs_cons (gg_name (i := 4) sc__words_of.nd rfl (.inl rfl)) (ggs_cons (gg_name (i := 5) sc__words_of.nd rfl (.inl rfl)) ggs_nil)))) (fun _ _ _ _ _ => gts_nil) (fun _ _ _ _ _ => (gv 4)) (by decide)) ga_nil)))))
 (gss_one (gs_ret (ge_frz (gv 1)))))))) (fun ds m Q h => ?_)
  obtain ⟨p, rfl, g, h⟩ := h
  rw [show startD N__words_of [p.d] = [some (p.d), none, none, none, none, none] from rfl]
  unfold Prog.d
  walk_at "pd"
  intro q hq
  have hsz : (p.pairs.flatMap fun x => x.2).length ≤ 10000 := by
    have := flat_le (f := fun x : Str × List (List Nat) => x.2) (n := 100) g.wd
    have := g.pr
    omega
  have e0 : ([] ++ p.pairs.flatMap fun x : Str × List (List Nat) => x.2.map fun l => D.str (tx l)).length = (p.pairs.flatMap (·.2)).length := by rw [List.nil_append, ← List.map_flatMap, List.length_map]
  refine loop_accT (m0 := m) (p := q) (fun s' => ∃ x y z u, s' = [some p.d, some (.ref q), x, y, z, u]) Bk.pairD (fun x : Str × List (List Nat) => x.2.map fun l => .str (tx l)) (us := p.pairs) (init := []) (fun _ _ => trivial) ?_ ?_ ⟨_, _, _, _, rfl⟩ (PD.Sub.new hq) mset_same
  · rintro l hl acc s' m' R ⟨x, y, z, u, rfl⟩ b1 b2 hz2 hR
    unfold Bk.pairD wordsD
    walk_at "pd"
    refine ⟨⟨_, _, lstOf_ref b2⟩, _, _, _, lstOf_ref b2, rfl, ?_, hR _ _ ⟨_, _, _, _, rfl⟩ (PD.Sub.new' b1 hq) mset_same⟩
    rw [e0] at hz2
    exact Nat.le_trans hz2 (Nat.le_trans hsz (by decide))
  · rintro s' m' ⟨x, y, z, u, rfl⟩ b1 b2
    unfold Prog.d
    rw [g.nn]
    walk_at "pd"
    refine ⟨_, b2, m, PD.Sub.del b1 hq, ?_⟩
    rw [List.nil_append, ← List.map_flatMap]
    exact h
def sp__letters_of : SpD := fun ds m Q => ∃ p : Prog, ds = [p.d] ∧ Good p ∧ Q (.rol ((p.ways.flatMap wayLetters).map fun l => .str (tx l))) m
theorem ok__letters_of  (T : Txt K mg) (G_all_ways : FnOk P w K mg base CX0 (1) T.f_all_ways T.fd_all_ways ["program"] (spL K 1 sp_all_ways)) : FnOk P w K mg base CX0 (2) T.f__letters_of T.fd__letters_of ["program"] (spL K 1 sp__letters_of) := by
  refine fn_ok T.F__letters_of sc__letters_of (fun cdv A outer s H E hr =>
(gss_cons (gs_set (i := 1) sc__letters_of.nd rfl (.inl rfl) (ge_lst ga_nil))
 (gss_cons (gs_for PassesOwn.never rfl (gi_seq (ge_call G_all_ways (hr.mono (by omega)) (by rfl) T.g_all_ways T.F_all_ways.kp T.b_all_ways (ga_cons (gv 0) ga_nil))) (gg_name (i := 2) sc__letters_of.nd rfl (.inl rfl))
 (gss_one (gs_for PassesOwn.never rfl (gi_seq (ge_ix (gv 2) ge_int)) (gg_name (i := 3) sc__letters_of.nd rfl (.inl rfl))
 (gss_one (gs_if (gt_cmpR (op_eqS hr.units) lr_eq (ge_ix (gv 3) ge_int) ge_str (nomark _))
 (gss_one (gs_expr (ge_bm PySem.F.slot_list_extend PySem.F.type_list_extend mt_extendU lm_extend (gv 1) (ga_cons (ge_lc (own := [("mark", 4)]) rfl sc__letters_of.nd (gi_seq (ge_ix (gv 3) ge_int)) (blkOk_by (N := N__letters_of) (sc := defScope s__letters_of) (by decide +kernel)) (fun _ _ _ _ _ => (gg_name (i := 4) sc__letters_of.nd rfl (.inl rfl))) (fun _ _ _ _ _ => (gts_one (gt_cmpR (op_eqS hr.units) lr_eq (ge_ix (gv 4) ge_int) ge_str (nomark _)))) (fun _ _ _ _ _ => (ge_ix (gv 4) ge_int)) (by decide)) ga_nil))))
 gss_nil)))))
 (gss_one (gs_ret (ge_frz (gv 1))))))) (fun ds m Q h => ?_)
  obtain ⟨p, rfl, g, h⟩ := h
  have hsz := g.ll
  rw [show startD N__letters_of [p.d] = [some (p.d), none, none, none, none] from rfl]
  walk_at "pd"
  intro q hq
  refine ⟨p, rfl, g.toSizes, ?_⟩
  walk_at "pd"
  have e0 : ([] ++ p.ways.flatMap fun x => (wayLetters x).map fun l => D.str (tx l)).length = (p.ways.flatMap wayLetters).length := by rw [List.nil_append, ← List.map_flatMap, List.length_map]
  refine loop_accT (m0 := m) (p := q) (fun s' => ∃ x y z, s' = [some p.d, some (.ref q), x, y, z]) Way.d (fun x => (wayLetters x).map fun l => .str (tx l)) (us := p.ways) (init := []) (fun _ _ => trivial) ?_ ?_ ⟨_, _, _, rfl⟩ (PD.Sub.new hq) mset_same
  · rintro y hy acc s' m' R ⟨x, z, u, rfl⟩ b1 b2 hz2 hR
    rw [e0] at hz2
    unfold Way.d
    walk_at "pd"
    have e1 : ((wayLetters y).map fun l => D.str (tx l)) = y.ps.flatMap fun q => (lettersOf q).map fun l => D.str (tx l) := by unfold wayLetters; rw [List.map_flatMap]
    rw [e1] at hR hz2
    refine loop_accT (m0 := m) (p := q) (fun s' => ∃ x z, s' = [some p.d, some (.ref q), some (.tup [.str y.mr, .tup (y.ps.map Piece.d), .tup (y.ts.map Test.d)]), x, z]) Piece.d (fun x => (lettersOf x).map fun l => .str (tx l)) (us := y.ps) (init := acc) (fun _ _ => trivial) ?_ ?_ ⟨_, _, rfl⟩ b1 b2
    · rintro a ha acc2 s2 m2 R2 ⟨x2, z2, rfl⟩ c1 c2 hz3 hR2
      rw [List.length_append] at hz3
      cases a with
      | lot n =>
        unfold Piece.d
        walk_at "pd"
        simp only [lettersOf, List.map_nil, List.append_nil] at hR2
        exact hR2 _ _ ⟨_, _, rfl⟩ c1 c2
      | plain ms =>
        have hp := g.pc y hy _ ha
        unfold Piece.d
        walk_at "pd"
        refine ⟨⟨_, _, lstOf_ref c2⟩, fun q2 hq2 => ?_⟩
        have n2 : q ≠ q2 := fun e => by rw [e, hq2] at c2; cases c2
        refine comp_pT Mark.d (fun a => match a with | .sign l => .str (tx l) | _ => .non) (fun a => a.w == .sign) (fun _ => trivial) (by have := hp.1; omega) (fun a ha2 acc3 R3 R4 k1 k2 => ?_) ?_
        · cases a with
          | sign l => unfold Mark.d; walk_at "pd"; exact k1 rfl
          | none => unfold Mark.d; walk_at "pd"; exact k2 rfl
          | run lo hi => unfold Mark.d; walk_at "pd"; exact k2 rfl
        · have e2 : ∀ ms : List Mark, (List.map (fun a : Mark => match a with | .sign l => D.str (tx l) | _ => .non) (List.filter (fun a => a.w == .sign) ms)) = (lettersOf (.plain ms)).map fun l => D.str (tx l) := by
            intro ms
            unfold lettersOf
            induction ms with
            | nil => rfl
            | cons a ms ih => cases a <;> simp [Mark.w, List.filter_cons, List.filterMap_cons] at ih ⊢ <;> exact ih
          rw [e2]
          refine ⟨_, _, _, lstOf_ref (by rw [mset_ne n2]; exact c2), seqW_ref mset_same, ?_, hR2 _ _ ⟨_, _, rfl⟩ (PD.Sub.new' (PD.Sub.new' c1 (PD.Sub.free c1 hq2)) hq) mset_same⟩
          exact Nat.le_trans (by omega : _ ≤ 100000) (by decide)
    · rintro s2 m2 ⟨x2, z2, rfl⟩ c1 c2
      exact hR _ _ ⟨_, _, _, rfl⟩ c1 c2
  · rintro s' m' ⟨x, y, z, rfl⟩ b1 b2
    walk_at "pd"
    refine ⟨_, b2, m, PD.Sub.del b1 hq, ?_⟩
    rw [List.nil_append, ← List.map_flatMap]
    exact h
theorem over_all {sg l : List Nat} (h : OverSg sg l) : (l.all fun c => decide (c ∈ sg)) = true := List.all_eq_true.mpr fun c hc => decide_eq_true (h.1 c hc)
def sp_look_signs : SpX := fun ds m Q Ed => ∃ p : Prog, ds = [p.d] ∧ Good1 p ∧ Q .non m
theorem ok_look_signs  (T : Txt K mg) (G__words_of : FnOk P w K mg base CX0 (1) T.f__words_of T.fd__words_of ["program"] (spL K 1 sp__words_of)) (G__letters_of : FnOk P w K mg base CX0 (2) T.f__letters_of T.fd__letters_of ["program"] (spL K 1 sp__letters_of)) (G_has_only : FnOk P w K mg base CX0 (1) T.f_has_only T.fd_has_only ["word", "characters"] (spL K 2 sp_has_only)) : FnOk P w K mg base (L2.CX P w) (3) T.f_look_signs T.fd_look_signs ["program"] (spX K 1 sp_look_signs) := by
  refine fn_okX T.F_look_signs sc_look_signs (fun cdv A outer s H E Ed hr tk =>
(gss_one (gs_for (passes_of rfl) rfl (gi_seq (ge_op op_addL lr_addL (ge_call G__words_of (hr.mono (by omega)) (by rfl) T.g__words_of T.F__words_of.kp T.b__words_of (ga_cons (gv 0) ga_nil)) (ge_call G__letters_of (hr.mono (by omega)) (by rfl) T.g__letters_of T.F__letters_of.kp T.b__letters_of (ga_cons (gv 0) ga_nil)))) (gg_name (i := 1) sc_look_signs.nd rfl (.inl rfl))
 (gss_one (gs_if (gt_not (gt_val (ge_call G_has_only (hr.mono (by omega)) (by rfl) T.g_has_only T.F_has_only.kp T.b_has_only (ga_cons (gv 1) (ga_cons (ge_ix (gv 0) (ge_glb (by rfl) T.v_SIGNS)) ga_nil)))))
 (gss_one (gs_raise rfl tk T.oe_BadSign T.no_BadSign T.ic_BadSign T.ti_BadSign (T.ini_BadSign) (hr.mono (by omega)) T.bi_BadSign (by rfl) T.gc_BadSign (ga_cons (gv 1) ga_nil) (by decide)))
 gss_nil))))) (fun ds m Q Ed h _ => ?_)
  obtain ⟨p, rfl, g, h⟩ := h
  rw [show startD N_look_signs [p.d] = [some (p.d), none] from rfl]
  walk_at "pd"
  refine ⟨p, rfl, g, ?_⟩
  walk_at "pd"
  refine ⟨p, rfl, g.toGood, ?_⟩
  walk_at "pd"
  have h1 : (p.pairs.flatMap (·.2)).length ≤ 10000 := by
    have := flat_le (f := fun x : Str × List (List Nat) => x.2) (n := 100) g.wd
    have := g.pr
    omega
  have h2 := g.ll
  refine ⟨_, _, rfl, rfl, by rw [List.length_map, List.length_map]; exact Nat.le_trans (Nat.add_le_add h1 h2) (by decide), fun q hq => ⟨_, seqOf_ref mset_same, ?_⟩⟩
  rw [← List.map_append]
  refine loop_chk (m := mset m q _) (fun s' => ∃ x, s' = [some p.d, x]) (fun l : List Nat => D.str (tx l)) (seqOf_ref mset_same) ?_ ?_ ⟨_, rfl⟩
  · rintro l hl s' R ⟨x, rfl⟩ hR
    have hov : OverSg p.sg l := by
      rcases List.mem_append.mp hl with hl | hl
      · obtain ⟨x, hx, hl⟩ := List.mem_flatMap.mp hl
        exact g.wp x hx l hl
      · obtain ⟨y, hy, hl⟩ := List.mem_flatMap.mp hl
        obtain ⟨a, ha, hl⟩ := List.mem_flatMap.mp hl
        have := g.pc y hy a ha
        cases a with
        | lot n => exact (List.not_mem_nil hl).elim
        | plain ms =>
          obtain ⟨mk, hm, he⟩ := List.mem_filterMap.mp hl
          cases mk with
          | sign l' => cases he; exact this.2 l hm
          | none => cases he
          | run lo hi => cases he
    walk_at "pd"
    refine ⟨l, p.sg, rfl, hov.2, ?_⟩
    rw [over_all hov]
    walk_at "pd"
    exact hR _ ⟨_, rfl⟩
  · rintro s' ⟨x, rfl⟩
    exact ⟨m, PD.Sub.new hq, h⟩
def sp__look_name : SpX := fun ds m Q Ed => ∃ (n : Str) (ns : List Str), ds = [.str n, .rol (ns.map .str)] ∧ n ∈ ns ∧ Q .non m
theorem inF_s {n : Str} : ∀ {ns : List Str}, inF (.str n) (ns.map D.str) = decide (n ∈ ns)
  | [] => by unfold inF; rw [List.map_nil]; simp
  | x :: ns => by
    have ih := inF_s (n := n) (ns := ns)
    unfold inF at ih ⊢
    rw [List.map_cons, List.any_cons, ih]
    by_cases h : x = n
    · subst h; simp [eqF]
    · have : eqF (.str x) (.str n) = false := by simp [eqF, h]
      rw [this, Bool.false_or]
      simp [Ne.symm h]
theorem flat_s {ns : List Str} : (ns.map D.str).all flatD = true := by rw [List.all_map]; exact List.all_eq_true.mpr fun _ _ => rfl
theorem ok__look_name  (T : Txt K mg)  : FnOk P w K mg base (L2.CX P w) (3) T.f__look_name T.fd__look_name ["name", "names"] (spX K 2 sp__look_name) := by
  refine fn_okX T.F__look_name sc__look_name (fun cdv A outer s H E Ed hr tk =>
(gss_one (gs_if (gt_cmpR op_notInU lr_notIn (gv 0) (gv 1) (by rfl))
 (gss_one (gs_raise rfl tk T.oe_NoName T.no_NoName T.ic_NoName T.ti_NoName (T.ini_NoName) (hr.mono (by omega)) T.bi_NoName (by rfl) T.gc_NoName (ga_cons (gv 0) ga_nil) (by decide)))
 gss_nil))) (fun ds m Q Ed h _ => ?_)
  obtain ⟨n, ns, rfl, hn, h⟩ := h
  rw [show startD N__look_name [.str n, .rol (ns.map .str)] = [some (.str n), some (.rol (ns.map .str))] from rfl]
  walk_at "pd"
  refine ⟨flat_s, ?_⟩
  rw [inF_s, decide_eq_true hn]
  walk_at "pd"
  exact sub_refl_fin h
end
section
variable {P : Program} {w : World} {K : PySem.W.Frag} {mg : Str → Option Value} {base : Heap}
def sp_look_mentions : SpX := fun ds m Q Ed => ∃ p : Prog, ds = [p.d] ∧ Good p ∧ Q .non m
theorem ok_look_mentions  (T : Txt K mg) (G_all_ways : FnOk P w K mg base CX0 (1) T.f_all_ways T.fd_all_ways ["program"] (spL K 1 sp_all_ways)) (G__look_name : FnOk P w K mg base (L2.CX P w) (3) T.f__look_name T.fd__look_name ["name", "names"] (spX K 2 sp__look_name)) : FnOk P w K mg base (L2.CX P w) (4) T.f_look_mentions T.fd_look_mentions ["program"] (spX K 1 sp_look_mentions) := by
  refine fn_okX T.F_look_mentions sc_look_mentions (fun cdv A outer s H E Ed hr tk =>
(gss_cons (gs_fz 1 (gs_setLc (i := 1) (own := [("lot", 8)]) rfl sc_look_mentions.nd rfl rfl (sw_true rfl rfl rfl (by decide +kernel)) (gi_seq (ge_ix (gv 0) (ge_glb (by rfl) T.v_LOTS))) (blkOk_by (N := N_look_mentions) (sc := defScope s_look_mentions) (by decide +kernel)) (fun _ _ _ _ _ => (gg_name (i := 8) sc_look_mentions.nd rfl (.inl rfl))) (fun _ _ _ _ _ => gts_nil) (fun _ _ _ _ _ => (ge_ix (gv 8) ge_int)) (by decide)))
 (gss_cons (gs_fz 2 (gs_setLc (i := 2) (own := [("pair", 9)]) rfl sc_look_mentions.nd rfl rfl (sw_true rfl rfl rfl (by decide +kernel)) (gi_seq (ge_ix (gv 0) (ge_glb (by rfl) T.v_PAIRS))) (blkOk_by (N := N_look_mentions) (sc := defScope s_look_mentions) (by decide +kernel)) (fun _ _ _ _ _ => (gg_name (i := 9) sc_look_mentions.nd rfl (.inl rfl))) (fun _ _ _ _ _ => gts_nil) (fun _ _ _ _ _ => (ge_ix (gv 9) ge_int)) (by decide)))
 (gss_cons (gs_expr (ge_callX G__look_name tk (hr.mono (by omega)) (by rfl) T.g__look_name T.F__look_name.kp T.b__look_name (ga_cons (ge_ix (gv 0) (ge_glb (by rfl) T.v_START)) (ga_cons (ge_frz (gv 1)) ga_nil))))
 (gss_one (gs_for (passes_of rfl) rfl (gi_seq (ge_call G_all_ways (hr.mono (by omega)) (by rfl) T.g_all_ways T.F_all_ways.kp T.b_all_ways (ga_cons (gv 0) ga_nil))) (gg_tup (n := 3) rfl (ggs_cons (gg_name (i := 3) sc_look_mentions.nd rfl (.inl rfl)) (ggs_cons (gg_name (i := 4) sc_look_mentions.nd rfl (.inl rfl)) (ggs_cons (gg_name (i := 5) sc_look_mentions.nd rfl (.inl rfl)) ggs_nil))))
 (gss_cons (gs_for (passes_of rfl) rfl (gi_seq (gv 4)) (gg_name (i := 6) sc_look_mentions.nd rfl (.inl rfl))
 (gss_one (gs_if (gt_cmpR (op_eqS hr.units) lr_eq (ge_ix (gv 6) ge_int) ge_str (nomark _))
 (gss_one (gs_expr (ge_callX G__look_name tk (hr.mono (by omega)) (by rfl) T.g__look_name T.F__look_name.kp T.b__look_name (ga_cons (ge_ix (gv 6) ge_int) (ga_cons (ge_frz (gv 1)) ga_nil)))))
 gss_nil)))
 (gss_one (gs_for (passes_of rfl) rfl (gi_seq (gv 5)) (gg_name (i := 7) sc_look_mentions.nd rfl (.inl rfl))
 (gss_one (gs_expr (ge_callX G__look_name tk (hr.mono (by omega)) (by rfl) T.g__look_name T.F__look_name.kp T.b__look_name (ga_cons (ge_ix (gv 7) ge_int) (ga_cons (ge_frz (gv 2)) ga_nil)))))))))))))) (fun ds m Q Ed h _ => ?_)
  obtain ⟨p, rfl, g, h⟩ := h
  rw [show startD N_look_mentions [p.d] = [some (p.d), none, none, none, none, none, none, none, none, none] from rfl]
  unfold Prog.d
  walk_at "pd"
  intro q1 hq1
  refine names_comp (nm := fun x : Str × List Way => x.1) (by have := g.lt; omega) (fun u hu m' R k => by unfold lotD; walk_at "pd"; exact k) ?_
  refine ⟨q1, _, rfl, mset_same, ?_⟩
  have S1 := PD.Sub.del (PD.Sub.new (o := .lst (List.map D.str (List.map (fun x : Str × List Way => x.1) p.lots))) hq1) hq1
  generalize mdel (mset m q1 (.lst (List.map D.str (List.map (fun x : Str × List Way => x.1) p.lots)))) q1 = m1 at *
  intro q2 hq2
  refine names_comp (nm := fun x : Str × List (List Nat) => x.1) (by have := g.pr; omega) (fun u hu m' R k => by unfold Bk.pairD; walk_at "pd"; exact k) ?_
  refine ⟨q2, _, rfl, mset_same, ?_⟩
  have S2 := PD.Sub.del (PD.Sub.new' (o := .lst (List.map D.str (List.map (fun x : Str × List (List Nat) => x.1) p.pairs))) S1 (PD.Sub.free S1 hq2)) (PD.Sub.free S1 hq2)
  generalize mdel (mset m1 q2 (.lst (List.map D.str (List.map (fun x : Str × List (List Nat) => x.1) p.pairs)))) q2 = m2 at *
  refine ⟨_, _, rfl, g.st, ?_⟩
  refine ⟨p, rfl, g.toSizes, ?_⟩
  walk_at "pd"
  have eD : D.tup [.str "program", .str (tx p.sg), .int (p.rows : Int), .tup (p.pairs.map Bk.pairD), .tup p.nums, .str p.start, .tup (p.lots.map lotD), .tup p.js, .tup p.as] = p.d := rfl
  rw [eD]
  refine loop_chk (m := m2) (fun s' => ∃ a b c x y z u, s' = [some p.d, some (.rol (List.map D.str (List.map (fun x : Str × List Way => x.1) p.lots))), some (.rol (List.map D.str (List.map (fun x : Str × List (List Nat) => x.1) p.pairs))), a, b, c, x, y, z, u]) Way.d trivial ?_ ?_ ⟨_, _, _, _, _, _, _, rfl⟩
  · rintro y hy s' R ⟨a, b, c, x, z, u, v, rfl⟩ hR
    unfold Way.d
    walk_at "pd"
    refine loop_chk (m := m2) (fun s' => ∃ a1 c1 x1 z1 u1, s' = [some p.d, some (.rol (List.map D.str (List.map (fun x : Str × List Way => x.1) p.lots))), some (.rol (List.map D.str (List.map (fun x : Str × List (List Nat) => x.1) p.pairs))), a1, some (.tup (List.map Piece.d y.ps)), some (.tup (List.map Test.d y.ts)), c1, x1, z1, u1]) Piece.d trivial ?_ ?_ ⟨_, _, _, _, _, rfl⟩
    · rintro a ha s2 R2 ⟨a', c', x', z', u', rfl⟩ hR2
      have hp := g.pc y hy a ha
      cases a with
      | lot n =>
        unfold Piece.d
        walk_at "pd"
        exact ⟨_, _, rfl, hp, hR2 _ ⟨_, _, _, _, _, rfl⟩⟩
      | plain ms =>
        unfold Piece.d
        walk_at "pd"
        exact hR2 _ ⟨_, _, _, _, _, rfl⟩
    · rintro s2 ⟨a', c', x', z', u', rfl⟩
      walk_at "pd"
      refine loop_chk (m := m2) (fun s' => ∃ a b c x y z u, s' = [some p.d, some (.rol (List.map D.str (List.map (fun x : Str × List Way => x.1) p.lots))), some (.rol (List.map D.str (List.map (fun x : Str × List (List Nat) => x.1) p.pairs))), a, b, c, x, y, z, u]) Test.d trivial ?_ ?_ ⟨_, _, _, _, _, _, _, rfl⟩
      · rintro t ht s3 R3 ⟨a3, b3, c3, x3, y3, z3, u3, rfl⟩ hR3
        unfold Test.d
        walk_at "pd"
        exact ⟨_, _, rfl, (g.ts y hy t ht).1, hR3 _ ⟨_, _, _, _, _, _, _, rfl⟩⟩
      · rintro s3 ⟨a3, b3, c3, x3, y3, z3, u3, rfl⟩
        exact hR _ ⟨_, _, _, _, _, _, _, rfl⟩
  · rintro s' ⟨a, b, c, x, y, z, u, rfl⟩
    exact ⟨m, S2, h⟩
theorem kinds_pln (ks : List Knd) : pln (kindsD ks) = true ∧ sok (kindsD ks) = true ∧ dep (kindsD ks) ≤ 2 := by
  have h1 : ∀ k : Knd, pln (kindD k) = true ∧ sok (kindD k) = true ∧ dep (kindD k) ≤ 1 := by
    intro k
    cases k with
    | none => exact ⟨rfl, by decide +kernel, by decide⟩
    | some ws =>
      refine ⟨?_, ?_, ?_⟩
      · show plns (ws.map fun w => D.str w.s) = true
        rw [plns_iff]
        intro d hd
        obtain ⟨a, _, rfl⟩ := List.mem_map.mp hd
        rfl
      · show soks (ws.map fun w => D.str w.s) = true
        rw [soks_iff]
        intro d hd
        obtain ⟨a, _, rfl⟩ := List.mem_map.mp hd
        cases a <;> decide +kernel
      · show deps (ws.map fun w => D.str w.s) + 1 ≤ 1
        have : deps (ws.map fun w => D.str w.s) ≤ 0 := by
          rw [deps_le]
          intro d hd
          obtain ⟨a, _, rfl⟩ := List.mem_map.mp hd
          exact Nat.le_refl _
        omega
  refine ⟨?_, ?_, ?_⟩
  · show plns (ks.map kindD) = true
    rw [plns_iff]
    intro d hd
    obtain ⟨a, _, rfl⟩ := List.mem_map.mp hd
    exact (h1 a).1
  · show soks (ks.map kindD) = true
    rw [soks_iff]
    intro d hd
    obtain ⟨a, _, rfl⟩ := List.mem_map.mp hd
    exact (h1 a).2.1
  · show deps (ks.map kindD) + 1 ≤ 2
    have : deps (ks.map kindD) ≤ 1 := by
      rw [deps_le]
      intro d hd
      obtain ⟨a, _, rfl⟩ := List.mem_map.mp hd
      exact (h1 a).2.2
    omega
theorem way_ok {p : Prog} (g : Good p) {y : Way} (hy : y ∈ p.ways) : y.ps.length ≤ 100 ∧ ∀ ms, Piece.plain ms ∈ y.ps → ms.length ≤ 10 := ⟨(g.wy y hy).1, fun ms hm => (g.pc y hy _ hm).1⟩
def sp_look_makers : SpX := fun ds m Q Ed => ∃ p : Prog, ds = [p.d] ∧ Good p ∧ Q .non m
theorem ok_look_makers  (T : Txt K mg) (G_kinds_of : FnOk P w K mg base CX0 (2) T.f_kinds_of T.fd_kinds_of ["way"] (spL K 1 sp_kinds_of)) (G_kinds_by_maker : FnOk P w K mg base CX0 (3) T.f_kinds_by_maker T.fd_kinds_by_maker ["ways"] (spL K 1 sp_kinds_by_maker)) (G_all_ways : FnOk P w K mg base CX0 (1) T.f_all_ways T.fd_all_ways ["program"] (spL K 1 sp_all_ways)) : FnOk P w K mg base (L2.CX P w) (4) T.f_look_makers T.fd_look_makers ["program"] (spX K 1 sp_look_makers) := by
  refine fn_okX T.F_look_makers sc_look_makers (fun cdv A outer s H E Ed hr tk =>
(gss_cons (gs_set (i := 1) sc_look_makers.nd rfl (.inl rfl) (ge_call G_all_ways (hr.mono (by omega)) (by rfl) T.g_all_ways T.F_all_ways.kp T.b_all_ways (ga_cons (gv 0) ga_nil)))
 (gss_cons (gs_set (i := 2) sc_look_makers.nd rfl (.inl rfl) (ge_call G_kinds_by_maker (hr.mono (by omega)) (by rfl) T.g_kinds_by_maker T.F_kinds_by_maker.kp T.b_kinds_by_maker (ga_cons (gv 1) ga_nil)))
 (gss_one (gs_for (passes_of rfl) rfl (gi_seq (gv 1)) (gg_name (i := 3) sc_look_makers.nd rfl (.inl rfl))
 (gss_one (gs_if (gt_cmpR (op_neS hr.units) lr_ne (ge_call G_kinds_of (hr.mono (by omega)) (by rfl) T.g_kinds_of T.F_kinds_of.kp T.b_kinds_of (ga_cons (gv 3) ga_nil)) (ge_dgetU (lt1 hr.units) (gv 2) (ge_ix (gv 3) ge_int) (fun _ _ => rfl)) (nomark _))
 (gss_one (gs_raise rfl tk T.oe_BadMaker T.no_BadMaker T.ic_BadMaker T.ti_BadMaker (T.ini_BadMaker) (hr.mono (by omega)) T.bi_BadMaker (by rfl) T.gc_BadMaker (ga_cons (ge_ix (gv 3) ge_int) ga_nil) (by decide)))
 gss_nil))))))) (fun ds m Q Ed h _ => ?_)
  obtain ⟨p, rfl, g, h⟩ := h
  rw [show startD N_look_makers [p.d] = [some (p.d), none, none, none] from rfl]
  walk_at "pd"
  refine ⟨p, rfl, g.toSizes, ?_⟩
  walk_at "pd"
  refine ⟨p.ways, rfl, g.ways, fun y hy => way_ok g hy, ?_⟩
  walk_at "pd"
  refine loop_chk (m := m) (fun s' => ∃ x, s' = [some p.d, some (.rol (p.ways.map Way.d)), some (dicOf (sDic kindsD (kbm p.ways))), x]) Way.d trivial ?_ ?_ ⟨_, rfl⟩
  · rintro y hy s' R ⟨x, rfl⟩ hR
    obtain ⟨v, hv, e1, e2⟩ := kbm_fnd hy
    have ek : v.k = y.k := g.mkk v hv y hy e1
    walk_at "pd"
    refine ⟨y, rfl, (way_ok g hy).1, (way_ok g hy).2, ?_⟩
    unfold Way.d
    walk_at "pd"
    refine ⟨_, dct_dic, _, rfl, _, by rw [valD_s, e2]; rfl, ?_⟩
    rw [ek]
    obtain ⟨k1, k2, k3⟩ := kinds_pln y.k
    refine ⟨_, eqK_yes m k1 k2 (by omega), ?_⟩
    walk_at "pd"
    exact hR _ ⟨_, rfl⟩
  · rintro s' ⟨x, rfl⟩
    exact sub_refl_fin h
theorem refD_inj {a b : Ref} (h : refD a = refD b) : a = b := by
  unfold refD at h
  injection h with h
  injection h with h1 h2
  injection h2 with h2 _
  injection h1 with h1
  injection h2 with h2
  exact Prod.ext (by omega) (by omega)
theorem ref_pln (a : Ref) : pln (refD a) = true := rfl
theorem ref_dep (a : Ref) : dep (refD a) ≤ 60 := by simp [refD, dep, deps]
theorem refs_pln (l : List Ref) : plns (l.map refD) = true := by
  rw [plns_iff]
  intro d hd
  obtain ⟨a, _, rfl⟩ := List.mem_map.mp hd
  rfl
theorem inP_ref {a : Ref} {l : List Ref} : inP (refD a) (l.map refD) = decide (a ∈ l) := by
  rw [Bool.eq_iff_iff, inP_iff (ref_pln a) (refs_pln l), decide_eq_true_eq, List.mem_map]
  exact ⟨fun ⟨b, hb, e⟩ => refD_inj e ▸ hb, fun h => ⟨a, h, rfl⟩⟩
def sp_look_tests : SpX := fun ds m Q Ed => ∃ p : Prog, ds = [p.d] ∧ Good p ∧ Q .non m
theorem ok_look_tests  (T : Txt K mg) (G_all_ways : FnOk P w K mg base CX0 (1) T.f_all_ways T.fd_all_ways ["program"] (spL K 1 sp_all_ways)) (G_sign_places : FnOk P w K mg base CX0 (2) T.f_sign_places T.fd_sign_places ["kinds"] (spL K 1 sp_sign_places)) (G_kinds_of : FnOk P w K mg base CX0 (2) T.f_kinds_of T.fd_kinds_of ["way"] (spL K 1 sp_kinds_of)) : FnOk P w K mg base (L2.CX P w) (4) T.f_look_tests T.fd_look_tests ["program"] (spX K 1 sp_look_tests) := by
  refine fn_okX T.F_look_tests sc_look_tests (fun cdv A outer s H E Ed hr tk =>
(gss_one (gs_for (passes_of rfl) rfl (gi_seq (ge_call G_all_ways (hr.mono (by omega)) (by rfl) T.g_all_ways T.F_all_ways.kp T.b_all_ways (ga_cons (gv 0) ga_nil))) (gg_name (i := 1) sc_look_tests.nd rfl (.inl rfl))
 (gss_cons (gs_set (i := 2) sc_look_tests.nd rfl (.inl rfl) (ge_call G_sign_places (hr.mono (by omega)) (by rfl) T.g_sign_places T.F_sign_places.kp T.b_sign_places (ga_cons (ge_call G_kinds_of (hr.mono (by omega)) (by rfl) T.g_kinds_of T.F_kinds_of.kp T.b_kinds_of (ga_cons (gv 1) ga_nil)) ga_nil)))
 (gss_one (gs_for (passes_of rfl) rfl (gi_seq (ge_ix (gv 1) ge_int)) (gg_tup (n := 3) rfl (ggs_cons (gg_name (i := 3) sc_look_tests.nd rfl (.inl rfl)) (ggs_cons (gg_name (i := 4) sc_look_tests.nd rfl (.inl rfl)) (ggs_cons (gg_name (i := 5) sc_look_tests.nd rfl (.inl rfl)) ggs_nil))))
 (gss_one (gs_if (gw_or (gt_cmpR (op_notInP hr.units) lr_notInPP (gv 4) (gv 2) (by rfl)) (gw_or1 (gt_cmpR (op_notInP hr.units) lr_notInPP (gv 5) (gv 2) (by rfl)))).gt
 (gss_one (gs_raise rfl tk T.oe_BadRef T.no_BadRef T.ic_BadRef T.ti_BadRef (T.ini_BadRef) (hr.mono (by omega)) T.bi_BadRef (by rfl) T.gc_BadRef (ga_cons (ge_ix (gv 1) ge_int) ga_nil) (by decide)))
 gss_nil)))))))) (fun ds m Q Ed h _ => ?_)
  obtain ⟨p, rfl, g, h⟩ := h
  rw [show startD N_look_tests [p.d] = [some (p.d), none, none, none, none, none] from rfl]
  walk_at "pd"
  refine ⟨p, rfl, g.toSizes, ?_⟩
  walk_at "pd"
  refine loop_chk (m := m) (fun s' => ∃ x y z u v, s' = [some p.d, x, y, z, u, v]) Way.d trivial ?_ ?_ ⟨_, _, _, _, _, rfl⟩
  · rintro y hy s' R ⟨x, y1, z, u, v, rfl⟩ hR
    walk_at "pd"
    refine ⟨y, rfl, (way_ok g hy).1, (way_ok g hy).2, ?_⟩
    walk_at "pd"
    refine ⟨y.k, rfl, by unfold Way.k; rw [List.length_map]; exact (way_ok g hy).1, ?_, ?_⟩
    · intro k hk
      unfold Way.k at hk
      obtain ⟨a, ha, e⟩ := List.mem_map.mp hk
      cases a with
      | lot n => cases e
      | plain ms =>
        injection e with e
        rw [← e, List.length_map]
        exact (way_ok g hy).2 ms ha
    · unfold Way.d
      walk_at "pd"
      refine loop_chk (m := m) (fun s' => ∃ x1 y1 z1, s' = [some p.d, some (.tup [.str y.mr, .tup (List.map Piece.d y.ps), .tup (List.map Test.d y.ts)]), some (.tup ((refsTo isSg y.k).map refD)), x1, y1, z1]) Test.d trivial ?_ ?_ ⟨_, _, _, rfl⟩
      · rintro t ht s2 R2 ⟨x1, y1, z1, rfl⟩ hR2
        obtain ⟨_, t1, t2⟩ := g.ts y hy t ht
        rw [Test.d.eq_1]
        walk_at "pd"
        refine ⟨_, rfl, ref_pln _, refs_pln _, ref_dep _, ?_⟩
        rw [inP_ref, decide_eq_true t1]
        walk_at "pd"
        refine ⟨_, rfl, ref_pln _, refs_pln _, ref_dep _, ?_⟩
        rw [inP_ref, decide_eq_true t2]
        walk_at "pd"
        exact hR2 _ ⟨_, _, _, rfl⟩
      · rintro s2 ⟨x1, y1, z1, rfl⟩
        exact hR _ ⟨_, _, _, _, _, rfl⟩
  · rintro s' ⟨x, y, z, u, v, rfl⟩
    exact sub_refl_fin h
end
section
variable {P : Program} {w : World} {K : PySem.W.Frag} {mg : Str → Option Value} {base : Heap}
def sp__fits : SpD := fun ds m Q => ∃ (kd wd : D), ds = [oneD, kd, wd] ∧ Q (.bl true) m
theorem ok__fits  (T : Txt K mg) (G_mark_places : FnOk P w K mg base CX0 (2) T.f_mark_places T.fd_mark_places ["kinds"] (spL K 1 sp_nev)) (G_run_places : FnOk P w K mg base CX0 (2) T.f_run_places T.fd_run_places ["kinds"] (spL K 1 sp_nev)) (G_part_places : FnOk P w K mg base CX0 (1) T.f_part_places T.fd_part_places ["kinds"] (spL K 1 sp_nev)) (G_sign_places : FnOk P w K mg base CX0 (2) T.f_sign_places T.fd_sign_places ["kinds"] (spL K 1 sp_sign_places)) : FnOk P w K mg base CX0 (3) T.f__fits T.fd__fits ["mention", "kinds", "widths"] (spL K 3 sp__fits) := by
  refine fn_ok T.F__fits sc__fits (fun cdv A outer s H E hr =>
(gss_cons (gs_if (gt_cmpR (op_eqS hr.units) lr_eq (ge_ix (gv 0) ge_int) ge_str (nomark _))
 (gss_cons (gs_set (i := 3) sc__fits.nd rfl (.inr rfl) (ge_call G_sign_places (hr.mono (by omega)) (by rfl) T.g_sign_places T.F_sign_places.kp T.b_sign_places (ga_cons (gv 1) ga_nil)))
 (gss_cons (gs_set (i := 4) sc__fits.nd rfl (.inl rfl) (ge_callB (cr_all rfl) lc_all (by rfl) T.z_all (by decide +kernel) (ga_cons (ge_lc (own := [("ref", 5)]) rfl sc__fits.nd (gi_seq (ge_ix (gv 0) ge_int)) (blkOk_by (N := N__fits) (sc := defScope s__fits) (by decide +kernel)) (fun _ _ _ _ _ => (gg_name (i := 5) sc__fits.nd rfl (.inl rfl))) (fun _ _ _ _ _ => gts_nil) (fun _ _ _ _ _ => (ge_cmpR (op_inP hr.units) lr_inPP (gv 5) (gv 3) (by rfl))) (by decide)) ga_nil)))
 (gss_one (gs_ret (ge_and (gv 4) (ge_one (ge_cmpR (op_eqS hr.units) lr_eq (ge_callB call_lenU lc_len (by rfl) T.z_len PySem.boot_len (ga_cons (ge_ix (gv 0) ge_int) ga_nil)) (ge_dgetU (lt1 hr.units) (gv 2) (ge_ix (gv 0) ge_int) (fun _ _ => rfl)) (nomark _))))))))
 gss_nil)
 (gss_cons (gs_if (gt_cmpR (op_eqS hr.units) lr_eq (ge_ix (gv 0) ge_int) ge_str (nomark _))
 (gss_one (gs_ret (ge_cmpR (op_inP hr.units) lr_inPP (ge_ix (gv 0) ge_int) (ge_call G_part_places (hr.mono (by omega)) (by rfl) T.g_part_places T.F_part_places.kp T.b_part_places (ga_cons (gv 1) ga_nil)) (by rfl))))
 gss_nil)
 (gss_cons (gs_if (gt_cmpR (op_eqS hr.units) lr_eq (ge_ix (gv 0) ge_int) ge_str (nomark _))
 (gss_one (gs_ret (ge_cmpR (op_inP hr.units) lr_inPP (ge_ix (gv 0) ge_int) (ge_call G_run_places (hr.mono (by omega)) (by rfl) T.g_run_places T.F_run_places.kp T.b_run_places (ga_cons (gv 1) ga_nil)) (by rfl))))
 gss_nil)
 (gss_cons (gs_if (gt_cmpR (op_eqS hr.units) lr_eq (ge_ix (gv 0) ge_int) ge_str (nomark _))
 (gss_one (gs_ret (ge_cmpR (op_inP hr.units) lr_inPP (ge_ix (gv 0) ge_int) (ge_call G_mark_places (hr.mono (by omega)) (by rfl) T.g_mark_places T.F_mark_places.kp T.b_mark_places (ga_cons (gv 1) ga_nil)) (by rfl))))
 gss_nil)
 (gss_one (gs_ret ge_bl))))))) (fun ds m Q h => ?_)
  obtain ⟨kd, wd, rfl, h⟩ := h
  rw [show startD N__fits [oneD, kd, wd] = [some (oneD), some (kd), some (wd), none, none, none] from rfl]
  unfold oneD
  walk_at "pd"
  exact sub_refl_fin h
def Srt.ms : Srt → List D
  | .num => [oneD]
  | _ => []
def sp__mentions_in : SpD := fun ds m Q => ∃ z : Srt, ds = [.str z.s, z.b] ∧ Q (.rol z.ms) m
theorem ok__mentions_in  (T : Txt K mg)  : FnOk P w K mg base CX0 (1) T.f__mentions_in T.fd__mentions_in ["sort", "formula"] (spL K 2 sp__mentions_in) := by
  refine fn_ok T.F__mentions_in sc__mentions_in (fun cdv A outer s H E hr =>
(gss_cons (gs_set (i := 2) sc__mentions_in.nd rfl (.inl rfl) (ge_lst ga_nil))
 (gss_cons (gs_if (gt_cmpR (op_eqS hr.units) lr_eq (gv 0) ge_str (nomark _))
 (gss_one (gs_for PassesOwn.never rfl (gi_seq (ge_ix (gv 1) ge_int)) (gg_name (i := 3) sc__mentions_in.nd rfl (.inl rfl))
 (gss_one (gs_expr (ge_bm PySem.F.slot_list_extend PySem.F.type_list_extend mt_extendU lm_extend (gv 2) (ga_cons (ge_lc (own := [("k", 7), ("atom", 8)]) rfl sc__mentions_in.nd (gi_seq (gv 3)) (blkOk_by (N := N__mentions_in) (sc := defScope s__mentions_in) (by decide +kernel)) (fun _ _ _ _ _ => (gg_tup (n := 2) rfl (ggs_cons (gg_name (i := 7) sc__mentions_in.nd rfl (.inl rfl)) (ggs_cons (gg_name (i := 8) sc__mentions_in.nd rfl (.inl rfl)) ggs_nil)))) (fun _ _ _ _ _ => gts_nil) (fun _ _ _ _ _ => (gv 8)) (by decide)) ga_nil))))))
 (gss_one (gs_if (gt_cmpR (op_eqS hr.units) lr_eq (gv 0) ge_str (nomark _))
 (gss_one (gs_for PassesOwn.never rfl (gi_seq (gv 1)) (gg_tup (n := 3) rfl (ggs_cons (gg_name (i := 4) sc__mentions_in.nd rfl (.inl rfl)) (ggs_cons (gg_name (i := 5) sc__mentions_in.nd rfl (.inl rfl)) (ggs_cons (gg_name (i := 6) sc__mentions_in.nd rfl (.inl rfl)) ggs_nil))))
 (gss_cons (gs_expr (ge_bm PySem.F.slot_list_extend PySem.F.type_list_extend mt_extendU lm_extend (gv 2) (ga_cons (ge_lc (own := [("name", 10), ("refs", 11)]) rfl sc__mentions_in.nd (gi_seq (gv 5)) (blkOk_by (N := N__mentions_in) (sc := defScope s__mentions_in) (by decide +kernel)) (fun _ _ _ _ _ => (gg_tup (n := 2) rfl (ggs_cons (gg_name (i := 10) sc__mentions_in.nd rfl (.inl rfl)) (ggs_cons (gg_name (i := 11) sc__mentions_in.nd rfl (.inl rfl)) ggs_nil)))) (fun _ _ _ _ _ => gts_nil) (fun _ _ _ _ _ => (ge_tup (ga_cons ge_str (ga_cons (gv 10) (ga_cons (gv 11) ga_nil))))) (by decide)) ga_nil)))
 (gss_one (gs_expr (ge_bm PySem.F.slot_list_extend PySem.F.type_list_extend mt_extendU lm_extend (gv 2) (ga_cons (ge_lc (own := [("place", 9)]) rfl sc__mentions_in.nd (gi_seq (gv 6)) (blkOk_by (N := N__mentions_in) (sc := defScope s__mentions_in) (by decide +kernel)) (fun _ _ _ _ _ => (gg_name (i := 9) sc__mentions_in.nd rfl (.inl rfl))) (fun _ _ _ _ _ => gts_nil) (fun _ _ _ _ _ => (ge_tup (ga_cons ge_str (ga_cons (gv 9) ga_nil)))) (by decide)) ga_nil)))))))
 (gss_one (gs_expr (ge_bm PySem.F.slot_list_extend PySem.F.type_list_extend mt_extendU lm_extend (gv 2) (ga_cons (gv 1) ga_nil)))))))
 (gss_one (gs_ret (ge_frz (gv 2))))))) (fun ds m Q h => ?_)
  obtain ⟨z, rfl, h⟩ := h
  rw [show startD N__mentions_in [.str z.s, z.b] = [some (.str z.s), some (z.b), none, none, none, none, none, none, none, none, none, none] from rfl]
  cases z with
  | num =>
    rw [show Srt.num.s = "number" from rfl, show Srt.num.b = .tup [.str "one", .tup [.tup [.tup [.int 1, oneD]]]] from rfl]
    walk_at "pd"
    intro p hp
    refine ⟨⟨_, _, lstOf_ref mset_same⟩, fun q hq => ?_⟩
    have nq : p ≠ q := fun z => by rw [← z, mset_same] at hq; cases hq
    have S1 := PD.Sub.new (m := m) (o := .lst []) hp
    refine ⟨p, _, _, lstOf_ref (by rw [mset_ne nq]; exact mset_same), seqW_ref mset_same, by decide, _, mset_same, m, PD.Sub.del (PD.Sub.new' (PD.Sub.new' S1 (PD.Sub.free S1 hq)) hp) hp, h⟩
  | prod =>
    rw [show Srt.prod.s = "product" from rfl, show Srt.prod.b = .tup [.tup [.int 1, .tup [], .tup []]] from rfl]
    walk_at "pd"
    intro p hp
    refine ⟨⟨_, _, lstOf_ref mset_same⟩, fun q hq => ?_⟩
    have nq : p ≠ q := fun z => by rw [← z, mset_same] at hq; cases hq
    have S1 := PD.Sub.new (m := m) (o := .lst []) hp
    have S2 := PD.Sub.new' (o := .lst []) S1 (PD.Sub.free S1 hq)
    refine ⟨p, _, _, lstOf_ref (by rw [mset_ne nq]; exact mset_same), seqW_ref mset_same, by decide, ⟨_, _, lstOf_ref mset_same⟩, fun u hu => ?_⟩
    have S3 := PD.Sub.new' (o := .lst ([] ++ [])) S2 hp
    have nu : p ≠ u := fun z => by rw [← z, mset_same] at hu; cases hu
    refine ⟨p, _, _, lstOf_ref (by rw [mset_ne nu]; exact mset_same), seqW_ref mset_same, by decide, _, mset_same, m, PD.Sub.del (PD.Sub.new' (PD.Sub.new' S3 (PD.Sub.free S3 hu)) hp) hp, h⟩
  | txt =>
    rw [show Srt.txt.s = "text" from rfl, show Srt.txt.b = .tup [] from rfl]
    walk_at "pd"
    intro p hp
    refine ⟨⟨_, _, lstOf_ref mset_same⟩, p, _, _, lstOf_ref mset_same, rfl, by decide, _, mset_same, m, PD.Sub.del (PD.Sub.new' (PD.Sub.new hp) hp) hp, h⟩
def sp__look_mention : SpX := fun ds m Q Ed => ∃ (mk : Str) (kd wd : D), ds = [oneD, .str mk, kd, wd] ∧ Q .non m
theorem ok__look_mention  (T : Txt K mg) (G__fits : FnOk P w K mg base CX0 (3) T.f__fits T.fd__fits ["mention", "kinds", "widths"] (spL K 3 sp__fits)) : FnOk P w K mg base (L2.CX P w) (4) T.f__look_mention T.fd__look_mention ["mention", "maker", "kinds", "widths"] (spX K 4 sp__look_mention) := by
  refine fn_okX T.F__look_mention sc__look_mention (fun cdv A outer s H E Ed hr tk =>
(gss_cons (gs_if (gw_and (gt_cmpR (op_eqS hr.units) lr_eq (ge_ix (gv 0) ge_int) ge_str (nomark _)) (gw_and1 (gt_dnotinU (lt1 hr.units) (ge_ix (gv 0) ge_int) (gv 3)))).gt
 (gss_one (gs_raise rfl tk T.oe_NoName T.no_NoName T.ic_NoName T.ti_NoName (T.ini_NoName) (hr.mono (by omega)) T.bi_NoName (by rfl) T.gc_NoName (ga_cons (ge_ix (gv 0) ge_int) ga_nil) (by decide)))
 gss_nil)
 (gss_one (gs_if (gt_not (gt_val (ge_call G__fits (hr.mono (by omega)) (by rfl) T.g__fits T.F__fits.kp T.b__fits (ga_cons (gv 0) (ga_cons (gv 2) (ga_cons (gv 3) ga_nil))))))
 (gss_one (gs_raise rfl tk T.oe_BadRef T.no_BadRef T.ic_BadRef T.ti_BadRef (T.ini_BadRef) (hr.mono (by omega)) T.bi_BadRef (by rfl) T.gc_BadRef (ga_cons (gv 1) ga_nil) (by decide)))
 gss_nil)))) (fun ds m Q Ed h _ => ?_)
  obtain ⟨mk, kd, wd, rfl, h⟩ := h
  rw [show startD N__look_mention [oneD, .str mk, kd, wd] = [some (oneD), some (.str mk), some (kd), some (wd)] from rfl]
  unfold oneD
  walk_at "pd"
  refine ⟨kd, wd, rfl, ?_⟩
  walk_at "w"
  exact sub_refl_fin h
def sp__look_makers_of : SpX := fun ds m Q Ed => ∃ (z : Srt) (mk : Str) (kb : List (Str × List Knd)) (wd : D), ds = [.tup [.tup [.str mk, z.b]], .str z.s, dicOf (sDic kindsD kb), wd] ∧ kb.map (·.1) = [mk] ∧ Q .non m
theorem ok__look_makers_of  (T : Txt K mg) (G__mentions_in : FnOk P w K mg base CX0 (1) T.f__mentions_in T.fd__mentions_in ["sort", "formula"] (spL K 2 sp__mentions_in)) (G__look_mention : FnOk P w K mg base (L2.CX P w) (4) T.f__look_mention T.fd__look_mention ["mention", "maker", "kinds", "widths"] (spX K 4 sp__look_mention)) : FnOk P w K mg base (L2.CX P w) (5) T.f__look_makers_of T.fd__look_makers_of ["formulas", "sort", "first_kinds", "widths"] (spX K 4 sp__look_makers_of) := by
  refine fn_okX T.F__look_makers_of sc__look_makers_of (fun cdv A outer s H E Ed hr tk =>
(gss_cons (gs_set (i := 4) sc__look_makers_of.nd rfl (.inl rfl) (ge_set0P (P := P) (w := w) rfl rfl (by rfl) T.z_set))
 (gss_one (gs_for (passes_of rfl) rfl (gi_seq (gv 0)) (gg_tup (n := 2) rfl (ggs_cons (gg_name (i := 5) sc__look_makers_of.nd rfl (.inl rfl)) (ggs_cons (gg_name (i := 6) sc__look_makers_of.nd rfl (.inl rfl)) ggs_nil)))
 (gss_cons (gs_if (gt_dnotinU (lt1 hr.units) (gv 5) (gv 2))
 (gss_one (gs_raise rfl tk T.oe_NoName T.no_NoName T.ic_NoName T.ti_NoName (T.ini_NoName) (hr.mono (by omega)) T.bi_NoName (by rfl) T.gc_NoName (ga_cons (gv 5) ga_nil) (by decide)))
 gss_nil)
 (gss_cons (gs_if (gt_cmpR or_sinK (lr_sin (P := P) (w := w)) (gv 5) (gv 4) (by rfl))
 (gss_one (gs_raise rfl tk T.oe_TwiceNamed T.no_TwiceNamed T.ic_TwiceNamed T.ti_TwiceNamed (T.ini_TwiceNamed) (hr.mono (by omega)) T.bi_TwiceNamed (by rfl) T.gc_TwiceNamed (ga_cons (gv 5) ga_nil) (by decide)))
 gss_nil)
 (gss_cons (gs_expr (ge_saddP (P := P) (w := w) rfl rfl (gv 4) (ga_cons (gv 5) ga_nil)))
 (gss_one (gs_for (passes_of rfl) rfl (gi_seq (ge_call G__mentions_in (hr.mono (by omega)) (by rfl) T.g__mentions_in T.F__mentions_in.kp T.b__mentions_in (ga_cons (gv 1) (ga_cons (gv 6) ga_nil)))) (gg_name (i := 7) sc__look_makers_of.nd rfl (.inl rfl))
 (gss_one (gs_expr (ge_callX G__look_mention tk (hr.mono (by omega)) (by rfl) T.g__look_mention T.F__look_mention.kp T.b__look_mention (ga_cons (gv 7) (ga_cons (gv 5) (ga_cons (ge_dgetU (lt1 hr.units) (gv 2) (gv 5) (fun _ _ => rfl)) (ga_cons (gv 3) ga_nil)))))))))))))))) (fun ds m Q Ed h _ => ?_)
  obtain ⟨z, mk, kb, wd, rfl, hk, h⟩ := h
  rw [show startD N__look_makers_of [.tup [.tup [.str mk, z.b]], .str z.s, dicOf (sDic kindsD kb), wd] = [some (.tup [.tup [.str mk, z.b]]), some (.str z.s), some (dicOf (sDic kindsD kb)), some (wd), none, none, none, none] from rfl]
  walk_at "pd"
  intro q hq
  have hin : ∃ ks, fnd kb mk = some ks := by
    cases e : fnd kb mk with
    | none => exact (fnd_none.mp e (by rw [hk]; exact List.mem_singleton.mpr rfl)).elim
    | some ks => exact ⟨ks, rfl⟩
  obtain ⟨ks, ek⟩ := hin
  refine ⟨_, dct_dic, _, rfl, ?_⟩
  rw [valD_s, ek]
  walk_at "pd"
  rw [if_neg (show ¬ (!(Option.map kindsD (some ks)).isSome) = true from Bool.false_ne_true)]
  refine ⟨_, q, _, _, rfl, rfl, mset_same, ?_⟩
  walk_at "pd"
  refine ⟨⟨q, _, _, rfl, mset_same⟩, q, _, _, _, _, rfl, rfl, rfl, mset_same, by decide, z, rfl, ?_⟩
  rw [mset_mset]
  have S1 : PD.Sub m (mset m q (.sset P w (fun j => false || decide (j = Sum.inr mk)) (if false = true then 0 else 0 + 1))) := PD.Sub.new hq
  generalize mset m q _ = m1 at S1
  cases z with
  | num =>
    rw [show Srt.num.ms = [oneD] from rfl]
    walk_at "pd"
    refine ⟨_, dct_dic, _, rfl, _, by rw [valD_s, ek]; rfl, mk, kindsD ks, wd, rfl, ?_⟩
    walk_at "w"
    exact ⟨m, S1, h⟩
  | prod =>
    rw [show Srt.prod.ms = [] from rfl]
    walk_at "pd"
    exact ⟨m, S1, h⟩
  | txt =>
    rw [show Srt.txt.ms = [] from rfl]
    walk_at "pd"
    exact ⟨m, S1, h⟩
def sp_look_formulas : SpX := fun ds m Q Ed => ∃ (p : Prog) (js : List Jd) (as : List (Str × Ak)), ds = [p.d] ∧ G22 p js as ∧ Q .non m
theorem ok_look_formulas  (T : Txt K mg) (G__look_makers_of : FnOk P w K mg base (L2.CX P w) (5) T.f__look_makers_of T.fd__look_makers_of ["formulas", "sort", "first_kinds", "widths"] (spX K 4 sp__look_makers_of)) (G__first_told : FnOk P w K mg base CX0 (1) T.f__first_told T.fd__first_told ["pairs"] (spL K 1 sp__first_told)) (G_kinds_by_maker : FnOk P w K mg base CX0 (3) T.f_kinds_by_maker T.fd_kinds_by_maker ["ways"] (spL K 1 sp_kinds_by_maker)) (G_all_ways : FnOk P w K mg base CX0 (1) T.f_all_ways T.fd_all_ways ["program"] (spL K 1 sp_all_ways)) : FnOk P w K mg base (L2.CX P w) (6) T.f_look_formulas T.fd_look_formulas ["program"] (spX K 1 sp_look_formulas) := by
  refine fn_okX T.F_look_formulas sc_look_formulas (fun cdv A outer s H E Ed hr tk =>
(gss_cons (gs_set (i := 1) sc_look_formulas.nd rfl (.inl rfl) (ge_call G_kinds_by_maker (hr.mono (by omega)) (by rfl) T.g_kinds_by_maker T.F_kinds_by_maker.kp T.b_kinds_by_maker (ga_cons (ge_call G_all_ways (hr.mono (by omega)) (by rfl) T.g_all_ways T.F_all_ways.kp T.b_all_ways (ga_cons (gv 0) ga_nil)) ga_nil)))
 (gss_cons (gs_set (i := 2) sc_look_formulas.nd rfl (.inl rfl) (ge_call G__first_told (hr.mono (by omega)) (by rfl) T.g__first_told T.F__first_told.kp T.b__first_told (ga_cons (ge_frz (ge_lc (own := [("entry", 8)]) rfl sc_look_formulas.nd (gi_seq (ge_ix (gv 0) (ge_glb (by rfl) T.v_NUMBERS))) (blkOk_by (N := N_look_formulas) (sc := defScope s_look_formulas) (by decide +kernel)) (fun _ _ _ _ _ => (gg_name (i := 8) sc_look_formulas.nd rfl (.inl rfl))) (fun _ _ _ _ _ => gts_nil) (fun _ _ _ _ _ => (ge_tup (ga_cons (ge_ix (gv 8) ge_int) (ga_cons (ge_ix (gv 8) ge_int) ga_nil)))) (by decide))) ga_nil)))
 (gss_one (gs_for (passes_of rfl) rfl (gi_seq (ge_ix (gv 0) (ge_glb (by rfl) T.v_JUDGES))) (gg_tup (n := 3) rfl (ggs_cons (gg_name (i := 3) sc_look_formulas.nd rfl (.inl rfl)) (ggs_cons (gg_name (i := 4) sc_look_formulas.nd rfl (.inl rfl)) (ggs_cons (gg_name (i := 5) sc_look_formulas.nd rfl (.inl rfl)) ggs_nil))))
 (gss_cons (gs_expr (ge_callX G__look_makers_of tk (hr.mono (by omega)) (by rfl) T.g__look_makers_of T.F__look_makers_of.kp T.b__look_makers_of (ga_cons (gv 5) (ga_cons (gv 4) (ga_cons (gv 1) (ga_cons (gv 2) ga_nil))))))
 (gss_cons (gs_setLc (i := 6) (own := [("maker", 7), ("formula", 9)]) rfl sc_look_formulas.nd rfl rfl (sw_true rfl rfl rfl (by decide +kernel)) (gi_seq (gv 5)) (blkOk_by (N := N_look_formulas) (sc := defScope s_look_formulas) (by decide +kernel)) (fun _ _ _ _ _ => (gg_tup (n := 2) rfl (ggs_cons (gg_name (i := 7) sc_look_formulas.nd rfl (.inl rfl)) (ggs_cons (gg_name (i := 9) sc_look_formulas.nd rfl (.inl rfl)) ggs_nil)))) (fun _ _ _ _ _ => gts_nil) (fun _ _ _ _ _ => (gv 7)) (by decide))
 (gss_one (gs_for (passes_of rfl) rfl (gi_keys (gv 1)) (gg_name (i := 7) sc_look_formulas.nd rfl (.inl rfl))
 (gss_one (gs_if (gt_cmpR op_notInU lr_notIn (gv 7) (gv 6) (by rfl))
 (gss_one (gs_raise rfl tk T.oe_Missing T.no_Missing T.ic_Missing T.ti_Missing (T.ini_Missing) (hr.mono (by omega)) T.bi_Missing (by rfl) T.gc_Missing (ga_cons (gv 3) (ga_cons (gv 7) ga_nil)) (by decide)))
 gss_nil))))))))))) (fun ds m Q Ed h _ => ?_)
  obtain ⟨p, js, as, rfl, g, h⟩ := h
  rw [show startD N_look_formulas [p.d] = [some (p.d), none, none, none, none, none, none, none, none, none] from rfl]
  walk_at "pd"
  refine ⟨p, rfl, g.toSizes, ?_⟩
  walk_at "pd"
  refine ⟨p.ways, rfl, g.ways, fun y hy => way_ok g.toGood hy, ?_⟩
  unfold Prog.d
  rw [g.nn, g.ej]
  walk_at "pd"
  intro q hq
  refine ⟨_, rfl, [], rfl, List.nodup_nil, Nat.zero_le _, ?_⟩
  have S1 := PD.Sub.del (PD.Sub.new (m := m) (o := .lst []) hq) hq
  generalize mdel (mset m q (.lst [])) q = m1 at S1
  refine loop_pre (us := js) (fun pre s' m' => (∃ c0 c3 c4 c5 c6 c7 c8 c9, s' = [c0, some (dicOf (sDic kindsD (kbm p.ways))), some (dicOf (sDic id [])), c3, c4, c5, c6, c7, c8, c9]) ∧ PD.Sub m m') Jd.d (fun _ _ _ _ => trivial) ?_ ?_ ⟨⟨_, _, _, _, _, _, _, _, rfl⟩, S1⟩
  · rintro pre j post e s' m' R ⟨⟨c0, c3, c4, c5, c6, c7, c8, c9, rfl⟩, S2⟩ hR
    obtain ⟨z, mk, ez, eb, ek⟩ := g.jb j (by rw [e]; simp)
    unfold Jd.d
    rw [ez, eb]
    walk_at "pd"
    refine ⟨z, mk, kbm p.ways, _, rfl, ek, ?_⟩
    walk_at "w"
    intro u hu
    unfold dicOf
    dsimp only
    rw [show ((sDic kindsD (kbm p.ways)).map (·.1)).map keyD = (((kbm p.ways).map (·.1)).map D.str) from by unfold sDic; rw [List.map_map, List.map_map, List.map_map]; rfl, ek]
    walk_at "pd"
    refine ⟨_, seqOf_ref mset_same, rfl, ?_⟩
    have hi : inF (.str mk) ([] ++ [D.str mk]) = true := by simp [inF, eqF]
    rw [hi]
    walk_at "pd"
    exact hR _ _ ⟨⟨_, _, _, _, _, _, _, _, rfl⟩, PD.Sub.new' S2 (PD.Sub.free S2 hu)⟩
  · rintro s' m' ⟨⟨c0, c3, c4, c5, c6, c7, c8, c9, rfl⟩, S2⟩
    exact ⟨m, S2, h⟩
end
def fmK (j : Jd) : List (List Key × D) := match j.body with
  | .tup [.tup [.str mk, b]] => [([.inr j.nm, .inr mk], b)]
  | _ => []
def fmls (js : List Jd) : List (List Key × D) := js.flatMap fmK
def fm1 (j : Jd) (mk : Str) (b : D) : List Key × D := ([.inr j.nm, .inr mk], b)
theorem fmK_is {j : Jd} {mk : Str} {b : D} (e : j.body = .tup [.tup [.str mk, b]]) : fmK j = [fm1 j mk b] := by unfold fmK; rw [e]; rfl
theorem put_fresh {κ : Type} [DecidableEq κ] {kvs : List (κ × D)} {k : κ} {d : D} (h : k ∉ kvs.map (·.1)) : putKD kvs k d = kvs ++ [(k, d)] := by
  unfold putKD
  rw [if_neg]
  intro e
  rw [List.any_eq_true] at e
  obtain ⟨kv, h1, h2⟩ := e
  exact h (List.mem_map.mpr ⟨kv, h1, of_decide_eq_true h2⟩)
section
variable {P : Program} {w : World} {K : PySem.W.Frag} {mg : Str → Option Value} {base : Heap}
theorem ok__told_by (T : Txt K mg) : FnOk P w K mg base CX0 (1) T.f__told_by T.fd__told_by ["numbers"] (spL K 1 sp_nev) := fn_nev (k := 1 - 1) T.F__told_by sc__told_by
def sp__look_all (T : Txt K mg) : SpX := fun ds m Q Ed => ∃ (p : Prog) (js : List Jd) (as : List (Str × Ak)), ds = [p.d] ∧ G22 p js as ∧
  (askOut (js.map Jd.s) as = .fine → Q .non m) ∧ (∀ j, askOut (js.map Jd.s) as = .noName j → ∀ m', PD.Sub m m' → Ed (.ref T.c_NoName) [("name", .str j)] m') ∧ (∀ n, askOut (js.map Jd.s) as = .badAsk n → ∀ m', PD.Sub m m' → Ed (.ref T.c_BadAsk) [("name", .str n)] m')
theorem ok__look_all  (T : Txt K mg) (G_look_asks : FnOk P w K mg base (L2.CX P w) (4) T.f_look_asks T.fd_look_asks ["program"] (spX K 1 (sp_look_asks T))) (G_look_formulas : FnOk P w K mg base (L2.CX P w) (6) T.f_look_formulas T.fd_look_formulas ["program"] (spX K 1 sp_look_formulas)) (G_look_tests : FnOk P w K mg base (L2.CX P w) (4) T.f_look_tests T.fd_look_tests ["program"] (spX K 1 sp_look_tests)) (G_look_makers : FnOk P w K mg base (L2.CX P w) (4) T.f_look_makers T.fd_look_makers ["program"] (spX K 1 sp_look_makers)) (G_look_mentions : FnOk P w K mg base (L2.CX P w) (4) T.f_look_mentions T.fd_look_mentions ["program"] (spX K 1 sp_look_mentions)) (G_look_signs : FnOk P w K mg base (L2.CX P w) (3) T.f_look_signs T.fd_look_signs ["program"] (spX K 1 sp_look_signs)) (G_look_names : FnOk P w K mg base (L2.CX P w) (4) T.f_look_names T.fd_look_names ["program"] (spX K 1 sp_look_names)) : FnOk P w K mg base (L2.CX P w) (7) T.f__look_all T.fd__look_all ["program"] (spX K 1 (sp__look_all T)) := by
  refine fn_okX T.F__look_all sc__look_all (fun cdv A outer s H E Ed hr tk =>
(gss_cons (gs_expr (ge_callX G_look_names tk (hr.mono (by omega)) (by rfl) T.g_look_names T.F_look_names.kp T.b_look_names (ga_cons (gv 0) ga_nil)))
 (gss_cons (gs_expr (ge_callX G_look_signs tk (hr.mono (by omega)) (by rfl) T.g_look_signs T.F_look_signs.kp T.b_look_signs (ga_cons (gv 0) ga_nil)))
 (gss_cons (gs_expr (ge_callX G_look_mentions tk (hr.mono (by omega)) (by rfl) T.g_look_mentions T.F_look_mentions.kp T.b_look_mentions (ga_cons (gv 0) ga_nil)))
 (gss_cons (gs_expr (ge_callX G_look_makers tk (hr.mono (by omega)) (by rfl) T.g_look_makers T.F_look_makers.kp T.b_look_makers (ga_cons (gv 0) ga_nil)))
 (gss_cons (gs_expr (ge_callX G_look_tests tk (hr.mono (by omega)) (by rfl) T.g_look_tests T.F_look_tests.kp T.b_look_tests (ga_cons (gv 0) ga_nil)))
 (gss_cons (gs_expr (ge_callX G_look_formulas tk (hr.mono (by omega)) (by rfl) T.g_look_formulas T.F_look_formulas.kp T.b_look_formulas (ga_cons (gv 0) ga_nil)))
 (gss_one (gs_expr (ge_callX G_look_asks tk (hr.mono (by omega)) (by rfl) T.g_look_asks T.F_look_asks.kp T.b_look_asks (ga_cons (gv 0) ga_nil))))))))))) (fun ds m Q Ed h _ => ?_)
  obtain ⟨p, js, as, rfl, g, h, h2, h3⟩ := h
  rw [show startD N__look_all [p.d] = [some (p.d)] from rfl]
  walk_at "pd"
  refine ⟨p, js, as, rfl, g, ?_⟩
  refine ⟨p, rfl, g.toGood1, ?_⟩
  refine ⟨p, rfl, g.toGood, ?_⟩
  refine ⟨p, rfl, g.toGood, ?_⟩
  refine ⟨p, rfl, g.toGood, ?_⟩
  refine ⟨p, js, as, rfl, g, ?_⟩
  refine ⟨p, js, as, rfl, g.ej, g.ea, g.jn, g.jl, g.al, g.az, fun e => ?_, h2, h3⟩
  exact sub_refl_fin (h e)
def sp__formulas_of : SpD := fun ds m Q => ∃ (p : Prog) (js : List Jd), ds = [p.d] ∧ p.js = js.map Jd.d ∧ js.length ≤ 100 ∧ (js.map (·.nm)).Nodup ∧ (∀ j ∈ js, ∃ mk b, j.body = .tup [.tup [.str mk, b]]) ∧ Q (dicTOf (fmls js)) m
theorem ok__formulas_of  (T : Txt K mg)  : FnOk P w K mg base CX0 (1) T.f__formulas_of T.fd__formulas_of ["program"] (spL K 1 sp__formulas_of) := by
  refine fn_ok T.F__formulas_of sc__formulas_of (fun cdv A outer s H E hr =>
(gss_cons (gs_set (i := 1) sc__formulas_of.nd rfl (.inl rfl) ge_dnewT)
 (gss_cons (gs_for PassesOwn.never rfl (gi_seq (ge_ix (gv 0) (ge_glb (by rfl) T.v_JUDGES))) (gg_tup (n := 3) rfl (ggs_cons (gg_name (i := 2) sc__formulas_of.nd rfl (.inl rfl)) (ggs_cons (gg_name (i := 3) sc__formulas_of.nd rfl (.inl rfl)) (ggs_cons (gg_name (i := 4) sc__formulas_of.nd rfl (.inl rfl)) ggs_nil))))
 (gss_one (gs_for PassesOwn.never rfl (gi_seq (gv 4)) (gg_tup (n := 2) rfl (ggs_cons (gg_name (i := 5) sc__formulas_of.nd rfl (.inl rfl)) (ggs_cons (gg_name (i := 6) sc__formulas_of.nd rfl (.inl rfl)) ggs_nil)))
 (gss_one (gs_dputT (lt1 hr.units) (gv 1) (ga_cons (gv 2) (ga_cons (gv 5) ga_nil)) (gv 6))))))
 (gss_one (gs_ret (ge_frzT (gv 1))))))) (fun ds m Q h => ?_)
  obtain ⟨p, js, rfl, ej, h1, h2, h3, h⟩ := h
  rw [show startD N__formulas_of [p.d] = [some (p.d), none, none, none, none, none, none] from rfl]
  unfold Prog.d
  rw [ej]
  walk_at "pd"
  intro q hq
  have fl : ∀ pre : List Jd, pre.length ≤ 100 → (fmls pre).length ≤ 100 := fun pre hl => by
    have := flat_le (f := fmK) (n := 1) (l := pre) (fun j hj => by unfold fmK; split <;> simp)
    unfold fmls; omega
  refine loop_pre (us := js) (fun pre s' m' => (∃ c0 c2 c3 c4 c5 c6, s' = [c0, some (.ref q), c2, c3, c4, c5, c6]) ∧ m' = mset m q (.dcT (fmls pre))) Jd.d (fun _ _ _ _ => trivial) ?_ ?_ ⟨⟨_, _, _, _, _, _, rfl⟩, rfl⟩
  · rintro pre j post e s' m' R ⟨⟨c0, c2, c3, c4, c5, c6, rfl⟩, rfl⟩ hR
    have hjn : j.nm ∉ pre.map (·.nm) := by
      rw [e, List.map_append, List.nodup_append] at h2
      exact fun hc => h2.2.2 _ hc _ (List.mem_cons_self ..) rfl
    obtain ⟨mk, b, eb⟩ := h3 j (by rw [e]; simp)
    have hpl : pre.length ≤ 100 := by have := congrArg List.length e; simp at this; omega
    have hfl := fl pre hpl
    have hfn : ([.inr j.nm, .inr mk] : List Key) ∉ (fmls pre).map (·.1) := by
      intro hc
      obtain ⟨kv, hkv, ek⟩ := List.mem_map.mp hc
      obtain ⟨j', hj', hkv⟩ := List.mem_flatMap.mp hkv
      unfold fmK at hkv
      split at hkv
      · rw [List.mem_singleton.mp hkv] at ek
        injection ek with ek _
        exact hjn (List.mem_map.mpr ⟨j', hj', Sum.inr.inj ek⟩)
      · cases hkv
    unfold Jd.d
    rw [eb]
    walk_at "pd"
    refine ⟨q, _, _, rfl, mset_same, rfl, Nat.lt_of_le_of_lt hfl (by decide), ?_⟩
    rw [mset_mset, put_fresh hfn]
    refine hR _ _ ⟨⟨_, _, _, _, _, _, rfl⟩, ?_⟩
    unfold fmls
    rw [List.flatMap_append, List.flatMap_singleton, fmK_is eb]; rfl
  · rintro s' m' ⟨⟨c0, c2, c3, c4, c5, c6, rfl⟩, rfl⟩
    walk_at "pd"
    exact ⟨q, _, rfl, mset_same, m, PD.Sub.del (PD.Sub.new hq) hq, h⟩
theorem sub_put {m M : Mu} {x : Addr} {o o' : MO} (S : PD.Sub (mset m x o) M) : PD.Sub (mset m x o') (mset M x o') := fun a u e => by
  by_cases h : a = x
  · subst h; rw [mset_same] at e ⊢; exact e
  · rw [mset_ne h] at e ⊢; exact S a u (by rw [mset_ne h]; exact e)
theorem sub_at {m M : Mu} {x : Addr} {o : MO} (S : PD.Sub (mset m x o) M) : M x = some o := S x o mset_same
def bkF (p : Prog) (js : List Jd) (as : List (Str × Ak)) : List (Str × D) := bkFs.zip (bkVs p (dicOf []) (srtD (js.map Jd.s)) (dicTOf (fmls js)) (asksD as))
theorem fl_lenF (p : Prog) (js : List Jd) (as : List (Str × Ak)) (k : Nat) : ((bkF p js as).take k).length < 1000 := by
  rw [List.length_take]
  have : (bkF p js as).length = 11 := rfl
  omega
theorem nd_inr {l : List Str} (h : l.Nodup) : (l.map (Sum.inr : Str → Key)).Nodup := by
  unfold List.Nodup at *
  rw [List.pairwise_map]
  exact h.imp fun hne e => hne (Sum.inr.inj e)
def sp_Book___init__ (T : Txt K mg) : SpX := fun ds m Q Ed => ∃ (p : Prog) (js : List Jd) (as : List (Str × Ak)) (x : Addr), ds = [.ref x, p.d] ∧ m x = some (.ins T.c_Book []) ∧ G22 p js as ∧
  (askOut (js.map Jd.s) as = .fine → Q .non (mset m x (.ins T.c_Book (bkF p js as)))) ∧ (∀ j, askOut (js.map Jd.s) as = .noName j → ∀ m', PD.Sub m m' → Ed (.ref T.c_NoName) [("name", .str j)] m') ∧ (∀ n, askOut (js.map Jd.s) as = .badAsk n → ∀ m', PD.Sub m m' → Ed (.ref T.c_BadAsk) [("name", .str n)] m')
set_option maxHeartbeats 8000000 in
theorem ok_Book___init__  (T : Txt K mg) (G__formulas_of : FnOk P w K mg base CX0 (1) T.f__formulas_of T.fd__formulas_of ["program"] (spL K 1 sp__formulas_of)) (G__told_by : FnOk P w K mg base CX0 (1) T.f__told_by T.fd__told_by ["numbers"] (spL K 1 sp_nev)) (G_kinds_by_maker : FnOk P w K mg base CX0 (3) T.f_kinds_by_maker T.fd_kinds_by_maker ["ways"] (spL K 1 sp_kinds_by_maker)) (G_all_ways : FnOk P w K mg base CX0 (1) T.f_all_ways T.fd_all_ways ["program"] (spL K 1 sp_all_ways)) (G__look_all : FnOk P w K mg base (L2.CX P w) (7) T.f__look_all T.fd__look_all ["program"] (spX K 1 (sp__look_all T))) : FnOk P w K mg base (L2.CX P w) (8) T.f_Book___init__ T.fd_Book___init__ ["self", "program"] (spX K 2 (sp_Book___init__ T)) := by
  refine fn_okX T.F_Book___init__ sc_Book___init__ (fun cdv A outer s H E Ed hr tk =>
(gss_cons (gs_expr (ge_callX G__look_all tk (hr.mono (by omega)) (by rfl) T.g__look_all T.F__look_all.kp T.b__look_all (ga_cons (gv 1) ga_nil)))
 (gss_cons (gs_fld T.cls_Book T.na_Book_program (gv 0) (gv 1))
 (gss_cons (gs_fld T.cls_Book T.na_Book_signs (gv 0) (ge_ix (gv 1) (ge_glb (by rfl) T.v_SIGNS)))
 (gss_cons (gs_fld T.cls_Book T.na_Book_rows (gv 0) (ge_ix (gv 1) (ge_glb (by rfl) T.v_ROWS)))
 (gss_cons (gs_fld T.cls_Book T.na_Book_start (gv 0) (ge_ix (gv 1) (ge_glb (by rfl) T.v_START)))
 (gss_cons (gs_fld T.cls_Book T.na_Book__ways (gv 0) (ge_frzD (ge_dc (own := [("name", 3), ("ways", 4)]) rfl sc_Book___init__.nd (gi_seq (ge_ix (gv 1) (ge_glb (by rfl) T.v_LOTS))) (blkOk_by (N := N_Book___init__) (sc := defScope s_Book___init__) (by decide +kernel)) (fun _ _ _ _ _ => (gg_tup (n := 2) rfl (ggs_cons (gg_name (i := 3) sc_Book___init__.nd rfl (.inl rfl)) (ggs_cons (gg_name (i := 4) sc_Book___init__.nd rfl (.inl rfl)) ggs_nil)))) (fun _ _ _ _ _ => gts_nil) (fun _ _ _ _ _ => (gv 3)) (fun _ _ _ _ _ => (gv 4)) (by decide))))
 (gss_cons (gs_fld T.cls_Book T.na_Book__kinds (gv 0) (ge_call G_kinds_by_maker (hr.mono (by omega)) (by rfl) T.g_kinds_by_maker T.F_kinds_by_maker.kp T.b_kinds_by_maker (ga_cons (ge_call G_all_ways (hr.mono (by omega)) (by rfl) T.g_all_ways T.F_all_ways.kp T.b_all_ways (ga_cons (gv 1) ga_nil)) ga_nil)))
 (gss_cons (gs_fld T.cls_Book T.na_Book__pairs (gv 0) (ge_frzD (ge_dc (own := [("name", 3), ("words", 5)]) rfl sc_Book___init__.nd (gi_seq (ge_ix (gv 1) (ge_glb (by rfl) T.v_PAIRS))) (blkOk_by (N := N_Book___init__) (sc := defScope s_Book___init__) (by decide +kernel)) (fun _ _ _ _ _ => (gg_tup (n := 2) rfl (ggs_cons (gg_name (i := 3) sc_Book___init__.nd rfl (.inl rfl)) (ggs_cons (gg_name (i := 5) sc_Book___init__.nd rfl (.inl rfl)) ggs_nil)))) (fun _ _ _ _ _ => gts_nil) (fun _ _ _ _ _ => (gv 3)) (fun _ _ _ _ _ => (gv 5)) (by decide))))
 (gss_cons (gs_fld T.cls_Book T.na_Book__numbers (gv 0) (ge_frzD (ge_dc (own := [("entry", 2)]) rfl sc_Book___init__.nd (gi_seq (ge_ix (gv 1) (ge_glb (by rfl) T.v_NUMBERS))) (blkOk_by (N := N_Book___init__) (sc := defScope s_Book___init__) (by decide +kernel)) (fun _ _ _ _ _ => (gg_name (i := 2) sc_Book___init__.nd rfl (.inl rfl))) (fun _ _ _ _ _ => gts_nil) (fun _ _ _ _ _ => (ge_ix (gv 2) ge_int)) (fun _ _ _ _ _ => (ge_call G__told_by (hr.mono (by omega)) (by rfl) T.g__told_by T.F__told_by.kp T.b__told_by (ga_cons (gv 2) ga_nil))) (by decide))))
 (gss_cons (gs_fld T.cls_Book T.na_Book__sorts (gv 0) (ge_frzD (ge_dc (own := [("entry", 2)]) rfl sc_Book___init__.nd (gi_seq (ge_ix (gv 1) (ge_glb (by rfl) T.v_JUDGES))) (blkOk_by (N := N_Book___init__) (sc := defScope s_Book___init__) (by decide +kernel)) (fun _ _ _ _ _ => (gg_name (i := 2) sc_Book___init__.nd rfl (.inl rfl))) (fun _ _ _ _ _ => gts_nil) (fun _ _ _ _ _ => (ge_ix (gv 2) ge_int)) (fun _ _ _ _ _ => (ge_ix (gv 2) ge_int)) (by decide))))
 (gss_cons (gs_fld T.cls_Book T.na_Book__formulas (gv 0) (ge_call G__formulas_of (hr.mono (by omega)) (by rfl) T.g__formulas_of T.F__formulas_of.kp T.b__formulas_of (ga_cons (gv 1) ga_nil)))
 (gss_one (gs_fld T.cls_Book T.na_Book__asks (gv 0) (ge_frzD (ge_dc (own := [("name", 3), ("ask", 6)]) rfl sc_Book___init__.nd (gi_seq (ge_ix (gv 1) (ge_glb (by rfl) T.v_ASKS))) (blkOk_by (N := N_Book___init__) (sc := defScope s_Book___init__) (by decide +kernel)) (fun _ _ _ _ _ => (gg_tup (n := 2) rfl (ggs_cons (gg_name (i := 3) sc_Book___init__.nd rfl (.inl rfl)) (ggs_cons (gg_name (i := 6) sc_Book___init__.nd rfl (.inl rfl)) ggs_nil)))) (fun _ _ _ _ _ => gts_nil) (fun _ _ _ _ _ => (gv 3)) (fun _ _ _ _ _ => (gv 6)) (by decide))))))))))))))))) (fun ds m Q Ed h _ => ?_)
  obtain ⟨p, js, as, x, rfl, hx, g, h, h2, h3⟩ := h
  rw [show startD N_Book___init__ [.ref x, p.d] = [some (.ref x), some (p.d), none, none, none, none, none] from rfl]
  walk_at "pd"
  refine ⟨p, js, as, rfl, g, fun ef => ?_, h2, h3⟩
  replace h := h ef
  walk_at "w"
  have S0 : PD.Sub (mset m x (.ins T.c_Book ((bkF p js as).take 0))) m := fun a u e => by
    by_cases h : a = x
    · subst h; rw [mset_same] at e; rw [← e]; exact hx
    · rw [mset_ne h] at e; exact e
  refine ⟨x, _, rfl, hx, by decide, ?_⟩
  rw [show putD "program" p.d ([] : List (Str × D)) = (bkF p js as).take 1 from rfl]
  generalize eM : mset m x (.ins T.c_Book ((bkF p js as).take 1)) = M1
  have S1 : PD.Sub (mset m x (.ins T.c_Book ((bkF p js as).take 1))) M1 := eM ▸ PD.Sub.refl _
  refine ⟨x, _, rfl, sub_at S1, fl_lenF p js as _, ?_⟩
  rw [show putD "signs" (.str (tx p.sg)) ((bkF p js as).take 1) = (bkF p js as).take 2 from rfl]
  have S2 := sub_put (o' := .ins T.c_Book ((bkF p js as).take 2)) S1
  generalize mset M1 x (.ins T.c_Book ((bkF p js as).take 2)) = M2 at *
  refine ⟨x, _, rfl, sub_at S2, fl_lenF p js as _, ?_⟩
  rw [show putD "rows" (.int (p.rows : Int)) ((bkF p js as).take 2) = (bkF p js as).take 3 from rfl]
  have S3 := sub_put (o' := .ins T.c_Book ((bkF p js as).take 3)) S2
  generalize mset M2 x (.ins T.c_Book ((bkF p js as).take 3)) = M3 at *
  refine ⟨x, _, rfl, sub_at S3, fl_lenF p js as _, ?_⟩
  rw [show putD "start" (.str p.start) ((bkF p js as).take 3) = (bkF p js as).take 4 from rfl]
  have S4 := sub_put (o' := .ins T.c_Book ((bkF p js as).take 4)) S3
  generalize mset M3 x (.ins T.c_Book ((bkF p js as).take 4)) = M4 at *
  intro q4 hq4
  refine dcomp_pure lotD (fun l => ((.inr l.1 : Key), waysD l.2)) (fun _ => trivial) (by have := g.lt; omega) ?_ (fun l hl a R k => ?_) ?_
  · have e : (p.lots.map fun l => (Sum.inr l.1 : Key)) = (p.lots.map (·.1)).map Sum.inr := by rw [List.map_map]; rfl
    rw [e]
    exact nd_inr g.ndL
  · rw [lotD.eq_1]
    walk_at "pd"
    exact k _ rfl
  refine ⟨q4, _, rfl, mset_same, ?_⟩
  rw [show (p.lots.map fun l => ((Sum.inr l.1 : Key), waysD l.2)) = sDic waysD p.lots from rfl]
  have F4 := PD.Sub.free S4 hq4
  have n4 : x ≠ q4 := fun e => by have z := sub_at S4; rw [e, hq4] at z; cases z
  have S4' := PD.Sub.del (PD.Sub.new' (o := .dct (sDic waysD p.lots)) S4 F4) F4
  generalize mdel (mset M4 q4 (.dct (sDic waysD p.lots))) q4 = M4' at *
  refine ⟨x, _, rfl, sub_at S4', fl_lenF p js as _, ?_⟩
  rw [show putD "_ways" (dicOf (sDic waysD p.lots)) ((bkF p js as).take 4) = (bkF p js as).take 5 from rfl]
  have S5 := sub_put (o' := .ins T.c_Book ((bkF p js as).take 5)) S4'
  generalize mset M4' x (.ins T.c_Book ((bkF p js as).take 5)) = M5 at *
  refine ⟨p, rfl, g.toSizes, ?_⟩
  walk_at "pd"
  refine ⟨p.ways, rfl, g.ways, fun y hy => way_ok g.toGood hy, ?_⟩
  refine ⟨x, _, rfl, sub_at S5, fl_lenF p js as _, ?_⟩
  rw [show putD "_kinds" (dicOf (sDic kindsD (kbm p.ways))) ((bkF p js as).take 5) = (bkF p js as).take 6 from rfl]
  have S6 := sub_put (o' := .ins T.c_Book ((bkF p js as).take 6)) S5
  generalize mset M5 x (.ins T.c_Book ((bkF p js as).take 6)) = M6 at *
  intro q6 hq6
  refine dcomp_pure Bk.pairD (fun l => ((.inr l.1 : Key), wordsD l.2)) (fun _ => trivial) (by have := g.pr; omega) ?_ (fun l hl a R k => ?_) ?_
  · have e : (p.pairs.map fun l => (Sum.inr l.1 : Key)) = (p.pairs.map (·.1)).map Sum.inr := by rw [List.map_map]; rfl
    rw [e]
    exact nd_inr g.ndP
  · rw [Bk.pairD.eq_1]
    walk_at "pd"
    exact k _ rfl
  refine ⟨q6, _, rfl, mset_same, ?_⟩
  rw [show (p.pairs.map fun l => ((Sum.inr l.1 : Key), wordsD l.2)) = sDic wordsD p.pairs from rfl]
  have F6 := PD.Sub.free S6 hq6
  have n6 : x ≠ q6 := fun e => by have z := sub_at S6; rw [e, hq6] at z; cases z
  have S6' := PD.Sub.del (PD.Sub.new' (o := .dct (sDic wordsD p.pairs)) S6 F6) F6
  generalize mdel (mset M6 q6 (.dct (sDic wordsD p.pairs))) q6 = M6' at *
  refine ⟨x, _, rfl, sub_at S6', fl_lenF p js as _, ?_⟩
  rw [show putD "_pairs" (dicOf (sDic wordsD p.pairs)) ((bkF p js as).take 6) = (bkF p js as).take 7 from rfl]
  have S7 := sub_put (o' := .ins T.c_Book ((bkF p js as).take 7)) S6'
  generalize mset M6' x (.ins T.c_Book ((bkF p js as).take 7)) = M7 at *
  rw [g.nn]
  walk_at "w"
  intro q7 hq7
  refine ⟨q7, _, rfl, mset_same, ?_⟩
  have F7 := PD.Sub.free S7 hq7
  have n7 : x ≠ q7 := fun e => by have z := sub_at S7; rw [e, hq7] at z; cases z
  have S7' := PD.Sub.del (PD.Sub.new' (o := .dct []) S7 F7) F7
  generalize mdel (mset M7 q7 (.dct [])) q7 = M7' at *
  refine ⟨x, _, rfl, sub_at S7', fl_lenF p js as _, ?_⟩
  rw [show putD "_numbers" (dicOf []) ((bkF p js as).take 7) = (bkF p js as).take 8 from rfl]
  have S8 := sub_put (o' := .ins T.c_Book ((bkF p js as).take 8)) S7'
  generalize mset M7' x (.ins T.c_Book ((bkF p js as).take 8)) = M8 at *
  rw [g.ej]
  walk_at "w"
  intro q8 hq8
  refine dcomp_pure Jd.d (fun j => ((.inr j.nm : Key), .str j.sort)) (fun _ => trivial) (by have := g.jl; omega) ?_ (fun j hj a R k => ?_) ?_
  · have e : (js.map fun j => (Sum.inr j.nm : Key)) = (js.map (·.nm)).map Sum.inr := by rw [List.map_map]; rfl
    rw [e]
    exact nd_inr g.jn
  · rw [Jd.d.eq_1]
    walk_at "pd"
    exact k _ rfl
  refine ⟨q8, _, rfl, mset_same, ?_⟩
  rw [show (js.map fun j => ((Sum.inr j.nm : Key), D.str j.sort)) = sDic D.str (js.map Jd.s) from by unfold sDic; rw [List.map_map]; rfl]
  have F8 := PD.Sub.free S8 hq8
  have n8 : x ≠ q8 := fun e => by have z := sub_at S8; rw [e, hq8] at z; cases z
  have S8' := PD.Sub.del (PD.Sub.new' (o := .dct (sDic D.str (js.map Jd.s))) S8 F8) F8
  generalize mdel (mset M8 q8 (.dct (sDic D.str (js.map Jd.s)))) q8 = M8' at *
  refine ⟨x, _, rfl, sub_at S8', fl_lenF p js as _, ?_⟩
  rw [show putD "_sorts" (dicOf (sDic D.str (js.map Jd.s))) ((bkF p js as).take 8) = (bkF p js as).take 9 from rfl]
  have S9 := sub_put (o' := .ins T.c_Book ((bkF p js as).take 9)) S8'
  generalize mset M8' x (.ins T.c_Book ((bkF p js as).take 9)) = M9 at *
  refine ⟨p, js, rfl, g.ej, g.jl, g.jn, fun j hj => by obtain ⟨z, mk, _, eb, _⟩ := g.jb j hj; exact ⟨mk, z.b, eb⟩, ?_⟩
  refine ⟨x, _, rfl, sub_at S9, fl_lenF p js as _, ?_⟩
  rw [show putD "_formulas" (dicTOf (fmls js)) ((bkF p js as).take 9) = (bkF p js as).take 10 from rfl]
  have S10 := sub_put (o' := .ins T.c_Book ((bkF p js as).take 10)) S9
  generalize mset M9 x (.ins T.c_Book ((bkF p js as).take 10)) = M10 at *
  rw [g.ea]
  walk_at "w"
  intro q10 hq10
  refine dcomp_pure akR (fun q => ((.inr q.1 : Key), akD q.2)) (fun _ => trivial) (by have := g.al; omega) ?_ (fun q hq a R k => ?_) ?_
  · have e : (as.map fun q => (Sum.inr q.1 : Key)) = (as.map (·.1)).map Sum.inr := by rw [List.map_map]; rfl
    rw [e]
    exact nd_inr g.an
  · rw [akR.eq_1]
    walk_at "pd"
    exact k _ rfl
  refine ⟨q10, _, rfl, mset_same, ?_⟩
  rw [show (as.map fun q => ((Sum.inr q.1 : Key), akD q.2)) = sDic akD as from rfl]
  have F10 := PD.Sub.free S10 hq10
  have n10 : x ≠ q10 := fun e => by have z := sub_at S10; rw [e, hq10] at z; cases z
  have S10' := PD.Sub.del (PD.Sub.new' (o := .dct (sDic akD as)) S10 F10) F10
  generalize mdel (mset M10 q10 (.dct (sDic akD as))) q10 = M10' at *
  refine ⟨x, _, rfl, sub_at S10', fl_lenF p js as _, ?_⟩
  rw [show putD "_asks" (dicOf (sDic akD as)) ((bkF p js as).take 10) = (bkF p js as).take 11 from rfl]
  have S11 := sub_put (o' := .ins T.c_Book ((bkF p js as).take 11)) S10'
  generalize mset M10' x (.ins T.c_Book ((bkF p js as).take 11)) = M11 at *
  exact ⟨_, S11, h⟩
end
section
variable {P : Program} {w : World} {K : PySem.W.Frag} {mg : Str → Option Value} {base : Heap}
def sp_Book_asks (C : Addr) : SpD := fun ds m Q => ∃ (p : Prog) (nv sv fv : D) (as : List (Str × Ak)), ds = [bookD C p nv sv fv (asksD as)] ∧ Q (.tup (as.map fun q => .str q.1)) m
theorem ok_Book_asks  (T : Txt K mg)  : FnOk P w K mg base CX0 (1) T.f_Book_asks T.fd_Book_asks ["self"] (spL K 1 (sp_Book_asks T.c_Book)) := by
  refine fn_ok T.F_Book_asks sc_Book_asks (fun cdv A outer s H E hr =>
(gss_one (gs_ret (ge_callTy (call_tup_dK (by rfl)) lc_tupD (by rfl) T.z_tuple (by decide +kernel) (ga_cons (ge_fldO T.cls_Book T.na_Book__asks (gv 0)) ga_nil))))) (fun ds m Q h => ?_)
  obtain ⟨p, nv, sv, fv, as, rfl, h⟩ := h
  unfold bookD
  rw [show startD N_Book_asks [.obj T.c_Book bkFs (bkVs p nv sv fv (asksD as))] = [some (.obj T.c_Book bkFs (bkVs p nv sv fv (asksD as)))] from rfl]
  walk_at "pd"
  unfold dTupD asksD dicOf
  dsimp only
  rw [show ((sDic akD as).map (·.1)).map keyD = as.map fun q => D.str q.1 from by unfold sDic; rw [List.map_map, List.map_map]; rfl]
  exact sub_refl_fin h
end
def Tp (m : Mu) (a g : Addr) : Prop := ∃ (xs : List Int) (c s k : Int), m a = some (.lst [.ref g, .int c, .int s, .int k]) ∧ m g = some (.lst (xs.map .int)) ∧ g ≠ a ∧ xs.length ≤ 63
theorem Tp.keep {m m' : Mu} {a g : Addr} (h : Tp m a g) (ka : ∀ o, m a = some o → m' a = some o) (kg : ∀ o, m g = some o → m' g = some o) : Tp m' a g :=
  let ⟨xs, c, s, k, e, f, r⟩ := h; ⟨xs, c, s, k, ka _ e, kg _ f, r⟩
theorem Tp.new {m : Mu} {a g p : Addr} {o : MO} (h : Tp m a g) (hp : m p = none) : Tp (mset m p o) a g := h.keep (fun _ e => mset_new hp e) fun _ e => mset_new hp e
theorem Tp.ne {m : Mu} {a g p : Addr} (h : Tp m a g) (hp : m p = none) : p ≠ a ∧ p ≠ g := by
  obtain ⟨_, _, _, _, e, f, _⟩ := h
  refine ⟨fun z => ?_, fun z => ?_⟩
  · rw [← z, hp] at e; cases e
  · rw [← z, hp] at f; cases f
theorem Tp.del {m : Mu} {a g p : Addr} (h : Tp m a g) (h1 : p ≠ a) (h2 : p ≠ g) : Tp (mdel m p) a g := h.keep (fun _ e => by rw [mdel_ne (Ne.symm h1)]; exact e) fun _ e => by rw [mdel_ne (Ne.symm h2)]; exact e
theorem Tp.setp {m : Mu} {a g p : Addr} {o : MO} (h : Tp m a g) (h1 : p ≠ a) (h2 : p ≠ g) : Tp (mset m p o) a g := h.keep (fun _ e => by rw [mset_ne (Ne.symm h1)]; exact e) fun _ e => by rw [mset_ne (Ne.symm h2)]; exact e
theorem mset_none {m : Mu} {p x : Addr} {o : MO} (h : mset m p o x = none) : m x = none ∧ x ≠ p := by
  have hx : x ≠ p := fun e => by rw [e, mset_same] at h; cases h
  exact ⟨by rw [mset_ne hx] at h; exact h, hx⟩
/-- nothing but the pool has changed -/
structure OfP (a g : Addr) (m m' : Mu) : Prop where
  kp : ∀ x o, x ≠ a → x ≠ g → m x = some o → m' x = some o
  al : ∀ x, m' x = none → m x = none
theorem OfP.refl (a g : Addr) (m : Mu) : OfP a g m m := ⟨fun _ _ _ _ e => e, fun _ e => e⟩
theorem OfP.trans {a g : Addr} {m m1 m2 : Mu} (h : OfP a g m m1) (k : OfP a g m1 m2) : OfP a g m m2 := ⟨fun x o n1 n2 e => k.kp x o n1 n2 (h.kp x o n1 n2 e), fun x e => h.al x (k.al x e)⟩
theorem OfP.seta {a g : Addr} {m m' : Mu} {o : MO} (h : OfP a g m m') : OfP a g m (mset m' a o) := ⟨fun x u n1 n2 e => by rw [mset_ne n1]; exact h.kp x u n1 n2 e, fun x e => h.al x (mset_none e).1⟩
theorem OfP.setg {a g : Addr} {m m' : Mu} {o : MO} (h : OfP a g m m') : OfP a g m (mset m' g o) := ⟨fun x u n1 n2 e => by rw [mset_ne n2]; exact h.kp x u n1 n2 e, fun x e => h.al x (mset_none e).1⟩
theorem OfP.new {a g p : Addr} {m m' : Mu} {o : MO} (h : OfP a g m m') (hp : m p = none) : OfP a g m (mset m' p o) :=
  ⟨fun x u n1 n2 e => by
    have : x ≠ p := fun z => by rw [z, hp] at e; cases e
    rw [mset_ne this]; exact h.kp x u n1 n2 e, fun x e => h.al x (mset_none e).1⟩
theorem OfP.del {a g p : Addr} {m m' : Mu} (h : OfP a g m m') (hp : m p = none) : OfP a g m (mdel m' p) :=
  ⟨fun x u n1 n2 e => by
    have : x ≠ p := fun z => by rw [z, hp] at e; cases e
    rw [mdel_ne this]; exact h.kp x u n1 n2 e, fun x e => by
    by_cases z : x = p
    · rw [z]; exact hp
    · rw [mdel_ne z] at e; exact h.al x e⟩
theorem cdw {x n : Int} (h : 0 < n) (h2 : n ≤ 1000000000000) : CDivW x n := by
  refine ⟨h, (Nat.log2_lt (by omega)).mpr (Nat.lt_of_lt_of_le (by omega : n.natAbs < 1000000000001) (Nat.le_trans (by decide : _ ≤ 2 ^ 40) (Nat.pow_le_pow_right (by decide) (by decide))))⟩
section
variable {P : Program} {w : World} {K : PySem.W.Frag} {mg : Str → Option Value} {base : Heap}
def sp__law_pick : SpD := fun ds m Q => ∃ (a g : Addr) (n : Int), ds = [.ref a, .int n] ∧ 0 < n ∧ n ≤ 1000000000000 ∧ Tp m a g ∧ ∀ (r : Int) m', 0 ≤ r → r < n → OfP a g m m' → Tp m' a g → Q (.int r) m'
theorem ok__law_pick  (T : Txt K mg)  : FnOk P w K mg base CX0 (1) T.f__law_pick T.fd__law_pick ["_law_pool", "_law_many"] (spL K 2 sp__law_pick) := by
  refine fn_ok T.F__law_pick sc__law_pick (fun cdv A outer s H E hr =>
(gss_cons (gs_if (gw_and (gt_cmpR (op_eqS hr.units) lr_eq (ge_ix (gv 0) ge_int) ge_int (nomark _)) (gw_and1 (gt_cmpR (op_gtS hr.units) lr_gtP (ge_callB call_lenU lc_len (by rfl) T.z_len PySem.boot_len (ga_cons (ge_ix (gv 0) ge_int) ga_nil)) ge_int (nomark _)))).gt
 (gss_cons (gs_set (i := 2) sc__law_pick.nd rfl (.inl rfl) (ge_callTy call_int1 lc_int (by rfl) T.z_int (by decide +kernel) (ga_cons (ge_bm PySem.F.slot_list_pop PySem.F.type_list_pop mt_popU lm_pop (ge_ix (gv 0) ge_int) (ga_cons ge_int ga_nil)) ga_nil)))
 (gss_cons (gs_if (gt_cmpR (op_ltS hr.units) lr_ltP (gv 2) ge_int (nomark _))
 (gss_cons (gs_set (i := 2) sc__law_pick.nd rfl (.inl rfl) (ge_op op_sub lr_sub ge_int (gv 2)))
 (gss_one (gs_asg (ge_op op_addL lr_addL (ge_ix (gv 0) ge_int) ge_int) (gg_sub (gv 0) ge_int))))
 gss_nil)
 (gss_one (gs_if (gt_cmpR op_ge lr_cmp (gv 2) ge_int (nomark _))
 (gss_one (gs_asg (gv 2) (gg_sub (gv 0) ge_int)))
 (gss_one (gs_asg (ge_op op_mod lr_int2 (ge_callTy call_int1 lc_int (by rfl) T.z_int (by decide +kernel) (ga_cons (ge_op op_addL lr_addL (ge_op op_addL lr_addL (ge_op op_mulL lr_mulL (ge_ix (gv 0) ge_int) ge_int) (ge_op op_mulL lr_mulL (gv 2) ge_int)) ge_int) ga_nil)) ge_int) (gg_sub (gv 0) ge_int)))))))
 gss_nil)
 (gss_cons (gs_if (gt_cmpR (op_gtS hr.units) lr_gtP (ge_ix (gv 0) ge_int) ge_int (nomark _))
 (gss_cons (gs_set (i := 3) sc__law_pick.nd rfl (.inl rfl) (ge_op op_mod lr_int2 (ge_callTy call_int1 lc_int (by rfl) T.z_int (by decide +kernel) (ga_cons (ge_ix (gv 0) ge_int) ga_nil)) (gv 1)))
 (gss_cons (gs_asg (ge_op op_fdivW lr_int2 (ge_ix (gv 0) ge_int) (gv 1)) (gg_sub (gv 0) ge_int))
 (gss_one (gs_ret (ge_frz (gv 3))))))
 gss_nil)
 (gss_cons (gs_asg (ge_op op_addL lr_addL (ge_ix (gv 0) ge_int) ge_int) (gg_sub (gv 0) ge_int))
 (gss_cons (gs_asg (ge_op op_mod lr_int2 (ge_callTy call_int1 lc_int (by rfl) T.z_int (by decide +kernel) (ga_cons (ge_op op_addL lr_addL (ge_op op_addL lr_addL (ge_op op_mulL lr_mulL (ge_ix (gv 0) ge_int) ge_int) (ge_op op_mulL lr_mulL (ge_ix (gv 0) ge_int) ge_int)) ge_int) ga_nil)) ge_int) (gg_sub (gv 0) ge_int))
 (gss_one (gs_ret (ge_frz (ge_op op_mod lr_int2 (ge_callTy call_int1 lc_int (by rfl) T.z_int (by decide +kernel) (ga_cons (ge_op op_fdivW lr_int2 (ge_ix (gv 0) ge_int) ge_int) ga_nil)) (gv 1)))))))))) (fun ds m Q h => ?_)
  obtain ⟨a, g, n, rfl, hn, hn2, ⟨xs, c, s, k, ea, eg, ga, hxl⟩, h⟩ := h
  rw [show startD N__law_pick [.ref a, .int n] = [some (.ref a), some (.int n), none, none] from rfl]
  refine seq_cut (fun s' m' => ∃ (xs : List Int) (c s k : Int) (c2 : Option D), s' = [some (.ref a), some (.int n), c2, none] ∧ m' a = some (.lst [.ref g, .int c, .int s, .int k]) ∧ m' g = some (.lst (xs.map .int)) ∧ xs.length ≤ 63 ∧ OfP a g m m') (fun R hR => ?_) ?_
  · walk_at "pd"
    refine ⟨_, seqOf_ref ea, _, atI_1, ?_⟩
    walk_at "pd"
    by_cases h1 : c = 0
    · rw [if_pos (by simpa using h1)]
      refine ⟨_, seqOf_ref ea, _, atI_0, dLen_seq (seqOf_ref eg) ?_⟩
      walk_at "pd"
      rw [List.length_map]
      by_cases h2 : 0 < (xs.length : Int)
      · rw [if_pos h2]
        cases xs with
        | nil => exact absurd h2 (by decide)
        | cons x xs =>
          refine ⟨_, seqOf_ref ea, _, atI_0, ?_⟩
          refine ⟨⟨_, _, lstOf_ref eg⟩, g, _, lstOf_ref eg, 0, seqI_0, .int x, rfl, ?_⟩
          rw [List.map_cons, List.eraseIdx_cons_zero]
          have hxl2 : xs.length ≤ 63 := by rw [List.length_cons] at hxl; omega
          have eg1 : mset m g (.lst (xs.map .int)) g = some (.lst (xs.map .int)) := mset_same
          have ea1 : mset m g (.lst (xs.map .int)) a = some (.lst [.ref g, .int c, .int s, .int k]) := by rw [mset_ne (Ne.symm ga)]; exact ea
          have O1 : OfP a g m (mset m g (.lst (xs.map .int))) := (OfP.refl a g m).setg
          generalize mset m g (.lst (xs.map .int)) = m1 at *
          walk_at "pd"
          by_cases hx : x < 0
          · rw [if_pos (by simpa using hx)]
            refine ⟨_, seqOf_ref ea1, _, atI_2, ?_⟩
            walk_at "pd"
            refine ⟨a, _, lstOf_ref ea1, 2, rfl, ?_⟩
            have ea2 : mset m1 a (.lst ([D.ref g, .int c, .int s, .int k].set 2 (.int (s + 41)))) a = some (.lst [.ref g, .int c, .int (s + 41), .int k]) := mset_same
            have eg2 : mset m1 a (.lst ([D.ref g, .int c, .int s, .int k].set 2 (.int (s + 41)))) g = some (.lst (xs.map .int)) := by rw [mset_ne ga]; exact eg1
            have O2 : OfP a g m (mset m1 a (.lst ([D.ref g, .int c, .int s, .int k].set 2 (.int (s + 41))))) := O1.seta
            generalize mset m1 a (.lst ([D.ref g, .int c, .int s, .int k].set 2 (.int (s + 41)))) = m2 at *
            walk_at "w"
            by_cases hb : (1000000000000000 : Int) ≤ (1 - x)
            · rw [if_pos (by simpa using hb)]
              exact ⟨a, _, lstOf_ref ea2, 1, rfl, hR _ _ ⟨xs, _, _, _, _, rfl, mset_same, by rw [mset_ne ga]; exact eg2, hxl2, O2.seta⟩⟩
            · rw [if_neg (by simpa using hb)]
              refine ⟨_, seqOf_ref ea2, _, atI_2, ?_⟩
              walk_at "pd"
              refine ⟨.inr ⟨by decide, by decide⟩, ?_⟩
              refine ⟨.inr ⟨by decide, by decide⟩, a, _, lstOf_ref ea2, 2, rfl, ?_⟩
              exact hR _ _ ⟨xs, _, _, _, _, rfl, mset_same, by rw [mset_ne ga]; exact eg2, hxl2, O2.seta⟩
          · rw [if_neg (by simpa using hx)]
            by_cases hb : (1000000000000000 : Int) ≤ x
            · rw [if_pos (by simpa using hb)]
              exact ⟨a, _, lstOf_ref ea1, 1, rfl, hR _ _ ⟨xs, _, _, _, _, rfl, mset_same, by rw [mset_ne ga]; exact eg1, hxl2, O1.seta⟩⟩
            · rw [if_neg (by simpa using hb)]
              refine ⟨_, seqOf_ref ea1, _, atI_2, ?_⟩
              walk_at "pd"
              refine ⟨.inr ⟨by decide, by decide⟩, ?_⟩
              refine ⟨.inr ⟨by decide, by decide⟩, a, _, lstOf_ref ea1, 2, rfl, ?_⟩
              exact hR _ _ ⟨xs, _, _, _, _, rfl, mset_same, by rw [mset_ne ga]; exact eg1, hxl2, O1.seta⟩
      · rw [if_neg h2]
        exact hR _ _ ⟨xs, c, s, k, _, rfl, ea, eg, hxl, .refl _ _ _⟩
    · rw [if_neg (by simpa using h1)]
      exact hR _ _ ⟨xs, c, s, k, _, rfl, ea, eg, hxl, .refl _ _ _⟩
  rintro s' m1 ⟨xs, c, s, k, c2, rfl, ea, eg, hxl, O⟩
  walk_at "pd"
  refine ⟨_, seqOf_ref ea, _, atI_1, ?_⟩
  walk_at "pd"
  by_cases h1 : 0 < c
  · rw [if_pos h1]
    refine ⟨_, seqOf_ref ea, _, atI_1, ?_⟩
    walk_at "pd"
    refine ⟨hn, _, seqOf_ref ea, _, atI_1, ?_⟩
    walk_at "pd"
    refine ⟨cdw hn hn2, a, _, lstOf_ref ea, 1, rfl, ?_⟩
    exact sub_refl_fin (h _ _ (Int.emod_nonneg _ (by omega)) (Int.emod_lt_of_pos _ hn) O.seta ⟨xs, _, _, _, mset_same, by rw [mset_ne ga]; exact eg, ga, hxl⟩)
  · rw [if_neg h1]
    refine ⟨_, seqOf_ref ea, _, atI_3, ?_⟩
    walk_at "pd"
    refine ⟨a, _, lstOf_ref ea, 3, rfl, ?_⟩
    have ea2 : mset m1 a (.lst ([D.ref g, .int c, .int s, .int k].set 3 (.int (k + 1)))) a = some (.lst [.ref g, .int c, .int s, .int (k + 1)]) := mset_same
    have eg2 : mset m1 a (.lst ([D.ref g, .int c, .int s, .int k].set 3 (.int (k + 1)))) g = some (.lst (xs.map .int)) := by rw [mset_ne ga]; exact eg
    have O2 : OfP a g m (mset m1 a (.lst ([D.ref g, .int c, .int s, .int k].set 3 (.int (k + 1))))) := O.seta
    generalize mset m1 a (.lst ([D.ref g, .int c, .int s, .int k].set 3 (.int (k + 1)))) = m2 at *
    refine ⟨_, seqOf_ref ea2, _, atI_2, ?_⟩
    walk_at "pd"
    refine ⟨.inr ⟨by decide, by decide⟩, _, seqOf_ref ea2, _, atI_3, ?_⟩
    walk_at "pd"
    refine ⟨.inr ⟨by decide, by decide⟩, a, _, lstOf_ref ea2, 2, rfl, _, seqOf_ref mset_same, _, atI_2, ?_⟩
    walk_at "pd"
    refine ⟨cdw (by decide) (by decide), hn, ?_⟩
    exact sub_refl_fin (h _ _ (Int.emod_nonneg _ (by omega)) (Int.emod_lt_of_pos _ hn) O2.seta ⟨xs, _, _, _, mset_same, by rw [mset_ne ga]; exact eg2, ga, hxl⟩)
end
/-- what _law_same compares -/
def samD : Nat → D → Bool
  | _, .non => true
  | _, .bl _ => true
  | _, .int _ => true
  | _, .str _ => true
  | n + 1, .tup ds => decide (ds.length ≤ 1000) && ds.all (samD n)
  | _, _ => false
section
variable {P : Program} {w : World} {K : PySem.W.Frag} {mg : Str → Option Value} {base : Heap}
def sp__law_same (n : Nat) : SpD := fun ds m Q => ∃ x, ds = [x, x] ∧ samD n x = true ∧ Q (.bl true) m
theorem same_turn {k n : Nat} {sq : SpD} (hk : 1 ≤ k) (T : Txt K mg) (hs : ∀ x m Q, (∃ j, n = j + 1 ∧ samD j x = true) → Q (.bl true) m → sq [x, x] m Q)
    (G__law_same : FnOk P w K mg base CX0 k T.f__law_same T.fd__law_same ["_law_told_here", "_law_due_here"] (spL K 2 sq)) :
    FnOk P w K mg base CX0 (k + 1) T.f__law_same T.fd__law_same ["_law_told_here", "_law_due_here"] (spL K 2 (sp__law_same n)) := by
  refine fn_ok T.F__law_same sc__law_same (fun cdv A outer s H E hr =>
(gss_cons (gs_if (gt_cmpR op_isN lr_isN (gv 1) ge_non (nomark _))
 (gss_one (gs_ret (ge_cmpR op_isN lr_isN (gv 0) ge_non (nomark _))))
 gss_nil)
 (gss_cons (gs_if (gt_val (ge_isi (T := "bool") rfl (by rfl) T.z_isinstance (gv 1) (by rfl) T.z_bool (by decide +kernel)))
 (gss_one (gs_ret (ge_and (ge_isi (T := "bool") rfl (by rfl) T.z_isinstance (gv 0) (by rfl) T.z_bool (by decide +kernel)) (ge_one (ge_cmpR (op_eqS hr.units) lr_eq (gv 0) (gv 1) (nomark _))))))
 gss_nil)
 (gss_cons (gs_if (gt_val (ge_isi (T := "int") rfl (by rfl) T.z_isinstance (gv 1) (by rfl) T.z_int (by decide +kernel)))
 (gss_one (gs_ret (ge_and (ge_isi (T := "int") rfl (by rfl) T.z_isinstance (gv 0) (by rfl) T.z_int (by decide +kernel)) (ge_and (ge_not (ge_isi (T := "bool") rfl (by rfl) T.z_isinstance (gv 0) (by rfl) T.z_bool (by decide +kernel))) (ge_one (ge_cmpR (op_eqS hr.units) lr_eq (gv 0) (gv 1) (nomark _)))))))
 gss_nil)
 (gss_cons (gs_if (gt_val (ge_isi (T := "str") rfl (by rfl) T.z_isinstance (gv 1) (by rfl) T.z_str (by decide +kernel)))
 (gss_one (gs_ret (ge_and (ge_isi (T := "str") rfl (by rfl) T.z_isinstance (gv 0) (by rfl) T.z_str (by decide +kernel)) (ge_one (ge_cmpR (op_eqS hr.units) lr_eq (gv 0) (gv 1) (nomark _))))))
 gss_nil)
 (gss_cons (gs_if (gw_or (gt_not (gt_val (ge_isi (T := "tuple") rfl (by rfl) T.z_isinstance (gv 1) (by rfl) T.z_tuple (by decide +kernel)))) (gw_or (gt_not (gt_val (ge_isi (T := "tuple") rfl (by rfl) T.z_isinstance (gv 0) (by rfl) T.z_tuple (by decide +kernel)))) (gw_or1 (gt_cmpR (op_neS hr.units) lr_ne (ge_callB call_lenU lc_len (by rfl) T.z_len PySem.boot_len (ga_cons (gv 0) ga_nil)) (ge_callB call_lenU lc_len (by rfl) T.z_len PySem.boot_len (ga_cons (gv 1) ga_nil)) (nomark _))))).gt
 (gss_one (gs_ret ge_bl))
 gss_nil)
 (gss_cons (gs_for PassesOwn.never rfl (gi_rng1 (by rfl) T.z_range (ga_cons (ge_callB call_lenU lc_len (by rfl) T.z_len PySem.boot_len (ga_cons (gv 1) ga_nil)) ga_nil)) (gg_name (i := 2) sc__law_same.nd rfl (.inl rfl))
 (gss_one (gs_if (gt_not (gt_val (ge_call G__law_same (hr.mono (by omega)) (by rfl) T.g__law_same T.F__law_same.kp T.b__law_same (ga_cons (ge_ix (gv 0) (gv 2)) (ga_cons (ge_ix (gv 1) (gv 2)) ga_nil)))))
 (gss_one (gs_ret ge_bl))
 gss_nil)))
 (gss_one (gs_ret ge_bl))))))))) (fun ds m Q h => ?_)
  obtain ⟨x, rfl, hx, h⟩ := h
  rw [show startD N__law_same [x, x] = [some (x), some (x), none] from rfl]
  cases x with
  | non => walk_at "pd"; exact sub_refl_fin h
  | bl b => walk_at "pd"; exact sub_refl_fin h
  | int i => walk_at "pd"; exact sub_refl_fin h
  | str z => walk_at "pd"; exact sub_refl_fin h
  | tup xs =>
    cases n with
    | zero => cases hx
    | succ j =>
      unfold samD at hx
      rw [Bool.and_eq_true, decide_eq_true_eq, List.all_eq_true] at hx
      walk_at "pd"
      refine ⟨by omega, by omega, ?_⟩
      refine loop_range (fun i s' m' => (∃ c, s' = [some (.tup xs), some (.tup xs), c]) ∧ m' = m) ?_ ?_ ⟨⟨_, rfl⟩, rfl⟩
      · rintro i s' m' R hi hR ⟨⟨c, rfl⟩, rfl⟩
        have hi2 : i < xs.length := by simpa using hi
        refine ⟨trivial, ?_⟩
        walk_at "pd"
        refine ⟨_, atI_getD hi2, _, atI_getD hi2, hs _ _ _ ⟨j, rfl, hx.2 _ (List.getElem_mem hi2)⟩ ?_⟩
        walk_at "pd"
        exact hR _ _ ⟨⟨_, rfl⟩, rfl⟩
      · rintro s' m' ⟨⟨c, rfl⟩, rfl⟩
        refine ⟨trivial, ?_⟩
        walk_at "pd"
        exact sub_refl_fin h
  | _ => unfold samD at hx; cases hx
theorem same_all (T : Txt K mg) : ∀ n, FnOk P w K mg base CX0 (n + 2) T.f__law_same T.fd__law_same ["_law_told_here", "_law_due_here"] (spL K 2 (sp__law_same n))
  | 0 => same_turn (k := 1) (sq := fun _ _ _ => False) (Nat.le_refl _) T (fun x m Q ⟨_, h, _⟩ _ => by cases h) FnOk_falso
  | n + 1 => same_turn (k := n + 2) (by omega) T (fun x m Q ⟨j, h, hx⟩ hq => ⟨x, rfl, by cases h; exact hx, hq⟩) (same_all T n)
end
theorem rg_eq (n : Nat) : rangeD 0 n = (List.range n).map fun (k : Nat) => D.int (k : Int) := by
  unfold rangeD
  congr 1
  funext k
  congr 1
  omega
theorem fold_rep (c : Nat) : ∀ (k : Nat) (acc : List Nat), (List.replicate k (#[c] : Array Nat)).foldl (· ++ ·) acc.toArray = (acc ++ List.replicate k c).toArray
  | 0, acc => by simp
  | k + 1, acc => by
    rw [List.replicate_succ, List.foldl_cons, show acc.toArray ++ #[c] = (acc ++ [c]).toArray by simp, fold_rep c k (acc ++ [c]), List.append_assoc, List.replicate_succ]; rfl
theorem rep_tx (c k : Nat) : repS (tx [c]) k = tx (List.replicate k c) := by
  have := fold_rep c k []
  unfold repS tx
  rw [List.nil_append] at this
  rw [← this]
theorem nd_rg {f : Nat → Str} {n : Nat} (h : ∀ i j, i < n → j < n → f i = f j → i = j) : ((List.range n).map f).Nodup := by
  unfold List.Nodup
  rw [List.pairwise_map]
  exact (List.nodup_range (n := n)).imp_of_mem fun ha hb hne e => hne (h _ _ (List.mem_range.mp ha) (List.mem_range.mp hb) e)
def nmA (c : Nat) : List Str := ((List.range 14).map fun k => tx (List.replicate (k + 1) c)) ++ (List.range 6).map fun k => tx (118 :: List.replicate (9 - k) c)
theorem nmA_nd {c : Nat} (hc : c ≠ 118) : (nmA c).Nodup := by
  refine List.nodup_append.mpr ⟨nd_rg fun i j _ _ e => ?_, nd_rg fun i j hi hj e => ?_, fun x hx y hy e => ?_⟩
  · have := congrArg List.length (tx_inj e)
    simpa using this
  · have := congrArg List.length (tx_inj e)
    simp at this
    omega
  · obtain ⟨i, _, rfl⟩ := List.mem_map.mp hx
    obtain ⟨j, _, rfl⟩ := List.mem_map.mp hy
    have := tx_inj e
    rw [List.replicate_succ] at this
    injection this with this _
    exact hc this
def nmL : List Nat := [116, 113, 119, 110, 104, 99, 106, 54, 97, 114, 102, 56, 108, 109, 117, 51, 120, 101, 57, 100]
def nmB (u v : List Nat) : List Str := nmL.map fun c => tx u ++ tx [c] ++ tx v
theorem nmB_nd (u v : List Nat) : (nmB u v).Nodup := by
  unfold nmB List.Nodup
  rw [List.pairwise_map]
  refine (show nmL.Nodup by decide).imp fun hne e => hne ?_
  simp only [tx_app] at e
  have e1 := tx_inj e
  rw [List.append_assoc, List.append_assoc] at e1
  injection List.append_cancel_left e1
section
variable {P : Program} {w : World} {K : PySem.W.Frag} {mg : Str → Option Value} {base : Heap}
def sp__law_names : SpD := fun ds m Q => ∃ (a g : Addr), ds = [.ref a] ∧ Tp m a g ∧ ∀ (ns : List Str) (p : Addr) m', ns.length = 20 → ns.Nodup → m p = none → m' p = some (.lst (ns.map .str)) → OfP a g m m' → Tp m' a g → Q (.ref p) m'
theorem ok__law_names  (T : Txt K mg) (G__law_pick : FnOk P w K mg base CX0 (1) T.f__law_pick T.fd__law_pick ["_law_pool", "_law_many"] (spL K 2 sp__law_pick)) : FnOk P w K mg base CX0 (2) T.f__law_names T.fd__law_names ["_law_pool"] (spL K 1 sp__law_names) := by
  refine fn_ok T.F__law_names sc__law_names (fun cdv A outer s H E hr =>
(gss_cons (gs_set (i := 1) sc__law_names.nd rfl (.inr rfl) (ge_ix ge_str (ge_call G__law_pick (hr.mono (by omega)) (by rfl) T.g__law_pick T.F__law_pick.kp T.b__law_pick (ga_cons (gv 0) (ga_cons ge_int ga_nil)))))
 (gss_cons (gs_if (gt_cmpR (op_eqS hr.units) lr_eq (ge_call G__law_pick (hr.mono (by omega)) (by rfl) T.g__law_pick T.F__law_pick.kp T.b__law_pick (ga_cons (gv 0) (ga_cons ge_int ga_nil))) ge_int (nomark _))
 (gss_one (gs_ret (ge_op op_addL lr_addL (ge_lc (own := [("_law_k", 4)]) rfl sc__law_names.nd (gi_rng1 (by rfl) T.z_range (ga_cons ge_int ga_nil)) (blkOk_by (N := N__law_names) (sc := defScope s__law_names) (by decide +kernel)) (fun _ _ _ _ _ => (gg_name (i := 4) sc__law_names.nd rfl (.inl rfl))) (fun _ _ _ _ _ => gts_nil) (fun _ _ _ _ _ => (ge_op op_mulL lr_mulL (gv 1) (ge_op op_addL lr_addL (gv 4) ge_int))) (by decide)) (ge_lc (own := [("_law_k", 4)]) rfl sc__law_names.nd (gi_rng1 (by rfl) T.z_range (ga_cons ge_int ga_nil)) (blkOk_by (N := N__law_names) (sc := defScope s__law_names) (by decide +kernel)) (fun _ _ _ _ _ => (gg_name (i := 4) sc__law_names.nd rfl (.inl rfl))) (fun _ _ _ _ _ => gts_nil) (fun _ _ _ _ _ => (ge_op op_addL lr_addL ge_str (ge_op op_mulL lr_mulL (gv 1) (ge_op op_sub lr_sub ge_int (gv 4))))) (by decide)))))
 gss_nil)
 (gss_cons (gs_set (i := 2) sc__law_names.nd rfl (.inr rfl) (ge_op op_mulL lr_mulL (gv 1) (ge_op op_addL lr_addL ge_int (ge_call G__law_pick (hr.mono (by omega)) (by rfl) T.g__law_pick T.F__law_pick.kp T.b__law_pick (ga_cons (gv 0) (ga_cons ge_int ga_nil))))))
 (gss_cons (gs_set (i := 3) sc__law_names.nd rfl (.inr rfl) (ge_op op_mulL lr_mulL (ge_ix ge_str (ge_call G__law_pick (hr.mono (by omega)) (by rfl) T.g__law_pick T.F__law_pick.kp T.b__law_pick (ga_cons (gv 0) (ga_cons ge_int ga_nil)))) (ge_call G__law_pick (hr.mono (by omega)) (by rfl) T.g__law_pick T.F__law_pick.kp T.b__law_pick (ga_cons (gv 0) (ga_cons ge_int ga_nil)))))
 (gss_one (gs_ret (ge_lc (own := [("_law_k", 4)]) rfl sc__law_names.nd (gi_rng1 (by rfl) T.z_range (ga_cons ge_int ga_nil)) (blkOk_by (N := N__law_names) (sc := defScope s__law_names) (by decide +kernel)) (fun _ _ _ _ _ => (gg_name (i := 4) sc__law_names.nd rfl (.inl rfl))) (fun _ _ _ _ _ => gts_nil) (fun _ _ _ _ _ => (ge_op op_addL lr_addL (ge_op op_addL lr_addL (gv 2) (ge_ix ge_str (gv 4))) (gv 3))) (by decide))))))))) (fun ds m Q h => ?_)
  obtain ⟨a, g, rfl, hT, h⟩ := h
  rw [show startD N__law_names [.ref a] = [some (.ref a), none, none, none, none] from rfl]
  walk_at "pd"
  refine ⟨_, g, _, rfl, by omega, by omega, hT, fun r1 m1 a1 b1 O1 T1 => ?_⟩
  rw [show Str.ofString "gzby" = tx [103, 122, 98, 121] from rfl]
  obtain ⟨i1, rfl⟩ := Int.eq_ofNat_of_zero_le a1
  walk_at "pd"
  have hi1 : i1 < [103, 122, 98, 121].length := by show i1 < 4; omega
  refine ⟨_, atI_getD hi1, ?_⟩
  have hc : [103, 122, 98, 121][i1] ≠ 118 := fun e => absurd (e ▸ List.getElem_mem hi1) (by decide)
  generalize [103, 122, 98, 121][i1] = c at hc
  walk_at "w"
  refine ⟨_, g, _, rfl, by omega, by omega, T1, fun r2 m2 a2 b2 O2 T2 => ?_⟩
  walk_at "pd"
  by_cases h0 : r2 = 0
  · rw [if_pos (by simpa using h0)]
    intro p1 hp1
    rw [show Int.toNat 14 = 14 from rfl, rg_eq]
    refine comp_all (st := fun _ => True) (us := List.range 14) (fun (k : Nat) => .int (k : Int)) (fun k => .str (tx (List.replicate (k + 1) c))) (fun _ => trivial) (by decide) (fun k hk acc R1 k1 => ?_) ?_
    · have := List.mem_range.mp hk
      walk_at "pd"
      rw [rep_tx, show ((k : Int) + 1).toNat = k + 1 by omega]
      exact ⟨by omega, by omega, k1⟩
    have hp1m : m p1 = none := O1.al _ (O2.al _ hp1)
    intro p2 hp2
    obtain ⟨hp2m, hp21⟩ := mset_none hp2
    refine comp_all (st := fun _ => True) (us := List.range 6) (fun (k : Nat) => .int (k : Int)) (fun k => .str (tx (118 :: List.replicate (9 - k) c))) (fun _ => trivial) (by decide) (fun k hk acc R1 k1 => ?_) ?_
    · have := List.mem_range.mp hk
      walk_at "pd"
      refine ⟨by omega, by omega, ?_⟩
      rw [rep_tx, show ((9 : Int) - (k : Int)).toNat = 9 - k by omega, show Str.ofString "v" = tx [118] from rfl, tx_app, tx_len, tx_len, List.length_replicate]
      exact ⟨Nat.le_trans (show 1 + (9 - k) ≤ 10 by omega) (by decide), k1⟩
    walk_at "pd"
    have e1 : mset (mset m2 p1 (.lst ((List.range 14).map fun k => D.str (tx (List.replicate (k + 1) c))))) p2 (.lst ((List.range 6).map fun k => D.str (tx (118 :: List.replicate (9 - k) c)))) p1 = some (.lst ((List.range 14).map fun k => D.str (tx (List.replicate (k + 1) c)))) := by rw [mset_ne (Ne.symm hp21)]; exact mset_same
    refine ⟨_, _, lsq_ref e1, lsq_ref mset_same, by rw [List.length_map, List.length_map, List.length_range, List.length_range]; decide, fun p hp => ?_⟩
    obtain ⟨q1, q2⟩ := mset_none hp
    obtain ⟨q3, q4⟩ := mset_none q1
    have hpm : m p = none := O1.al _ (O2.al _ q3)
    rw [show ((List.range 14).map fun k => D.str (tx (List.replicate (k + 1) c))) ++ ((List.range 6).map fun k => D.str (tx (118 :: List.replicate (9 - k) c))) = (nmA c).map D.str from by unfold nmA; rw [List.map_append, List.map_map, List.map_map]; rfl]
    refine sub_refl_fin (h (nmA c) p _ (by unfold nmA; rw [List.length_append, List.length_map, List.length_map, List.length_range, List.length_range]) (nmA_nd hc) hpm mset_same ((((O1.trans O2).new hp1m).new (O1.al _ (O2.al _ hp2m))).new hpm) (((T2.new hp1).new hp2).new hp))
  · rw [if_neg (by simpa using h0)]
    refine ⟨_, g, _, rfl, by omega, by omega, T2, fun r3 m3 a3 b3 O3 T3 => ?_⟩
    walk_at "pd"
    refine ⟨by omega, by omega, ?_⟩
    refine ⟨_, g, _, rfl, by omega, by omega, T3, fun r4 m4 a4 b4 O4 T4 => ?_⟩
    obtain ⟨i4, rfl⟩ := Int.eq_ofNat_of_zero_le a4
    rw [show Str.ofString "p0k" = tx [112, 48, 107] from rfl]
    walk_at "pd"
    have hi4 : i4 < [112, 48, 107].length := by show i4 < 3; omega
    refine ⟨_, atI_getD hi4, ?_⟩
    generalize [112, 48, 107][i4] = e
    walk_at "w"
    refine ⟨_, g, _, rfl, by omega, by omega, T4, fun r5 m5 a5 b5 O5 T5 => ?_⟩
    walk_at "pd"
    refine ⟨by omega, by omega, ?_⟩
    intro p hp
    rw [rg_eq]
    rw [rep_tx, rep_tx]
    have l1 : (List.replicate (1 + r3).toNat c).length ≤ 4 := by rw [List.length_replicate]; omega
    have l2 : (List.replicate r5.toNat e).length ≤ 5 := by rw [List.length_replicate]; omega
    generalize List.replicate (1 + r3).toNat c = u at l1
    generalize List.replicate r5.toNat e = v at l2
    rw [show Str.ofString "tqwnhcj6arf8lmu3xe9d" = tx nmL from rfl]
    refine comp_all (st := fun _ => True) (us := List.range 20) (fun (k : Nat) => .int (k : Int)) (fun k => .str (tx u ++ tx [nmL.getD k 0] ++ tx v)) (fun _ => trivial) (by decide) (fun k hk acc R1 k1 => ?_) ?_
    · have hk := List.mem_range.mp hk
      have hk2 : k < nmL.length := hk
      walk_at "pd"
      refine ⟨_, atI_getD hk2, ?_⟩
      walk_at "w"
      rw [List.getD_eq_getElem?_getD, List.getElem?_eq_getElem hk2] at k1
      simp only [tx_app, tx_len, List.length_append, List.length_singleton] at k1 ⊢
      exact ⟨Nat.le_trans (by omega : _ ≤ 20) (by decide), Nat.le_trans (by omega : _ ≤ 20) (by decide), k1⟩
    have hpm : m p = none := O1.al _ (O2.al _ (O3.al _ (O4.al _ (O5.al _ hp))))
    have ee : ((List.range 20).map fun k => D.str (tx u ++ tx [nmL.getD k 0] ++ tx v)) = (nmB u v).map D.str := by
      unfold nmB
      rw [List.map_map]
      rfl
    rw [ee]
    exact sub_refl_fin (h (nmB u v) p _ rfl (nmB_nd _ _) hpm mset_same (((((O1.trans O2).trans O3).trans O4).trans O5).new hpm) (T5.new hp))
end
def jD (j : Str × Str) : D := .tup [.str j.1, .str j.2]
/-- nothing but the pool and one list has changed -/
structure OfL (a g l : Addr) (m m' : Mu) : Prop where
  kp : ∀ x o, x ≠ a → x ≠ g → x ≠ l → m x = some o → m' x = some o
  al : ∀ x, m' x = none → m x = none
theorem OfL.refl (a g l : Addr) (m : Mu) : OfL a g l m m := ⟨fun _ _ _ _ _ e => e, fun _ e => e⟩
theorem OfL.trans {a g l : Addr} {m m1 m2 : Mu} (h : OfL a g l m m1) (k : OfL a g l m1 m2) : OfL a g l m m2 := ⟨fun x o n1 n2 n3 e => k.kp x o n1 n2 n3 (h.kp x o n1 n2 n3 e), fun x e => h.al x (k.al x e)⟩
theorem OfL.ofP {a g l : Addr} {m m1 m2 : Mu} (h : OfL a g l m m1) (k : OfP a g m1 m2) : OfL a g l m m2 := ⟨fun x o n1 n2 n3 e => k.kp x o n1 n2 (h.kp x o n1 n2 n3 e), fun x e => h.al x (k.al x e)⟩
theorem OfL.new {a g l p : Addr} {m m' : Mu} {o : MO} (h : OfL a g l m m') (hp : m p = none) : OfL a g l m (mset m' p o) :=
  ⟨fun x u n1 n2 n3 e => by
    have : x ≠ p := fun z => by rw [z, hp] at e; cases e
    rw [mset_ne this]; exact h.kp x u n1 n2 n3 e, fun x e => h.al x (mset_none e).1⟩
theorem OfL.set {a g l : Addr} {m m' : Mu} {o : MO} (h : OfL a g l m m') : OfL a g l m (mset m' l o) :=
  ⟨fun x u n1 n2 n3 e => by rw [mset_ne n3]; exact h.kp x u n1 n2 n3 e, fun x e => h.al x (mset_none e).1⟩
theorem jD_inj {a b : Str × Str} (h : jD a = jD b) : a = b := by
  unfold jD at h
  injection h with h
  injection h with h1 h2
  injection h1 with h1
  injection h2 with h2 _
  injection h2 with h2
  exact Prod.ext h1 h2
theorem jD_pln (ls : List (Str × Str)) : plns (ls.map jD) = true := by
  rw [plns_iff]
  intro d hd
  obtain ⟨a, _, rfl⟩ := List.mem_map.mp hd
  rfl
theorem jfirst {x : Str × Str} : ∀ {ls : List (Str × Str)}, x ∈ ls → ∃ j : Nat, ls[j]? = some x ∧ ∀ i, i < j → ls[i]? ≠ some x
  | y :: ls, h => by
    by_cases e : y = x
    · exact ⟨0, by rw [e]; rfl, fun i hi => absurd hi (Nat.not_lt_zero _)⟩
    · rcases List.mem_cons.mp h with h | h
      · exact absurd h.symm e
      · obtain ⟨j, h1, h2⟩ := jfirst h
        refine ⟨j + 1, h1, fun i hi => ?_⟩
        cases i with
        | zero => exact fun z => e (Option.some.inj z)
        | succ i => exact h2 i (by omega)
theorem map_erase {α β : Type} (f : α → β) : ∀ (l : List α) (j : Nat), (l.map f).eraseIdx j = (l.eraseIdx j).map f
  | [], _ => rfl
  | _ :: _, 0 => rfl
  | x :: l, j + 1 => by
    show f x :: (l.map f).eraseIdx j = f x :: (l.eraseIdx j).map f
    rw [map_erase f l j]
section
variable {P : Program} {w : World} {K : PySem.W.Frag} {mg : Str → Option Value} {base : Heap}
def JkO (mk : Str) (j : Jd) : Prop := ∃ z : Srt, j.sort = z.s ∧ j.body = .tup [.tup [.str mk, z.b]]
def sp__law_judges : SpD := fun ds m Q => ∃ (a g : Addr) (ns : List Str) (mk : Str), ds = [.ref a, .rol (ns.map .str), .str mk] ∧ ns.length = 20 ∧ Tp m a g ∧ ∀ (js : List Jd) (p : Addr) m', js.length ≤ 8 → js.map (·.nm) = ns.take js.length → (∀ j ∈ js, JkO mk j) → m p = none → m' p = some (.lst (js.map Jd.d)) → OfP a g m m' → Tp m' a g → Q (.ref p) m'
theorem ok__law_judges  (T : Txt K mg) (G__law_pick : FnOk P w K mg base CX0 (1) T.f__law_pick T.fd__law_pick ["_law_pool", "_law_many"] (spL K 2 sp__law_pick)) : FnOk P w K mg base CX0 (2) T.f__law_judges T.fd__law_judges ["_law_pool", "_law_names_here", "_law_maker"] (spL K 3 sp__law_judges) := by
  refine fn_ok T.F__law_judges sc__law_judges (fun cdv A outer s H E hr =>
(gss_cons (gs_set (i := 3) sc__law_judges.nd rfl (.inl rfl) (ge_lst (ga_cons (ge_tup (ga_cons ge_str (ga_cons (ge_tup (ga_cons (ge_tup (ga_cons (ge_tup (ga_cons ge_int (ga_cons (ge_tup (ga_cons ge_str ga_nil)) ga_nil))) ga_nil)) ga_nil)) ga_nil))) (ga_cons (ge_tup (ga_cons (ge_tup (ga_cons ge_int (ga_cons (ge_tup ga_nil) (ga_cons (ge_tup ga_nil) ga_nil)))) ga_nil)) (ga_cons (ge_tup ga_nil) ga_nil)))))
 (gss_cons (gs_set (i := 4) sc__law_judges.nd rfl (.inl rfl) (ge_lst ga_nil))
 (gss_cons (gs_for PassesOwn.never rfl (gi_rng1 (by rfl) T.z_range (ga_cons (ge_ix (ge_lst (ga_cons ge_int (ga_cons ge_int (ga_cons ge_int (ga_cons ge_int (ga_cons ge_int (ga_cons ge_int (ga_cons ge_int (ga_cons ge_int ga_nil))))))))) (ge_call G__law_pick (hr.mono (by omega)) (by rfl) T.g__law_pick T.F__law_pick.kp T.b__law_pick (ga_cons (gv 0) (ga_cons ge_int ga_nil)))) ga_nil)) (gg_name (i := 5) sc__law_judges.nd rfl (.inl rfl))
 (gss_cons (gs_set (i := 6) sc__law_judges.nd rfl (.inl rfl) (ge_call G__law_pick (hr.mono (by omega)) (by rfl) T.g__law_pick T.F__law_pick.kp T.b__law_pick (ga_cons (gv 0) (ga_cons ge_int ga_nil))))
 (gss_one (gs_expr (ge_bm PySem.F.slot_list_append PySem.F.type_list_append mt_append lm_append (gv 4) (ga_cons (ge_tup (ga_cons (ge_ix (gv 1) (gv 5)) (ga_cons (ge_ix (ge_lst (ga_cons ge_str (ga_cons ge_str (ga_cons ge_str ga_nil)))) (gv 6)) (ga_cons (ge_tup (ga_cons (ge_tup (ga_cons (gv 2) (ga_cons (ge_ix (gv 3) (gv 6)) ga_nil))) ga_nil)) ga_nil)))) ga_nil))))))
 (gss_one (gs_ret (gv 4))))))) (fun ds m Q h => ?_)
  obtain ⟨a, g, ns, mk, rfl, hn, hT, h⟩ := h
  rw [show startD N__law_judges [.ref a, .rol (ns.map .str), .str mk] = [some (.ref a), some (.rol (ns.map .str)), some (.str mk), none, none, none, none] from rfl]
  walk_at "pd"
  intro p hp
  rw [show [D.tup [.str "one", .tup [.tup [.tup [.int 1, .tup [.str "one"]]]]], .tup [.tup [.int 1, .tup [], .tup []]], .tup []] = [Srt.b .num, Srt.b .prod, Srt.b .txt] from rfl]
  have e0 : mset m p (.lst [Srt.b .num, Srt.b .prod, Srt.b .txt]) p = some (.lst [Srt.b .num, Srt.b .prod, Srt.b .txt]) := mset_same
  have O0 : OfP a g m (mset m p (.lst [Srt.b .num, Srt.b .prod, Srt.b .txt])) := (OfP.refl a g m).new hp
  have T0 : Tp (mset m p (.lst [Srt.b .num, Srt.b .prod, Srt.b .txt])) a g := hT.new hp
  obtain ⟨pa, pg⟩ := hT.ne hp
  generalize mset m p (.lst [Srt.b .num, Srt.b .prod, Srt.b .txt]) = m1 at *
  intro q hq u hu
  obtain ⟨huq, uq⟩ := mset_none hu
  obtain ⟨qa, qg⟩ := T0.ne hq
  have pq : p ≠ q := fun z => by rw [← z, e0] at hq; cases hq
  have hqm := O0.al _ hq
  have hum := O0.al _ huq
  refine ⟨_, g, _, rfl, by omega, by omega, (T0.new hq).new hu, fun r m2 a2 b2 O2 T2 => ?_⟩
  obtain ⟨ua, ug⟩ := T0.ne huq
  have eu := O2.kp _ _ ua ug mset_same
  have eq1 := O2.kp q (.lst []) qa qg (by rw [mset_ne (Ne.symm uq)]; exact mset_same)
  have ep := O2.kp p _ pa pg (by rw [mset_ne (fun z => by rw [← z, e0] at huq; cases huq), mset_ne pq]; exact e0)
  obtain ⟨i, rfl⟩ := Int.eq_ofNat_of_zero_le a2
  have hi : i < [D.int 6, D.int 4, D.int 8, D.int 2, D.int 5, D.int 3, D.int 1, D.int 0].length := by show i < 8; omega
  refine dIx_seq (seqOf_ref eu) (atI_getD hi) ?_
  have hx : ∃ x : Nat, [D.int 6, D.int 4, D.int 8, D.int 2, D.int 5, D.int 3, D.int 1, D.int 0][i] = .int (x : Int) ∧ x ≤ 8 := by
    rcases (by omega : i = 0 ∨ i = 1 ∨ i = 2 ∨ i = 3 ∨ i = 4 ∨ i = 5 ∨ i = 6 ∨ i = 7) with rfl | rfl | rfl | rfl | rfl | rfl | rfl | rfl
    · exact ⟨6, rfl, by decide⟩
    · exact ⟨4, rfl, by decide⟩
    · exact ⟨8, rfl, by decide⟩
    · exact ⟨2, rfl, by decide⟩
    · exact ⟨5, rfl, by decide⟩
    · exact ⟨3, rfl, by decide⟩
    · exact ⟨1, rfl, by decide⟩
    · exact ⟨0, rfl, by decide⟩
  obtain ⟨x, hx, x8⟩ := hx
  rw [hx]
  walk_at "pd"
  refine ⟨by omega, by omega, ?_⟩
  rw [Int.toNat_natCast]
  refine loop_range (fun i s' m' => ∃ (js : List Jd) (c5 c6 : Option D), js.length = i ∧ js.map (·.nm) = ns.take i ∧ (∀ j ∈ js, JkO mk j) ∧ s' = [some (.ref a), some (.rol (ns.map .str)), some (.str mk), some (.ref p), some (.ref q), c5, c6] ∧ m' q = some (.lst (js.map Jd.d)) ∧ m' p = some (.lst [Srt.b .num, Srt.b .prod, Srt.b .txt]) ∧ OfP a g m m' ∧ Tp m' a g) ?_ ?_ ⟨[], _, _, rfl, rfl, fun _ h => (List.not_mem_nil h).elim, rfl, eq1, ep, ((O0.new hqm).new hum).trans O2, T2⟩
  · rintro i s' m3 R hi2 hR ⟨js, c5, c6, jl, jn, jo, rfl, eq3, ep3, O3, T3⟩
    refine ⟨trivial, ?_⟩
    walk_at "pd"
    refine ⟨_, g, _, rfl, by omega, by omega, T3, fun r m4 a4 b4 O4 T4 => ?_⟩
    have eq4 := O4.kp _ _ qa qg eq3
    have ep4 := O4.kp _ _ pa pg ep3
    have hin : i < ns.length := by omega
    walk_at "pd"
    refine ⟨⟨_, _, lstOf_ref eq4⟩, _, atI_map (f := D.str) (List.getElem?_eq_getElem hin), fun v hv => ?_⟩
    have hvm : m v = none := (O3.trans O4).al _ hv
    have qv : q ≠ v := fun z => by rw [← z, eq4] at hv; cases hv
    have pv : p ≠ v := fun z => by rw [← z, ep4] at hv; cases hv
    obtain ⟨z, hz1, hz2⟩ : ∃ z : Srt, atI [D.str "number", D.str "product", D.str "text"] r = some (.str z.s) ∧ atI [Srt.b .num, Srt.b .prod, Srt.b .txt] r = some z.b := by
      rcases (by omega : r = 0 ∨ r = 1 ∨ r = 2) with rfl | rfl | rfl
      · exact ⟨.num, rfl, rfl⟩
      · exact ⟨.prod, rfl, rfl⟩
      · exact ⟨.txt, rfl, rfl⟩
    have eq5 : mset m4 v (.lst [.str "number", .str "product", .str "text"]) q = some (.lst (js.map Jd.d)) := by rw [mset_ne qv]; exact eq4
    refine ⟨_, seqOf_ref mset_same, _, hz1, _, seqOf_ref (by rw [mset_ne pv]; exact ep4), _, hz2, q, _, lstOf_ref eq5, ?_, ?_⟩
    · rw [List.length_map]; exact Nat.lt_of_lt_of_le (by omega : _ < 9) (by decide)
    refine hR _ _ ⟨js ++ [⟨ns[i], z.s, .tup [.tup [.str mk, z.b]]⟩], _, _, by rw [List.length_append]; simp [jl], ?_, fun j hj => ?_, rfl, ?_, ?_, ((O3.trans O4).new hvm).new hqm, (T4.new hv).setp qa qg⟩
    · rw [List.map_append, jn, List.map_singleton, List.take_succ, List.getElem?_eq_getElem hin]; rfl
    · rcases List.mem_append.mp hj with hj | hj
      · exact jo j hj
      · rw [List.mem_singleton.mp hj]; exact ⟨z, rfl, rfl⟩
    · rw [mset_same, List.map_append]; rfl
    · rw [mset_ne pq, mset_ne pv]; exact ep4
  · rintro s' m3 ⟨js, c5, c6, jl, jn, jo, rfl, eq3, ep3, O3, T3⟩
    refine ⟨trivial, ?_⟩
    walk_at "pd"
    exact sub_refl_fin (h js q m3 (by omega) (by rw [jl]; exact jn) jo hqm eq3 O3 T3)
def sp__law_basic : SpD := fun ds m Q => ∃ (a g : Addr) (n : Str) (k : Int), ds = [.ref a, .str n, .int k] ∧ 0 ≤ k ∧ k < 9 ∧ Tp m a g ∧ ∀ (x : Ak) m', sizeA x ≤ 2 → OfP a g m m' → Tp m' a g → Q (akD x) m'
theorem ok__law_basic  (T : Txt K mg) (G__law_pick : FnOk P w K mg base CX0 (1) T.f__law_pick T.fd__law_pick ["_law_pool", "_law_many"] (spL K 2 sp__law_pick)) : FnOk P w K mg base CX0 (2) T.f__law_basic T.fd__law_basic ["_law_pool", "_law_name", "_law_what"] (spL K 3 sp__law_basic) := by
  refine fn_ok T.F__law_basic sc__law_basic (fun cdv A outer s H E hr =>
(gss_cons (gs_set (i := 3) sc__law_basic.nd rfl (.inl rfl) (ge_ix (ge_lst (ga_cons ge_str (ga_cons ge_str (ga_cons ge_str (ga_cons ge_str (ga_cons ge_str (ga_cons ge_str (ga_cons ge_str (ga_cons ge_str (ga_cons ge_str ga_nil)))))))))) (gv 2)))
 (gss_cons (gs_if (gt_cmpR (op_ltS hr.units) lr_ltP (gv 2) ge_int (nomark _))
 (gss_one (gs_ret (ge_tup (ga_cons (gv 3) (ga_cons (gv 1) ga_nil)))))
 gss_nil)
 (gss_cons (gs_if (gt_cmpR (op_ltS hr.units) lr_ltP (gv 2) ge_int (nomark _))
 (gss_one (gs_ret (ge_tup (ga_cons (gv 3) (ga_cons (ge_op op_addL lr_addL ge_int (ge_call G__law_pick (hr.mono (by omega)) (by rfl) T.g__law_pick T.F__law_pick.kp T.b__law_pick (ga_cons (gv 0) (ga_cons ge_int ga_nil)))) (ga_cons (gv 1) ga_nil))))))
 gss_nil)
 (gss_cons (gs_if (gt_cmpR (op_eqS hr.units) lr_eq (gv 2) ge_int (nomark _))
 (gss_one (gs_ret (ge_tup (ga_cons (gv 3) (ga_cons (ge_ix (ge_lst (ga_cons ge_int (ga_cons ge_int (ga_cons ge_int ga_nil)))) (ge_call G__law_pick (hr.mono (by omega)) (by rfl) T.g__law_pick T.F__law_pick.kp T.b__law_pick (ga_cons (gv 0) (ga_cons ge_int ga_nil)))) (ga_cons (gv 1) ga_nil))))))
 gss_nil)
 (gss_one (gs_ret (ge_tup (ga_cons (gv 3) (ga_cons (gv 1) (ga_cons (ge_tup (ga_cons ge_str ga_nil)) ga_nil))))))))))) (fun ds m Q h => ?_)
  obtain ⟨a, g, n, k, rfl, k0, k9, hT, h⟩ := h
  rw [show startD N__law_basic [.ref a, .str n, .int k] = [some (.ref a), some (.str n), some (.int k), none] from rfl]
  have hk : k = 0 ∨ k = 1 ∨ k = 2 ∨ k = 3 ∨ k = 4 ∨ k = 5 ∨ k = 6 ∨ k = 7 ∨ k = 8 := by omega
  walk_at "pd"
  intro p hp
  refine ⟨_, seqOf_ref mset_same, ?_⟩
  have O0 : ∀ o, OfP a g m (mset m p o) := fun o => (OfP.refl a g m).new hp
  have T0 : ∀ o, Tp (mset m p o) a g := fun o => hT.new hp
  rcases hk with rfl | rfl | rfl | rfl | rfl | rfl | rfl | rfl | rfl
  · exact ⟨_, rfl, by rw [if_pos (by decide)]; exact ⟨_, PD.Sub.refl _, h (.one .least n) _ (by show 1 ≤ 2; omega) (O0 _) (T0 _)⟩⟩
  · exact ⟨_, rfl, by rw [if_pos (by decide)]; exact ⟨_, PD.Sub.refl _, h (.one .greatest n) _ (by show 1 ≤ 2; omega) (O0 _) (T0 _)⟩⟩
  · exact ⟨_, rfl, by rw [if_pos (by decide)]; exact ⟨_, PD.Sub.refl _, h (.one .spread n) _ (by show 1 ≤ 2; omega) (O0 _) (T0 _)⟩⟩
  · exact ⟨_, rfl, by rw [if_pos (by decide)]; exact ⟨_, PD.Sub.refl _, h (.one .total n) _ (by show 1 ≤ 2; omega) (O0 _) (T0 _)⟩⟩
  · exact ⟨_, rfl, by rw [if_pos (by decide)]; exact ⟨_, PD.Sub.refl _, h (.one .names n) _ (by show 1 ≤ 2; omega) (O0 _) (T0 _)⟩⟩
  · refine ⟨_, rfl, ?_⟩
    rw [if_neg (by decide), if_pos (by decide)]
    refine ⟨_, g, _, rfl, by omega, by omega, T0 _, fun r m1 a1 b1 O1 T1 => ?_⟩
    walk_at "pd"
    exact ⟨_, PD.Sub.refl _, h (.sm .best (1 + r) n) _ (by show 1 ≤ 2; omega) ((O0 _).trans O1) T1⟩
  · refine ⟨_, rfl, ?_⟩
    rw [if_neg (by decide), if_pos (by decide)]
    refine ⟨_, g, _, rfl, by omega, by omega, T0 _, fun r m1 a1 b1 O1 T1 => ?_⟩
    walk_at "pd"
    exact ⟨_, PD.Sub.refl _, h (.sm .ends (1 + r) n) _ (by show 1 ≤ 2; omega) ((O0 _).trans O1) T1⟩
  · refine ⟨_, rfl, ?_⟩
    rw [if_neg (by decide), if_neg (by decide), if_pos rfl]
    intro p1 hp1
    have hp1m := (mset_none hp1).1
    refine ⟨_, g, _, rfl, by omega, by omega, (T0 _).new hp1, fun r m1 a1 b1 O1 T1 => ?_⟩
    have e1 := O1.kp _ _ (((T0 _).ne hp1).1) (((T0 _).ne hp1).2) mset_same
    obtain ⟨i, rfl⟩ := Int.eq_ofNat_of_zero_le a1
    have hi : i < [D.int 0, D.int 99, D.int 5].length := by show i < 3; omega
    refine dIx_seq (seqOf_ref e1) (atI_getD hi) ?_
    have hx : ∃ x : Int, [D.int 0, D.int 99, D.int 5][i] = .int x := by
      rcases (by omega : i = 0 ∨ i = 1 ∨ i = 2) with rfl | rfl | rfl <;> exact ⟨_, rfl⟩
    obtain ⟨x, hx⟩ := hx
    rw [hx]
    exact ⟨_, PD.Sub.refl _, h (.sm .within x n) _ (by show 1 ≤ 2; omega) (((O0 _).new hp1m).trans O1) T1⟩
  · exact ⟨_, rfl, by rw [if_neg (by decide), if_neg (by decide), if_neg (by decide)]; exact ⟨_, PD.Sub.refl _, h (.each n .fst) _ (by show 2 ≤ 2; omega) (O0 _) (T0 _)⟩⟩
def sp__law_right : SpD := fun ds m Q => ∃ (a g : Addr) (j : Str × Str), ds = [.ref a, jD j] ∧ Tp m a g ∧ ∀ (x : Ak) m', sizeA x ≤ 2 → OfP a g m m' → Tp m' a g → Q (akD x) m'
theorem ok__law_right  (T : Txt K mg) (G__law_basic : FnOk P w K mg base CX0 (2) T.f__law_basic T.fd__law_basic ["_law_pool", "_law_name", "_law_what"] (spL K 3 sp__law_basic)) (G__law_pick : FnOk P w K mg base CX0 (1) T.f__law_pick T.fd__law_pick ["_law_pool", "_law_many"] (spL K 2 sp__law_pick)) : FnOk P w K mg base CX0 (3) T.f__law_right T.fd__law_right ["_law_pool", "_law_judge"] (spL K 2 sp__law_right) := by
  refine fn_ok T.F__law_right sc__law_right (fun cdv A outer s H E hr =>
(gss_cons (gs_if (gt_cmpR (op_eqS hr.units) lr_eq (ge_ix (gv 1) ge_int) ge_str (nomark _))
 (gss_one (gs_ret (ge_tup (ga_cons ge_str ga_nil))))
 gss_nil)
 (gss_cons (gs_if (gt_cmpR (op_eqS hr.units) lr_eq (ge_ix (gv 1) ge_int) ge_str (nomark _))
 (gss_one (gs_ret (ge_call G__law_basic (hr.mono (by omega)) (by rfl) T.g__law_basic T.F__law_basic.kp T.b__law_basic (ga_cons (gv 0) (ga_cons (ge_ix (gv 1) ge_int) (ga_cons (ge_frz (ge_op op_addL lr_addL ge_int (ge_call G__law_pick (hr.mono (by omega)) (by rfl) T.g__law_pick T.F__law_pick.kp T.b__law_pick (ga_cons (gv 0) (ga_cons ge_int ga_nil))))) ga_nil))))))
 gss_nil)
 (gss_cons (gs_if (gt_cmpR (op_eqS hr.units) lr_eq (ge_ix (gv 1) ge_int) ge_str (nomark _))
 (gss_one (gs_ret (ge_call G__law_basic (hr.mono (by omega)) (by rfl) T.g__law_basic T.F__law_basic.kp T.b__law_basic (ga_cons (gv 0) (ga_cons (ge_ix (gv 1) ge_int) (ga_cons ge_int ga_nil))))))
 gss_nil)
 (gss_one (gs_ret (ge_call G__law_basic (hr.mono (by omega)) (by rfl) T.g__law_basic T.F__law_basic.kp T.b__law_basic (ga_cons (gv 0) (ga_cons (ge_ix (gv 1) ge_int) (ga_cons (ge_ix (ge_lst (ga_cons ge_int (ga_cons ge_int (ga_cons ge_int (ga_cons ge_int (ga_cons ge_int (ga_cons ge_int ga_nil))))))) (ge_call G__law_pick (hr.mono (by omega)) (by rfl) T.g__law_pick T.F__law_pick.kp T.b__law_pick (ga_cons (gv 0) (ga_cons ge_int ga_nil)))) ga_nil)))))))))) (fun ds m Q h => ?_)
  obtain ⟨a, g, j, rfl, hT, h⟩ := h
  rw [show startD N__law_right [.ref a, jD j] = [some (.ref a), some (jD j)] from rfl]
  unfold jD
  walk_at "pd"
  by_cases z1 : j.2 = "first"
  · rw [if_pos z1]
    exact ⟨_, PD.Sub.refl _, h .fst _ (by show 1 ≤ 2; omega) (.refl _ _ _) hT⟩
  rw [if_neg z1]
  by_cases z2 : j.2 = "product"
  · rw [if_pos z2]
    refine ⟨_, g, _, rfl, by omega, by omega, hT, fun r m1 a1 b1 O1 T1 => ?_⟩
    walk_at "pd"
    exact ⟨_, g, _, _, rfl, by omega, by omega, T1, fun x m2 hx O2 T2 => ⟨_, PD.Sub.refl _, h x _ hx (O1.trans O2) T2⟩⟩
  rw [if_neg z2]
  by_cases z3 : j.2 = "text"
  · rw [if_pos z3]
    exact ⟨_, g, _, _, rfl, by omega, by omega, hT, fun x m2 hx O2 T2 => ⟨_, PD.Sub.refl _, h x _ hx O2 T2⟩⟩
  rw [if_neg z3]
  intro p hp
  refine ⟨_, g, _, rfl, by omega, by omega, hT.new hp, fun r m1 a1 b1 O1 T1 => ?_⟩
  have e1 := O1.kp _ _ (hT.ne hp).1 (hT.ne hp).2 mset_same
  obtain ⟨i, rfl⟩ := Int.eq_ofNat_of_zero_le a1
  have hi : i < [D.int 0, D.int 1, D.int 2, D.int 5, D.int 6, D.int 7].length := by show i < 6; omega
  refine dIx_seq (seqOf_ref e1) (atI_getD hi) ?_
  have hx : ∃ x : Int, [D.int 0, D.int 1, D.int 2, D.int 5, D.int 6, D.int 7][i] = .int x ∧ 0 ≤ x ∧ x < 9 := by
    rcases (by omega : i = 0 ∨ i = 1 ∨ i = 2 ∨ i = 3 ∨ i = 4 ∨ i = 5) with rfl | rfl | rfl | rfl | rfl | rfl <;> exact ⟨_, rfl, by decide, by decide⟩
  obtain ⟨x, hx, x0, x9⟩ := hx
  rw [hx]
  exact ⟨_, g, _, _, rfl, x0, x9, T1, fun x m2 hx O2 T2 => ⟨_, PD.Sub.refl _, h x _ hx ((((OfP.refl a g m).new hp).trans O1).trans O2) T2⟩⟩
def sp__law_taken : SpD := fun ds m Q => ∃ (a g l : Addr) (zs ns : List Str) (ls : List (Str × Str)) (k : Int), ds = [.ref a, .ref l, .rol (zs.map .str), .int k, .rol (ns.map .str)] ∧ ns.length = 20 ∧ 0 ≤ k ∧ k ≤ 100 ∧ zs.length ≤ 10 ∧ ls.length ≤ 20 ∧ l ≠ a ∧ l ≠ g ∧ m l = some (.lst (ls.map jD)) ∧ Tp m a g ∧
  ∀ (j : Str × Str) (ls' : List (Str × Str)) m', ls'.length ≤ ls.length → m' l = some (.lst (ls'.map jD)) → OfL a g l m m' → Tp m' a g → Q (jD j) m'
theorem ok__law_taken  (T : Txt K mg) (G__law_pick : FnOk P w K mg base CX0 (1) T.f__law_pick T.fd__law_pick ["_law_pool", "_law_many"] (spL K 2 sp__law_pick)) : FnOk P w K mg base CX0 (2) T.f__law_taken T.fd__law_taken ["_law_pool", "_law_left", "_law_sorts", "_law_noise", "_law_names_here"] (spL K 5 sp__law_taken) := by
  refine fn_ok T.F__law_taken sc__law_taken (fun cdv A outer s H E hr =>
(gss_cons (gs_setLc (i := 5) (own := [("_law_judge", 6)]) rfl sc__law_taken.nd rfl rfl (sw_true rfl rfl rfl (by decide +kernel)) (gi_seq (gv 1)) (blkOk_by (N := N__law_taken) (sc := defScope s__law_taken) (by decide +kernel)) (fun _ _ _ _ _ => (gg_name (i := 6) sc__law_taken.nd rfl (.inl rfl))) (fun _ _ _ _ _ => (gts_one (gt_cmpR op_inU lr_in (ge_ix (gv 6) ge_int) (gv 2) (by rfl)))) (fun _ _ _ _ _ => (gv 6)) (by decide))
 (gss_cons (gs_if (gw_or (gt_cmpR (op_eqS hr.units) lr_eq (ge_callB call_lenU lc_len (by rfl) T.z_len PySem.boot_len (ga_cons (gv 5) ga_nil)) ge_int (nomark _)) (gw_or1 (gw_and (gt_cmpR (op_gtS hr.units) lr_gtP (gv 3) ge_int (nomark _)) (gw_and1 (gt_cmpR (op_eqS hr.units) lr_eq (ge_call G__law_pick (hr.mono (by omega)) (by rfl) T.g__law_pick T.F__law_pick.kp T.b__law_pick (ga_cons (gv 0) (ga_cons (gv 3) ga_nil))) ge_int (nomark _)))).gt)).gt
 (gss_cons (gs_set (i := 7) sc__law_taken.nd rfl (.inl rfl) (ge_ix (ge_lst (ga_cons ge_str (ga_cons ge_str (ga_cons ge_str (ga_cons ge_str ga_nil))))) (ge_call G__law_pick (hr.mono (by omega)) (by rfl) T.g__law_pick T.F__law_pick.kp T.b__law_pick (ga_cons (gv 0) (ga_cons ge_int ga_nil)))))
 (gss_one (gs_ret (ge_tup (ga_cons (ge_ix (gv 4) (ge_call G__law_pick (hr.mono (by omega)) (by rfl) T.g__law_pick T.F__law_pick.kp T.b__law_pick (ga_cons (gv 0) (ga_cons ge_int ga_nil)))) (ga_cons (gv 7) ga_nil))))))
 gss_nil)
 (gss_cons (gs_set (i := 6) sc__law_taken.nd rfl (.inl rfl) (ge_ix (gv 5) (ge_call G__law_pick (hr.mono (by omega)) (by rfl) T.g__law_pick T.F__law_pick.kp T.b__law_pick (ga_cons (gv 0) (ga_cons (ge_callB call_lenU lc_len (by rfl) T.z_len PySem.boot_len (ga_cons (gv 5) ga_nil)) ga_nil)))))
 (gss_cons (gs_expr (ge_bmL PySem.F.slot_list_remove PySem.F.type_list_remove (mt_remP (Nat.lt_of_succ_lt (units65 hr))) lm_remove (gv 1) (ga_cons (gv 6) ga_nil)))
 (gss_one (gs_ret (gv 6)))))))) (fun ds m Q h => ?_)
  obtain ⟨a, g, l, zs, ns, ls, k, rfl, hn, k0, k1, hz, hl, la, lg, el, hT, h⟩ := h
  rw [show startD N__law_taken [.ref a, .ref l, .rol (zs.map .str), .int k, .rol (ns.map .str)] = [some (.ref a), some (.ref l), some (.rol (zs.map .str)), some (.int k), some (.rol (ns.map .str)), none, none, none] from rfl]
  walk_at "pd"
  refine ⟨_, seqOf_ref el, fun p hp => ?_⟩
  have pl : p ≠ l := fun z => by rw [z, el] at hp; cases hp
  refine comp_pT (us := ls) jD jD (fun j => decide (j.2 ∈ zs)) (fun _ => seqOf_ref (by rw [mset_ne (Ne.symm pl)]; exact el)) (by omega) (fun j hj acc R1 R2 k1 k2 => ?_) ?_
  · unfold jD
    walk_at "pd"
    refine ⟨flat_s, ?_⟩
    rw [inF_s]
    by_cases z : j.2 ∈ zs
    · rw [decide_eq_true z, if_pos rfl]
      exact k1 (decide_eq_true z)
    · rw [decide_eq_false z, if_neg (by decide)]
      exact k2 (decide_eq_false z)
  have hsub : ∀ j ∈ ls.filter (fun j => decide (j.2 ∈ zs)), j ∈ ls := fun j hj => (List.mem_filter.mp hj).1
  have hgl : (ls.filter (fun j => decide (j.2 ∈ zs))).length ≤ 20 := Nat.le_trans (List.length_filter_le _ _) hl
  generalize ls.filter (fun j => decide (j.2 ∈ zs)) = gs at hsub hgl
  have T0 : ∀ o, Tp (mset m p o) a g := fun o => hT.new hp
  have el0 : ∀ o, mset m p o l = some (.lst (ls.map jD)) := fun o => by rw [mset_ne (Ne.symm pl)]; exact el
  obtain ⟨pa, pg⟩ := hT.ne hp
  have L0 : ∀ o, OfL a g l m (mset m p o) := fun o => (OfL.refl a g l m).new hp
  refine dLen_seq (seqOf_ref mset_same) ?_
  have ep : mset m p (.lst (gs.map jD)) p = some (.lst (gs.map jD)) := mset_same
  replace T0 := T0 (.lst (gs.map jD))
  replace el0 := el0 (.lst (gs.map jD))
  replace L0 := L0 (.lst (gs.map jD))
  generalize mset m p (.lst (gs.map jD)) = m1 at *
  -- any other one
  have other : ∀ m2, Tp m2 a g → m2 l = some (.lst (ls.map jD)) → OfL a g l m m2 → ∀ q, m2 q = none → sp__law_pick [.ref a, .int 4] (mset m2 q (.lst [.str "number", .str "product", .str "text", .str "first"])) fun y m2 => dIx (.ref q) y m2 fun x m1 => sp__law_pick [.ref a, .int 11] m1 fun y m2 => dIx (.rol (ns.map .str)) y m2 fun x1 m1 => ∃ m'', PD.Sub m'' m1 ∧ Q (.tup [x1, x]) m'' := by
    intro m2 T2 e2 L2 q hq
    obtain ⟨qa, qg⟩ := T2.ne hq
    have ql : q ≠ l := fun z => by rw [z, e2] at hq; cases hq
    refine ⟨_, g, _, rfl, by omega, by omega, T2.new hq, fun r m3 a3 b3 O3 T3 => ?_⟩
    have e3 := O3.kp _ _ qa qg mset_same
    have l3 := O3.kp l (.lst (ls.map jD)) la lg (by rw [mset_ne (Ne.symm ql)]; exact e2)
    obtain ⟨i, rfl⟩ := Int.eq_ofNat_of_zero_le a3
    have hi : i < [D.str "number", D.str "product", D.str "text", D.str "first"].length := by show i < 4; omega
    refine dIx_seq (seqOf_ref e3) (atI_getD hi) ?_
    have hx : ∃ x : Str, [D.str "number", D.str "product", D.str "text", D.str "first"][i] = .str x := by
      rcases (by omega : i = 0 ∨ i = 1 ∨ i = 2 ∨ i = 3) with rfl | rfl | rfl | rfl <;> exact ⟨_, rfl⟩
    obtain ⟨x, hx⟩ := hx
    rw [hx]
    refine ⟨_, g, _, rfl, by omega, by omega, T3, fun r4 m4 a4 b4 O4 T4 => ?_⟩
    obtain ⟨i4, rfl⟩ := Int.eq_ofNat_of_zero_le a4
    have hi4 : i4 < ns.length := by omega
    refine dIx_seq rfl (atI_map (f := D.str) (List.getElem?_eq_getElem hi4)) ?_
    exact ⟨_, PD.Sub.refl _, h (ns[i4], x) ls m4 (Nat.le_refl _) (O4.kp _ _ la lg l3) (((L2.new (L2.al _ hq)).ofP O3).ofP O4) T4⟩
  -- one that is left
  have one : ∀ m2, Tp m2 a g → m2 l = some (.lst (ls.map jD)) → m2 p = some (.lst (gs.map jD)) → OfL a g l m m2 → gs ≠ [] → dLen [.ref p] m2 fun x m1 => sp__law_pick [.ref a, x] m1 fun y m2 => dIx (.ref p) y m2 fun x m1 => (lsq m1 (.ref l)).isSome = true ∧ dRemove (.ref l) [x] m1 fun x4 m1 => ∃ m'', PD.Sub m'' m1 ∧ Q x m'' := by
    intro m2 T2 e2 p2 L2 hne
    have h0 : 0 < gs.length := List.length_pos_iff.mpr hne
    refine dLen_seq (seqOf_ref p2) ?_
    refine ⟨_, g, _, rfl, by rw [List.length_map]; omega, by rw [List.length_map]; omega, T2, fun r m3 a3 b3 O3 T3 => ?_⟩
    rw [List.length_map] at b3
    have p3 := O3.kp _ _ pa pg p2
    have l3 := O3.kp _ _ la lg e2
    obtain ⟨i, rfl⟩ := Int.eq_ofNat_of_zero_le a3
    have hi : i < gs.length := by omega
    refine dIx_seq (seqOf_ref p3) (atI_map (f := jD) (List.getElem?_eq_getElem hi)) ?_
    refine ⟨by rw [lsq_ref l3]; rfl, ?_⟩
    have hm : gs[i] ∈ ls := hsub _ (List.getElem_mem hi)
    obtain ⟨j, hj1, hj2⟩ := jfirst hm
    have hjl : j < ls.length := by
      rcases Nat.lt_or_ge j ls.length with h | h
      · exact h
      · rw [List.getElem?_eq_none h] at hj1; cases hj1
    refine ⟨l, _, _, j, rfl, lstOf_ref l3, jD_pln ls, rfl, by simp [jD, dep, deps], by rw [List.getElem?_map, hj1]; rfl, fun i' hi' e => ?_, ?_⟩
    · rw [List.getElem?_map] at e
      cases e2 : ls[i']? with
      | none => rw [e2] at e; cases e
      | some y =>
        rw [e2] at e
        exact hj2 i' hi' (by rw [e2]; exact congrArg some (jD_inj (Option.some.inj e)))
    refine ⟨_, PD.Sub.refl _, h gs[i] (ls.eraseIdx j) _ (by rw [List.length_eraseIdx_of_lt hjl]; omega) (by rw [mset_same, map_erase]) ((L2.ofP O3).set) (T3.setp la lg)⟩
  by_cases hg : gs = []
  · subst hg
    refine ⟨true, rfl, ?_⟩
    rw [if_pos rfl]
    exact other m1 T0 el0 L0
  · refine ⟨false, ?_, ?_⟩
    · have : 0 < gs.length := List.length_pos_iff.mpr hg
      rw [eqK_ii, List.length_map]
      exact congrArg some (beq_eq_false_iff_ne.mpr (by omega))
    rw [if_neg (by decide)]
    by_cases hk : 0 < k
    · rw [if_pos hk]
      refine ⟨_, g, _, rfl, hk, by omega, T0, fun r m2 a2 b2 O2 T2 => ?_⟩
      have l2 := O2.kp _ _ la lg el0
      walk_at "pd"
      by_cases hr : r = 0
      · rw [if_pos (by simpa using hr)]
        exact other m2 T2 l2 (L0.ofP O2)
      · rw [if_neg (by simpa using hr)]
        exact one m2 T2 l2 (O2.kp _ _ pa pg ep) (L0.ofP O2) hg
    · rw [if_neg hk]
      exact one m1 T0 el0 ep L0 hg
end
def isNm (j : Str × Str) : Bool := decide (j.2 = ("number" : Str))
def Opt (xs : List D) : Prop := ∀ d ∈ xs, ∃ v : Int, d = .int v ∧ 0 ≤ v ∧ v ≤ 3
theorem Opt.app {a b : List D} (h : Opt a) (k : Opt b) : Opt (a ++ b) := fun d hd => (List.mem_append.mp hd).elim (h d) (k d)
theorem Opt.rep {a : List D} (h : Opt a) (n : Nat) : Opt (List.replicate n a).flatten := fun d hd => by
  obtain ⟨l, hl, hd⟩ := List.mem_flatten.mp hd
  rw [List.eq_of_mem_replicate hl] at hd
  exact h d hd
theorem Opt.one {v : Int} (h0 : 0 ≤ v) (h3 : v ≤ 3) : Opt [.int v] := fun d hd => ⟨v, List.mem_singleton.mp hd, h0, h3⟩
theorem md_id {m : Mu} {p : Addr} {o : MO} (h : m p = none) : mdel (mset m p o) p = m := mdel_mset.trans (mdel_none h)
section
variable {P : Program} {w : World} {K : PySem.W.Frag} {mg : Str → Option Value} {base : Heap}
def sp__law_wish (n : Nat) : SpD := fun ds m Q => ∃ (a g l : Addr) (ns : List Str) (ls : List (Str × Str)) (k : Int) (room : Nat), ds = [.ref a, .int (room : Int), .ref l, .int k, .rol (ns.map .str)] ∧ 1 ≤ room ∧ room ≤ n ∧ room ≤ 4 ∧ ns.length = 20 ∧ 0 ≤ k ∧ k ≤ 10 ∧ ls.length ≤ 20 ∧ l ≠ a ∧ l ≠ g ∧ m l = some (.lst (ls.map jD)) ∧ Tp m a g ∧
  ∀ (x : Ak) (ls' : List (Str × Str)) m', sizeA x + 2 ≤ 4 * room → ls'.length ≤ ls.length → m' l = some (.lst (ls'.map jD)) → OfL a g l m m' → Tp m' a g → Q (akD x) m'
theorem wish_turn {k n : Nat} {sq : SpD} (hk : 3 ≤ k) (T : Txt K mg) (hs : ∀ ds m Q, (∃ j, n = j + 1 ∧ sp__law_wish j ds m Q) → sq ds m Q)
    (G__law_wish : FnOk P w K mg base CX0 k T.f__law_wish T.fd__law_wish ["_law_pool", "_law_room", "_law_left", "_law_noise", "_law_names_here"] (spL K 5 sq))
    (G__law_pick : FnOk P w K mg base CX0 1 T.f__law_pick T.fd__law_pick ["_law_pool", "_law_many"] (spL K 2 sp__law_pick))
    (G__law_right : FnOk P w K mg base CX0 3 T.f__law_right T.fd__law_right ["_law_pool", "_law_judge"] (spL K 2 sp__law_right))
    (G__law_taken : FnOk P w K mg base CX0 2 T.f__law_taken T.fd__law_taken ["_law_pool", "_law_left", "_law_sorts", "_law_noise", "_law_names_here"] (spL K 5 sp__law_taken))
    (G__law_basic : FnOk P w K mg base CX0 2 T.f__law_basic T.fd__law_basic ["_law_pool", "_law_name", "_law_what"] (spL K 3 sp__law_basic)) :
    FnOk P w K mg base CX0 (k + 1) T.f__law_wish T.fd__law_wish ["_law_pool", "_law_room", "_law_left", "_law_noise", "_law_names_here"] (spL K 5 (sp__law_wish n)) := by
  refine fn_ok T.F__law_wish sc__law_wish (fun cdv A outer s H E hr =>
(gss_cons (gs_if (gt_cmpR (op_eqS hr.units) lr_eq (gv 1) ge_int (nomark _))
 (gss_cons (gs_set (i := 10) sc__law_wish.nd rfl (.inl rfl) (ge_call G__law_taken (hr.mono (by omega)) (by rfl) T.g__law_taken T.F__law_taken.kp T.b__law_taken (ga_cons (gv 0) (ga_cons (gv 2) (ga_cons (ge_frz (ge_lst (ga_cons ge_str (ga_cons ge_str (ga_cons ge_str (ga_cons ge_str ga_nil)))))) (ga_cons (gv 3) (ga_cons (gv 4) ga_nil)))))))
 (gss_cons (gs_if (gw_and (gt_cmpR (op_gtS hr.units) lr_gtP (gv 3) ge_int (nomark _)) (gw_and (gt_cmpR (op_eqS hr.units) lr_eq (ge_call G__law_pick (hr.mono (by omega)) (by rfl) T.g__law_pick T.F__law_pick.kp T.b__law_pick (ga_cons (gv 0) (ga_cons (gv 3) ga_nil))) ge_int (nomark _)) (gw_and1 (gt_cmpR (op_neS hr.units) lr_ne (ge_ix (gv 10) ge_int) ge_str (nomark _))))).gt
 (gss_one (gs_ret (ge_call G__law_basic (hr.mono (by omega)) (by rfl) T.g__law_basic T.F__law_basic.kp T.b__law_basic (ga_cons (gv 0) (ga_cons (ge_ix (gv 10) ge_int) (ga_cons (ge_call G__law_pick (hr.mono (by omega)) (by rfl) T.g__law_pick T.F__law_pick.kp T.b__law_pick (ga_cons (gv 0) (ga_cons ge_int ga_nil))) ga_nil))))))
 gss_nil)
 (gss_one (gs_ret (ge_call G__law_right (hr.mono (by omega)) (by rfl) T.g__law_right T.F__law_right.kp T.b__law_right (ga_cons (gv 0) (ga_cons (gv 10) ga_nil)))))))
 gss_nil)
 (gss_cons (gs_set (i := 5) sc__law_wish.nd rfl (.inl rfl) (ge_callB call_lenU lc_len (by rfl) T.z_len PySem.boot_len (ga_cons (ge_lc (own := [("_law_judge", 10)]) rfl sc__law_wish.nd (gi_seq (gv 2)) (blkOk_by (N := N__law_wish) (sc := defScope s__law_wish) (by decide +kernel)) (fun _ _ _ _ _ => (gg_name (i := 10) sc__law_wish.nd rfl (.inl rfl))) (fun _ _ _ _ _ => (gts_one (gt_cmpR (op_eqS hr.units) lr_eq (ge_ix (gv 10) ge_int) ge_str (nomark _)))) (fun _ _ _ _ _ => (gv 10)) (by decide)) ga_nil)))
 (gss_cons (gs_set (i := 6) sc__law_wish.nd rfl (.inl rfl) (ge_op op_addL lr_addL (ge_op op_addL lr_addL (ge_lst (ga_cons ge_int ga_nil)) (ge_op op_mulL lr_mulL (ge_lst (ga_cons ge_int ga_nil)) (ge_callB (cr_minU rfl hr.units) lc_minU (by rfl) T.z_min (by decide +kernel) (ga_cons ge_int (ga_cons (gv 5) ga_nil))))) (ge_op op_mulLB lr_mulLB (ge_lst (ga_cons ge_int ga_nil)) (ge_cmpR (op_gtS hr.units) lr_gtP (gv 5) ge_int (nomark _)))))
 (gss_cons (gs_set (i := 6) sc__law_wish.nd rfl (.inl rfl) (ge_op op_addL lr_addL (gv 6) (ge_op op_mulL lr_mulL (ge_lst (ga_cons ge_int ga_nil)) (ge_callB (cr_minU rfl hr.units) lc_minU (by rfl) T.z_min (by decide +kernel) (ga_cons ge_int (ga_cons (ge_callB call_lenU lc_len (by rfl) T.z_len PySem.boot_len (ga_cons (ge_lc (own := [("_law_judge", 10)]) rfl sc__law_wish.nd (gi_seq (gv 2)) (blkOk_by (N := N__law_wish) (sc := defScope s__law_wish) (by decide +kernel)) (fun _ _ _ _ _ => (gg_name (i := 10) sc__law_wish.nd rfl (.inl rfl))) (fun _ _ _ _ _ => (gts_one (gt_cmpR op_inU lr_in (ge_ix (gv 10) ge_int) (ge_lst (ga_cons ge_str (ga_cons ge_str ga_nil))) (by rfl)))) (fun _ _ _ _ _ => (gv 10)) (by decide)) ga_nil)) ga_nil))))))
 (gss_cons (gs_set (i := 7) sc__law_wish.nd rfl (.inl rfl) (ge_ifE (gt_cmpR (op_eqS hr.units) lr_eq (gv 3) ge_int (nomark _)) (ge_ix (gv 6) (ge_call G__law_pick (hr.mono (by omega)) (by rfl) T.g__law_pick T.F__law_pick.kp T.b__law_pick (ga_cons (gv 0) (ga_cons (ge_callB call_lenU lc_len (by rfl) T.z_len PySem.boot_len (ga_cons (gv 6) ga_nil)) ga_nil)))) (ge_call G__law_pick (hr.mono (by omega)) (by rfl) T.g__law_pick T.F__law_pick.kp T.b__law_pick (ga_cons (gv 0) (ga_cons ge_int ga_nil)))))
 (gss_cons (gs_if (gt_cmpR (op_eqS hr.units) lr_eq (gv 7) ge_int (nomark _))
 (gss_cons (gs_set (i := 10) sc__law_wish.nd rfl (.inl rfl) (ge_call G__law_taken (hr.mono (by omega)) (by rfl) T.g__law_taken T.F__law_taken.kp T.b__law_taken (ga_cons (gv 0) (ga_cons (gv 2) (ga_cons (ge_frz (ge_lst (ga_cons ge_str (ga_cons ge_str ga_nil)))) (ga_cons (gv 3) (ga_cons (gv 4) ga_nil)))))))
 (gss_one (gs_ret (ge_tup (ga_cons ge_str (ga_cons (ge_ix (gv 10) ge_int) (ga_cons (ge_call G__law_wish (hr.mono (by omega)) (by rfl) T.g__law_wish T.F__law_wish.kp T.b__law_wish (ga_cons (gv 0) (ga_cons (ge_frz (ge_op op_sub lr_sub (gv 1) ge_int)) (ga_cons (gv 2) (ga_cons (gv 3) (ga_cons (gv 4) ga_nil)))))) ga_nil)))))))
 gss_nil)
 (gss_cons (gs_if (gt_cmpR (op_eqS hr.units) lr_eq (gv 7) ge_int (nomark _))
 (gss_cons (gs_set (i := 11) sc__law_wish.nd rfl (.inl rfl) (ge_op op_addL lr_addL ge_int (ge_call G__law_pick (hr.mono (by omega)) (by rfl) T.g__law_pick T.F__law_pick.kp T.b__law_pick (ga_cons (gv 0) (ga_cons (ge_frz (ge_op op_sub lr_sub (gv 1) ge_int)) ga_nil)))))
 (gss_cons (gs_set (i := 12) sc__law_wish.nd rfl (.inl rfl) (ge_call G__law_wish (hr.mono (by omega)) (by rfl) T.g__law_wish T.F__law_wish.kp T.b__law_wish (ga_cons (gv 0) (ga_cons (ge_frz (gv 11)) (ga_cons (gv 2) (ga_cons (gv 3) (ga_cons (gv 4) ga_nil)))))))
 (gss_one (gs_ret (ge_tup (ga_cons ge_str (ga_cons (gv 12) (ga_cons (ge_call G__law_wish (hr.mono (by omega)) (by rfl) T.g__law_wish T.F__law_wish.kp T.b__law_wish (ga_cons (gv 0) (ga_cons (ge_frz (ge_op op_sub lr_sub (gv 1) (gv 11))) (ga_cons (gv 2) (ga_cons (gv 3) (ga_cons (gv 4) ga_nil)))))) ga_nil))))))))
 gss_nil)
 (gss_cons (gs_set (i := 8) sc__law_wish.nd rfl (.inl rfl) (ge_lst ga_nil))
 (gss_cons (gs_for PassesOwn.never rfl (gi_rng1 (by rfl) T.z_range (ga_cons (ge_op op_sub lr_sub (gv 7) ge_int) ga_nil)) (gg_name (i := 9) sc__law_wish.nd rfl (.inl rfl))
 (gss_cons (gs_set (i := 10) sc__law_wish.nd rfl (.inl rfl) (ge_call G__law_taken (hr.mono (by omega)) (by rfl) T.g__law_taken T.F__law_taken.kp T.b__law_taken (ga_cons (gv 0) (ga_cons (gv 2) (ga_cons (ge_frz (ge_lst (ga_cons ge_str ga_nil))) (ga_cons (gv 3) (ga_cons (gv 4) ga_nil)))))))
 (gss_cons (gs_set (i := 13) sc__law_wish.nd rfl (.inl rfl) (ge_tup (ga_cons (ge_ix (ge_lst (ga_cons ge_str (ga_cons ge_str ga_nil))) (ge_call G__law_pick (hr.mono (by omega)) (by rfl) T.g__law_pick T.F__law_pick.kp T.b__law_pick (ga_cons (gv 0) (ga_cons ge_int ga_nil)))) (ga_cons (ge_ix (gv 10) ge_int) ga_nil))))
 (gss_cons (gs_if (gw_and (gt_cmpR (op_gtS hr.units) lr_gtP (gv 3) ge_int (nomark _)) (gw_and1 (gt_cmpR (op_eqS hr.units) lr_eq (ge_call G__law_pick (hr.mono (by omega)) (by rfl) T.g__law_pick T.F__law_pick.kp T.b__law_pick (ga_cons (gv 0) (ga_cons (ge_frz (ge_op op_mulL lr_mulL ge_int (gv 3))) ga_nil))) ge_int (nomark _)))).gt
 (gss_one (gs_set (i := 13) sc__law_wish.nd rfl (.inl rfl) (ge_call G__law_right (hr.mono (by omega)) (by rfl) T.g__law_right T.F__law_right.kp T.b__law_right (ga_cons (gv 0) (ga_cons (gv 10) ga_nil)))))
 gss_nil)
 (gss_one (gs_expr (ge_bm PySem.F.slot_list_append PySem.F.type_list_append mt_append lm_append (gv 8) (ga_cons (gv 13) ga_nil))))))))
 (gss_cons (gs_if (gt_cmpR (op_eqS hr.units) lr_eq (gv 7) ge_int (nomark _))
 (gss_one (gs_ret (ge_tup (ga_cons ge_str (ga_cons (ge_ix (gv 8) ge_int) (ga_cons (ge_ix (gv 8) ge_int) ga_nil))))))
 gss_nil)
 (gss_one (gs_ret (ge_tup (ga_cons ge_str (ga_cons (ge_ix (gv 8) ge_int) (ga_cons (ge_call G__law_wish (hr.mono (by omega)) (by rfl) T.g__law_wish T.F__law_wish.kp T.b__law_wish (ga_cons (gv 0) (ga_cons (ge_frz (ge_op op_sub lr_sub (gv 1) ge_int)) (ga_cons (gv 2) (ga_cons (gv 3) (ga_cons (gv 4) ga_nil)))))) ga_nil))))))))))))))))) (fun ds m Q h => ?_)
  obtain ⟨a, g, l, ns, ls, k, room, rfl, h1, hrn, hr4, hn, k0, k1, hl, la, lg, el, hT, h⟩ := h
  rw [show startD N__law_wish [.ref a, .int (room : Int), .ref l, .int k, .rol (ns.map .str)] = [some (.ref a), some (.int (room : Int)), some (.ref l), some (.int k), some (.rol (ns.map .str)), none, none, none, none, none, none, none, none, none] from rfl]
  refine seq_cut (fun s' m' => s' = [some (.ref a), some (.int (room : Int)), some (.ref l), some (.int k), some (.rol (ns.map .str)), none, none, none, none, none, none, none, none, none] ∧ m' = m ∧ room ≠ 1) (fun R hR => ?_) ?_
  · walk_at "pd"
    by_cases hr1 : (room : Int) = 1
    · rw [if_pos (by simpa using hr1)]
      intro p hp
      refine ⟨_, rfl, ?_⟩
      rw [md_id hp]
      refine ⟨a, g, l, (["number", "product", "text", "first"] : List Str), ns, ls, k, rfl, hn, k0, by omega, by decide, hl, la, lg, el, hT, fun j ls1 m1 hl1 e1 L1 T1 => ?_⟩
      have rt : ∀ m2, Tp m2 a g → m2 l = some (.lst (ls1.map jD)) → OfL a g l m m2 → sp__law_right [.ref a, jD j] m2 fun v m' => ∃ m'', PD.Sub m'' m' ∧ Q v m'' := fun m2 T2 e2 L2 =>
        ⟨a, g, j, rfl, T2, fun x m3 hx O3 T3 => ⟨_, PD.Sub.refl _, h x ls1 m3 (by omega) hl1 (O3.kp _ _ la lg e2) (L2.ofP O3) T3⟩⟩
      dsimp only
      by_cases hk2 : 0 < k
      · rw [if_pos hk2]
        refine ⟨_, g, _, rfl, hk2, by omega, T1, fun r m2 a2 b2 O2 T2 => ?_⟩
        have e2 := O2.kp _ _ la lg e1
        by_cases hr : r = 0
        · refine ⟨true, by rw [hr]; rfl, ?_⟩
          rw [if_pos rfl]
          have rt2 := rt m2 T2 e2 (L1.ofP O2)
          unfold jD at rt2 ⊢
          walk_at "pd"
          by_cases hf : j.2 = ("first" : Str)
          · rw [if_neg (by simpa using hf)]
            exact rt2
          · rw [if_pos (by simpa using hf)]
            refine ⟨_, g, _, rfl, by omega, by omega, T2, fun r3 m3 a3 b3 O3 T3 => ?_⟩
            refine ⟨a, g, j.1, r3, rfl, a3, by omega, T3, fun x m4 hx O4 T4 => ⟨_, PD.Sub.refl _, h x ls1 m4 (by omega) hl1 (O4.kp _ _ la lg (O3.kp _ _ la lg e2)) (((L1.ofP O2).ofP O3).ofP O4) T4⟩⟩
        · refine ⟨false, by rw [eqK_ii]; exact congrArg some (beq_eq_false_iff_ne.mpr hr), ?_⟩
          rw [if_neg (by decide)]
          exact rt m2 T2 e2 (L1.ofP O2)
      · rw [if_neg hk2]
        exact rt m1 T1 e1 L1
    · rw [if_neg (by simpa using hr1)]
      exact hR _ _ ⟨rfl, rfl, fun e => hr1 (by rw [e]; rfl)⟩
  rintro s' m1 ⟨rfl, rfl, hr1⟩
  refine seq_cut (fun s' m' => ∃ (n1 : Nat), s' = [some (.ref a), some (.int (room : Int)), some (.ref l), some (.int k), some (.rol (ns.map .str)), some (.int (n1 : Int)), none, none, none, none, none, none, none, none] ∧ n1 ≤ 20 ∧ m' l = some (.lst (ls.map jD)) ∧ OfL a g l m1 m' ∧ Tp m' a g) (fun R hR => ?_) ?_
  · walk_at "pd"
    refine ⟨_, seqOf_ref el, fun p hp => ?_⟩
    have pl : p ≠ l := fun z => by rw [z, el] at hp; cases hp
    refine comp_pT (us := ls) jD jD isNm (fun _ => seqOf_ref (by rw [mset_ne (Ne.symm pl)]; exact el)) (by omega) (fun j hj acc R1 R2 k1 k2 => ?_) ?_
    · unfold jD
      walk_at "pd"
      by_cases z : j.2 = ("number" : Str)
      · rw [if_pos z]; exact k1 (decide_eq_true z)
      · rw [if_neg z]; exact k2 (decide_eq_false z)
    have hgl : (ls.filter isNm).length ≤ 20 := Nat.le_trans (List.length_filter_le _ _) hl
    generalize ls.filter isNm = gs at hgl
    refine dLen_seq (seqOf_ref mset_same) ?_
    rw [List.length_map]
    exact hR _ _ ⟨gs.length, rfl, hgl, by rw [mset_ne (Ne.symm pl)]; exact el, (OfL.refl a g l m1).new hp, hT.new hp⟩
  rintro s' m2 ⟨n1, rfl, hn1, e2, L2, T2⟩
  refine seq_cut (fun s' m' => ∃ (x : Addr) (xs : List D), s' = [some (.ref a), some (.int (room : Int)), some (.ref l), some (.int k), some (.rol (ns.map .str)), some (.int (n1 : Int)), some (.ref x), none, none, none, none, none, none, none] ∧ x ≠ l ∧ x ≠ a ∧ x ≠ g ∧ m' x = some (.lst xs) ∧ Opt xs ∧ xs ≠ [] ∧ xs.length ≤ 4 ∧ m' l = some (.lst (ls.map jD)) ∧ OfL a g l m1 m' ∧ Tp m' a g) (fun R hR => ?_) ?_
  · walk_at "pd"
    intro p1 hp1 p2 hp2
    obtain ⟨q2, n21⟩ := mset_none hp2
    have ej : ∃ j : Nat, (if (n1 : Int) < 2 then (n1 : Int) else 2) = (j : Int) ∧ j ≤ 2 := by
      split
      · exact ⟨n1, rfl, by omega⟩
      · exact ⟨2, rfl, Nat.le_refl _⟩
    obtain ⟨j, ej, j2⟩ := ej
    rw [ej, Int.toNat_natCast]
    refine ⟨_, rfl, by omega, by omega, Nat.le_trans (show 1 * j ≤ 2 by omega) (by decide), fun p3 hp3 => ?_⟩
    obtain ⟨q3, n32⟩ := mset_none hp3
    obtain ⟨q3a, n31⟩ := mset_none q3
    have o3 : Opt (List.replicate j [D.int 2]).flatten := (Opt.one (by decide) (by decide)).rep j
    have l3 : (List.replicate j [D.int 2]).flatten.length = j := by rw [List.length_flatten, List.map_replicate]; simp
    generalize (List.replicate j [D.int 2]).flatten = x3 at o3 l3
    have h1 : mset (mset (mset m2 p1 (.lst [.int 1])) p2 (.lst [.int 2])) p3 (.lst x3) p1 = some (.lst [.int 1]) := by rw [mset_ne (Ne.symm n31), mset_ne (Ne.symm n21)]; exact mset_same
    refine ⟨_, _, lsq_ref h1, lsq_ref mset_same, Nat.le_trans (show 1 + x3.length ≤ 3 by omega) (by decide), fun p4 hp4 p5 hp5 => ?_⟩
    obtain ⟨q4, n43⟩ := mset_none hp4
    obtain ⟨q4a, n42⟩ := mset_none q4
    obtain ⟨q4b, n41⟩ := mset_none q4a
    obtain ⟨q5, n54⟩ := mset_none hp5
    obtain ⟨q5a, n53⟩ := mset_none q5
    obtain ⟨q5b, n52⟩ := mset_none q5a
    obtain ⟨q5c, n51⟩ := mset_none q5b
    rw [dMulLB_b]
    refine ⟨_, mset_same, fun p6 hp6 => ?_⟩
    have o6 : Opt (if decide (1 < (n1 : Int)) = true then [D.int 3] else []) := by
      split
      · exact .one (by decide) (by decide)
      · exact fun d hd => (List.not_mem_nil hd).elim
    have l6 : (if decide (1 < (n1 : Int)) = true then [D.int 3] else []).length ≤ 1 := by split <;> simp
    generalize (if decide (1 < (n1 : Int)) = true then [D.int 3] else []) = x6 at o6 l6
    obtain ⟨q6, n65⟩ := mset_none hp6
    obtain ⟨q6a, n64⟩ := mset_none q6
    obtain ⟨q6b, n63⟩ := mset_none q6a
    obtain ⟨q6c, n62⟩ := mset_none q6b
    obtain ⟨q6d, n61⟩ := mset_none q6c
    have h4 : mset (mset (mset (mset (mset (mset m2 p1 (.lst [.int 1])) p2 (.lst [.int 2])) p3 (.lst x3)) p4 (.lst ([.int 1] ++ x3))) p5 (.lst [.int 3])) p6 (.lst x6) p4 = some (.lst ([.int 1] ++ x3)) := by rw [mset_ne (Ne.symm n64), mset_ne (Ne.symm n54)]; exact mset_same
    walk_at "w"
    refine ⟨_, _, lsq_ref h4, lsq_ref mset_same, Nat.le_trans (show ([D.int 1] ++ x3).length + x6.length ≤ 4 by rw [List.length_append, List.length_singleton]; omega) (by decide), fun p7 hp7 => ?_⟩
    have TT := Tp.new (o := .lst x6) (((((T2.new hp1).new hp2).new hp3).new hp4).new hp5) hp6
    have z := fun {x : Addr} (hx : m2 x = none) => L2.al x hx
    obtain ⟨q7, n76⟩ := mset_none hp7
    obtain ⟨q7a, n75⟩ := mset_none q7
    obtain ⟨q7b, n74⟩ := mset_none q7a
    obtain ⟨q7c, n73⟩ := mset_none q7b
    obtain ⟨q7d, n72⟩ := mset_none q7c
    obtain ⟨q7e, n71⟩ := mset_none q7d
    have ln : ∀ {y : Addr}, m2 y = none → l ≠ y := fun hy e => by rw [← e, e2] at hy; cases hy
    refine hR _ _ ⟨p7, _, rfl, Ne.symm (ln q7e), (TT.ne hp7).1, (TT.ne hp7).2, mset_same, ((Opt.one (by decide) (by decide)).app o3).app o6, by simp, by rw [List.length_append, List.length_append, List.length_singleton]; omega, ?_, ((((((L2.new (z hp1)).new (z q2)).new (z q3a)).new (z q4b)).new (z q5c)).new (z q6d)).new (z q7e), TT.new hp7⟩
    rw [mset_ne (ln q7e), mset_ne (ln q6d), mset_ne (ln q5c), mset_ne (ln q4b), mset_ne (ln q3a), mset_ne (ln q2), mset_ne (ln hp1)]
    exact e2
  rintro s' m3 ⟨x, xs, rfl, xl, xa, xg, ex, ox, nx, lx, e3, L3, T3⟩
  refine seq_cut (fun s' m' => ∃ (x : Addr) (xs : List D) (c10 : Option D), s' = [some (.ref a), some (.int (room : Int)), some (.ref l), some (.int k), some (.rol (ns.map .str)), some (.int (n1 : Int)), some (.ref x), none, none, none, c10, none, none, none] ∧ x ≠ l ∧ x ≠ a ∧ x ≠ g ∧ m' x = some (.lst xs) ∧ Opt xs ∧ xs ≠ [] ∧ xs.length ≤ 5 ∧ m' l = some (.lst (ls.map jD)) ∧ OfL a g l m1 m' ∧ Tp m' a g) (fun R hR => ?_) ?_
  · walk_at "pd"
    intro p1 hp1
    have lp1 : l ≠ p1 := fun e => by rw [← e, e3] at hp1; cases hp1
    have xp1 : x ≠ p1 := fun e => by rw [← e, ex] at hp1; cases hp1
    refine ⟨_, seqOf_ref (by rw [mset_ne lp1]; exact e3), fun p2 hp2 => ?_⟩
    obtain ⟨q2, n21⟩ := mset_none hp2
    have lp2 : l ≠ p2 := fun e => by rw [← e, e3] at q2; cases q2
    have xp2 : x ≠ p2 := fun e => by rw [← e, ex] at q2; cases q2
    obtain ⟨p2a, p2g⟩ := Tp.ne (Tp.new (o := .lst [.int 0]) T3 hp1) hp2
    refine comp_inv (fun rem acc m' => m' l = some (.lst (ls.map jD)) ∧ m' x = some (.lst xs) ∧ m' p1 = some (.lst [.int 0]) ∧ m' p2 = some (.lst acc) ∧ OfL a g l m1 m' ∧ Tp m' a g ∧ acc.length + rem.length ≤ 20 ∧ ∃ rs : List (Str × Str), rem = rs.map jD) ?_ ?_ ⟨by rw [mset_ne lp2, mset_ne lp1]; exact e3, by rw [mset_ne xp2, mset_ne xp1]; exact ex, by rw [mset_ne (Ne.symm n21)]; exact mset_same, mset_same, (L3.new (L3.al _ hp1)).new (L3.al _ q2), (T3.new hp1).new hp2, by rw [List.length_map]; simpa using hl, ls, rfl⟩
    · rintro d rem acc m5 R2 hR2 ⟨i1, i2, i3, i4, i5, i6, i7, rs, i8⟩
      refine ⟨seqOf_ref i1, ?_⟩
      cases rs with
      | nil => cases i8
      | cons y rs =>
        rw [List.map_cons] at i8
        injection i8 with i8 i9
        subst i8
        rw [List.length_cons] at i7
        unfold jD
        walk_at "pd"
        intro u hu
        have up2 : p2 ≠ u := fun e => by rw [← e, i4] at hu; cases hu
        have up1 : p1 ≠ u := fun e => by rw [← e, i3] at hu; cases hu
        have ul : l ≠ u := fun e => by rw [← e, i1] at hu; cases hu
        have ux : x ≠ u := fun e => by rw [← e, i2] at hu; cases hu
        have um : m1 u = none := i5.al _ hu
        have p2m : m1 p2 = none := L3.al _ q2
        refine ⟨_, seqOf_ref mset_same, rfl, ?_⟩
        split
        · refine ⟨by rw [mset_ne up2]; exact i4, Nat.lt_of_lt_of_le (by omega : acc.length < 21) (by decide), hR2 _ _ ⟨by rw [mset_ne lp2, mset_ne ul]; exact i1, by rw [mset_ne xp2, mset_ne ux]; exact i2, by rw [mset_ne (Ne.symm n21), mset_ne up1]; exact i3, mset_same, (i5.new um).new p2m, (i6.new hu).setp p2a p2g, by rw [List.length_append, List.length_singleton]; omega, rs, i9⟩⟩
        · exact hR2 _ _ ⟨by rw [mset_ne ul]; exact i1, by rw [mset_ne ux]; exact i2, by rw [mset_ne up1]; exact i3, by rw [mset_ne up2]; exact i4, i5.new um, i6.new hu, by omega, rs, i9⟩
    · rintro acc m5 ⟨i1, i2, i3, i4, i5, i6, i7, i8⟩
      refine ⟨seqOf_ref i1, i4, ?_⟩
      refine dLen_seq (seqOf_ref i4) ?_
      walk_at "pd"
      obtain ⟨j, ej, j1⟩ : ∃ j : Nat, (if (acc.length : Int) < 1 then (acc.length : Int) else 1) = (j : Int) ∧ j ≤ 1 := by
        split
        · exact ⟨acc.length, rfl, by omega⟩
        · exact ⟨1, rfl, Nat.le_refl _⟩
      rw [ej, Int.toNat_natCast]
      refine ⟨_, i3, by omega, by omega, Nat.le_trans (show 1 * j ≤ 1 by omega) (by decide), fun p3 hp3 => ?_⟩
      have o3 : Opt (List.replicate j [D.int 0]).flatten := (Opt.one (by decide) (by decide)).rep j
      have l3 : (List.replicate j [D.int 0]).flatten.length = j := by rw [List.length_flatten, List.map_replicate]; simp
      generalize (List.replicate j [D.int 0]).flatten = x3 at o3 l3
      have xp3 : x ≠ p3 := fun e => by rw [← e, i2] at hp3; cases hp3
      have lp3 : l ≠ p3 := fun e => by rw [← e, i1] at hp3; cases hp3
      refine ⟨_, _, lsq_ref (by rw [mset_ne xp3]; exact i2), lsq_ref mset_same, Nat.le_trans (show xs.length + x3.length ≤ 5 by omega) (by decide), fun p4 hp4 => ?_⟩
      obtain ⟨q4, n43⟩ := mset_none hp4
      have lp4 : l ≠ p4 := fun e => by rw [← e, i1] at q4; cases q4
      have TT := Tp.new (o := .lst x3) i6 hp3
      refine hR _ _ ⟨p4, _, none, rfl, Ne.symm lp4, (TT.ne hp4).1, (TT.ne hp4).2, mset_same, ox.app o3, by simp [nx], by rw [List.length_append]; omega, by rw [mset_ne lp4, mset_ne lp3]; exact i1, (i5.new (i5.al _ hp3)).new (i5.al _ q4), TT.new hp4⟩
  rintro s' m4 ⟨x, xs, c10, rfl, xl, xa, xg, ex, ox, nx, lx, e4, L4, T4⟩
  refine seq_cut (fun s' m' => ∃ (c6 : Option D) (v : Int), s' = [some (.ref a), some (.int (room : Int)), some (.ref l), some (.int k), some (.rol (ns.map .str)), some (.int (n1 : Int)), c6, some (.int v), none, none, c10, none, none, none] ∧ 0 ≤ v ∧ v ≤ 3 ∧ m' l = some (.lst (ls.map jD)) ∧ OfL a g l m1 m' ∧ Tp m' a g) (fun R hR => ?_) ?_
  · walk_at "pd"
    have hx0 : 0 < xs.length := List.length_pos_iff.mpr nx
    by_cases hk0 : k = 0
    · rw [if_pos hk0]
      refine ⟨_, seqOf_ref ex, ?_⟩
      refine ⟨_, g, _, rfl, by omega, by omega, T4, fun r m5 a5 b5 O5 T5 => ?_⟩
      obtain ⟨i, rfl⟩ := Int.eq_ofNat_of_zero_le a5
      have hi : i < xs.length := by omega
      refine dIx_seq (seqOf_ref (O5.kp _ _ xa xg ex)) (atI_getD hi) ?_
      obtain ⟨v, ev, v0, v3⟩ := ox _ (List.getElem_mem hi)
      rw [ev]
      exact hR _ _ ⟨_, v, rfl, v0, v3, O5.kp _ _ la lg e4, L4.ofP O5, T5⟩
    · rw [if_neg hk0]
      refine ⟨_, g, _, rfl, by omega, by omega, T4, fun r m5 a5 b5 O5 T5 => ?_⟩
      exact hR _ _ ⟨_, r, rfl, a5, by omega, O5.kp _ _ la lg e4, L4.ofP O5, T5⟩
  rintro s' m5 ⟨c6, v, rfl, v0, v3, e5, L5, T5⟩
  obtain ⟨n, rfl⟩ : ∃ j, n = j + 1 := ⟨n - 1, by omega⟩
  walk_at "pd"
  by_cases hv0 : v = 0
  · rw [if_pos hv0]
    intro p hp
    refine ⟨_, rfl, ?_⟩
    rw [md_id hp]
    refine ⟨a, g, l, (["number", "text"] : List Str), ns, ls, k, rfl, hn, k0, by omega, by decide, hl, la, lg, e5, T5, fun j ls1 m6 hl1 e6 L6 T6 => ?_⟩
    unfold jD
    walk_at "pd"
    rw [show ((room : Int) - 1) = ((room - 1 : Nat) : Int) by omega]
    exact hs _ _ _ ⟨n, rfl, a, g, l, ns, ls1, k, room - 1, rfl, by omega, by omega, by omega, hn, k0, k1, by omega, la, lg, e6, T6, fun x ls2 m7 hx hl2 e7 L7 T7 => ⟨_, PD.Sub.refl _, h (.each j.1 x) ls2 m7 (by show sizeA x + 1 + 2 ≤ _; omega) (by omega) e7 ((L5.trans L6).trans L7) T7⟩⟩
  rw [if_neg hv0]
  by_cases hv1 : v = 1
  · rw [if_pos hv1]
    refine ⟨_, g, _, rfl, by omega, by omega, T5, fun r m6 a6 b6 O6 T6 => ?_⟩
    have e6 := O6.kp _ _ la lg e5
    obtain ⟨i, rfl⟩ := Int.eq_ofNat_of_zero_le a6
    walk_at "pd"
    rw [show (1 : Int) + (i : Int) = ((1 + i : Nat) : Int) by omega]
    refine hs _ _ _ ⟨n, rfl, a, g, l, ns, ls, k, 1 + i, rfl, by omega, by omega, by omega, hn, k0, k1, hl, la, lg, e6, T6, fun x ls1 m7 hx hl1 e7 L7 T7 => ?_⟩
    walk_at "pd"
    rw [show ((room : Int) - ((1 + i : Nat) : Int)) = ((room - (1 + i) : Nat) : Int) by omega]
    exact hs _ _ _ ⟨n, rfl, a, g, l, ns, ls1, k, room - (1 + i), rfl, by omega, by omega, by omega, hn, k0, k1, by omega, la, lg, e7, T7, fun y ls2 m8 hy hl2 e8 L8 T8 => ⟨_, PD.Sub.refl _, h (.two .beside x y) ls2 m8 (by show sizeA x + sizeA y + 1 + 2 ≤ _; omega) (by omega) e8 (((L5.ofP O6).trans L7).trans L8) T8⟩⟩
  rw [if_neg hv1]
  intro q hq
  have hqm := L5.al _ hq
  have ql : l ≠ q := fun e => by rw [← e, e5] at hq; cases hq
  obtain ⟨qa, qg⟩ := T5.ne hq
  refine ⟨by omega, by omega, ?_⟩
  obtain ⟨j0, ej0⟩ : ∃ j : Nat, v - 1 = (j : Int) := ⟨(v - 1).toNat, by omega⟩
  rw [ej0, Int.toNat_natCast]
  refine loop_range (fun i s' m' => ∃ (as : List Ak) (ls1 : List (Str × Str)) (c9 c10 c11 c12 c13 : Option D), as.length = i ∧ (∀ x ∈ as, sizeA x ≤ 2) ∧ s' = [some (.ref a), some (.int (room : Int)), some (.ref l), some (.int k), some (.rol (ns.map .str)), some (.int (n1 : Int)), c6, some (.int v), some (.ref q), c9, c10, c11, c12, c13] ∧ m' q = some (.lst (as.map akD)) ∧ ls1.length ≤ ls.length ∧ m' l = some (.lst (ls1.map jD)) ∧ OfL a g l m1 m' ∧ Tp m' a g) ?_ ?_ ⟨[], ls, _, _, _, _, _, rfl, fun _ h => (List.not_mem_nil h).elim, rfl, mset_same, Nat.le_refl _, by rw [mset_ne ql]; exact e5, L5.new hqm, T5.new hq⟩
  · rintro i s' m6 R hi hR ⟨as, ls1, c9, c10, c11, c12, c13, al, asz, rfl, eq6, hl1, e6, L6, T6⟩
    refine ⟨trivial, ?_⟩
    walk_at "pd"
    intro p hp
    refine ⟨_, rfl, ?_⟩
    rw [md_id hp]
    refine ⟨a, g, l, (["number"] : List Str), ns, ls1, k, rfl, hn, k0, by omega, by decide, by omega, la, lg, e6, T6, fun j ls2 m7 hl2 e7 L7 T7 => ?_⟩
    have eq7 := L7.kp _ _ qa qg (Ne.symm ql) eq6
    -- the side is put there
    have fin : ∀ (x : Ak) m8 c, sizeA x ≤ 2 → OfL a g l m1 m8 → Tp m8 a g → m8 q = some (.lst (as.map akD)) → m8 l = some (.lst (ls2.map jD)) → R [some (.ref a), some (.int (room : Int)), some (.ref l), some (.int k), some (.rol (ns.map .str)), some (.int (n1 : Int)), c6, some (.int v), some (.ref q), some (.int (i : Int)), some (jD j), c11, c12, c] (mset m8 q (.lst (as.map akD ++ [akD x]))) := fun x m8 c hx L8 T8 eq8 e8 =>
      hR _ _ ⟨as ++ [x], ls2, _, _, _, _, _, by rw [List.length_append, al]; rfl, fun y hy => (List.mem_append.mp hy).elim (asz y) fun h => by rw [List.mem_singleton.mp h]; exact hx, rfl, by rw [mset_same, List.map_append]; rfl, by omega, by rw [mset_ne ql]; exact e8, L8.new hqm, T8.setp qa qg⟩
    have ll : (as.map akD).length < sizeLine := by rw [List.length_map]; exact Nat.lt_of_lt_of_le (by omega : as.length < 10) (by decide)
    intro p2 hp2
    have lp2 : l ≠ p2 := fun e => by rw [← e, e7] at hp2; cases hp2
    have qp2 : q ≠ p2 := fun e => by rw [← e, eq7] at hp2; cases hp2
    refine ⟨_, g, _, rfl, by omega, by omega, T7.new hp2, fun r m8 a8 b8 O8 T8 => ?_⟩
    have e8 := O8.kp l _ la lg (show mset m7 p2 _ l = some (.lst (ls2.map jD)) by rw [mset_ne lp2]; exact e7)
    have eq8 := O8.kp q _ qa qg (show mset m7 p2 _ q = some (.lst (as.map akD)) by rw [mset_ne qp2]; exact eq7)
    have ep8 := O8.kp p2 _ (T7.ne hp2).1 (T7.ne hp2).2 mset_same
    have L8 := ((L6.trans L7).new ((L6.trans L7).al _ hp2)).ofP O8
    obtain ⟨w1, hw1, hw2⟩ : ∃ w1 : W1, atI [D.str "least", D.str "greatest"] r = some (.str w1.s) ∧ (w1 = .least ∨ w1 = .greatest) := by
      rcases (by omega : r = 0 ∨ r = 1) with rfl | rfl
      · exact ⟨.least, rfl, .inl rfl⟩
      · exact ⟨.greatest, rfl, .inr rfl⟩
    refine dIx_seq (seqOf_ref ep8) hw1 ?_
    refine dIx_seq (show seqOf m8 (jD j) = some [.str j.1, .str j.2] from rfl) (show atI [D.str j.1, .str j.2] 0 = some (.str j.1) from rfl) ?_
    by_cases hk2 : 0 < k
    · rw [if_pos hk2]
      refine ⟨.inl ⟨by omega, by omega⟩, _, g, _, rfl, by omega, by omega, T8, fun r2 m9 a9 b9 O9 T9 => ?_⟩
      have e9 := O9.kp _ _ la lg e8
      have eq9 := O9.kp _ _ qa qg eq8
      by_cases hr : r2 = 0
      · refine ⟨true, by rw [hr]; rfl, ?_⟩
        rw [if_pos rfl]
        exact ⟨a, g, j, rfl, T9, fun x m10 hx O10 T10 => ⟨⟨_, _, lstOf_ref (O10.kp _ _ qa qg eq9)⟩, q, _, lstOf_ref (O10.kp _ _ qa qg eq9), ll, fin x m10 _ hx ((L8.ofP O9).ofP O10) T10 (O10.kp _ _ qa qg eq9) (O10.kp _ _ la lg e9)⟩⟩
      · refine ⟨false, by rw [eqK_ii]; exact congrArg some (beq_eq_false_iff_ne.mpr hr), ?_⟩
        rw [if_neg (by decide)]
        exact ⟨⟨_, _, lstOf_ref eq9⟩, q, _, lstOf_ref eq9, ll, fin (.one w1 j.1) m9 _ (by show 1 ≤ 2; omega) (L8.ofP O9) T9 eq9 e9⟩
    · rw [if_neg hk2]
      exact ⟨⟨_, _, lstOf_ref eq8⟩, q, _, lstOf_ref eq8, ll, fin (.one w1 j.1) m8 _ (by show 1 ≤ 2; omega) L8 T8 eq8 e8⟩
  · rintro s' m6 ⟨as, ls1, c9, c10, c11, c12, c13, al, asz, rfl, eq6, hl1, e6, L6, T6⟩
    refine ⟨trivial, ?_⟩
    walk_at "pd"
    by_cases hv3 : v = 3
    · rw [if_pos hv3]
      match as, al with
      | [x, y], _ => exact ⟨_, seqOf_ref eq6, _, rfl, _, seqOf_ref eq6, _, rfl, _, PD.Sub.refl _, h (.two .against x y) ls1 m6 (by have := asz x (by simp); have := asz y (by simp); show sizeA x + sizeA y + 1 + 2 ≤ _; omega) hl1 e6 L6 T6⟩
      | [], z => exact absurd z (by simp; omega)
      | [x], z => exact absurd z (by simp; omega)
      | x :: y :: t :: r, z => exact absurd z (by simp; omega)
    · rw [if_neg hv3]
      match as, al with
      | [x], _ =>
        refine ⟨_, seqOf_ref eq6, _, rfl, ?_⟩
        walk_at "w"
        rw [show ((room : Int) - 1) = ((room - 1 : Nat) : Int) by omega]
        exact hs _ _ _ ⟨n, rfl, a, g, l, ns, ls1, k, room - 1, rfl, by omega, by omega, by omega, hn, k0, k1, by omega, la, lg, e6, T6, fun y ls2 m7 hy hl2 e7 L7 T7 => ⟨_, PD.Sub.refl _, h (.two .thn x y) ls2 m7 (by have := asz x (by simp); show sizeA x + sizeA y + 1 + 2 ≤ _; omega) (by omega) e7 (L6.trans L7) T7⟩⟩
      | [], z => exact absurd z (by simp; omega)
      | x :: y :: r, z => exact absurd z (by simp; omega)
theorem wish_all (T : Txt K mg) (G__law_pick : FnOk P w K mg base CX0 1 T.f__law_pick T.fd__law_pick ["_law_pool", "_law_many"] (spL K 2 sp__law_pick))
    (G__law_right : FnOk P w K mg base CX0 3 T.f__law_right T.fd__law_right ["_law_pool", "_law_judge"] (spL K 2 sp__law_right))
    (G__law_taken : FnOk P w K mg base CX0 2 T.f__law_taken T.fd__law_taken ["_law_pool", "_law_left", "_law_sorts", "_law_noise", "_law_names_here"] (spL K 5 sp__law_taken))
    (G__law_basic : FnOk P w K mg base CX0 2 T.f__law_basic T.fd__law_basic ["_law_pool", "_law_name", "_law_what"] (spL K 3 sp__law_basic)) :
    ∀ n, FnOk P w K mg base CX0 (n + 4) T.f__law_wish T.fd__law_wish ["_law_pool", "_law_room", "_law_left", "_law_noise", "_law_names_here"] (spL K 5 (sp__law_wish n))
  | 0 => wish_turn (k := 3) (sq := fun _ _ _ => False) (Nat.le_refl _) T (fun ds m Q ⟨_, h, _⟩ => by cases h) FnOk_falso G__law_pick G__law_right G__law_taken G__law_basic
  | n + 1 => wish_turn (k := n + 4) (by omega) T (fun ds m Q ⟨j, h, hx⟩ => by cases h; exact hx) (wish_all T G__law_pick G__law_right G__law_taken G__law_basic n) G__law_pick G__law_right G__law_taken G__law_basic
end
theorem jd_ix {j : Str × Str} {m : Mu} {z : DK} (h : z (.str j.1) m) : dIx (jD j) (.int 0) m z := dIx_seq (show seqOf m (jD j) = some [.str j.1, .str j.2] from rfl) (show atI [D.str j.1, .str j.2] 0 = some (.str j.1) from rfl) h
section
variable {P : Program} {w : World} {K : PySem.W.Frag} {mg : Str → Option Value} {base : Heap}
def sp__law_framed : SpD := fun ds m Q => ∃ (a g : Addr) (x : Ak) (n : Str) (ks : List (Str × Str)), ds = [.ref a, akD x, .str n, .rol (ks.map jD)] ∧ sizeA x ≤ 2 ∧ ks.length ≤ 8 ∧ Tp m a g ∧ ∀ (y : Ak) m', sizeA y ≤ 12 → OfP a g m m' → Tp m' a g → Q (akD y) m'
theorem ok__law_framed  (T : Txt K mg) (G__law_pick : FnOk P w K mg base CX0 (1) T.f__law_pick T.fd__law_pick ["_law_pool", "_law_many"] (spL K 2 sp__law_pick)) (G__law_right : FnOk P w K mg base CX0 (3) T.f__law_right T.fd__law_right ["_law_pool", "_law_judge"] (spL K 2 sp__law_right)) : FnOk P w K mg base CX0 (4) T.f__law_framed T.fd__law_framed ["_law_pool", "_law_one", "_law_name", "_law_known"] (spL K 4 sp__law_framed) := by
  refine fn_ok T.F__law_framed sc__law_framed (fun cdv A outer s H E hr =>
(gss_cons (gs_set (i := 4) sc__law_framed.nd rfl (.inr rfl) (ge_op op_addL lr_addL (ge_lc (own := [("_law_judge", 11)]) rfl sc__law_framed.nd (gi_seq (gv 3)) (blkOk_by (N := N__law_framed) (sc := defScope s__law_framed) (by decide +kernel)) (fun _ _ _ _ _ => (gg_name (i := 11) sc__law_framed.nd rfl (.inl rfl))) (fun _ _ _ _ _ => (gts_one (gw_and (gt_cmpR (op_neS hr.units) lr_ne (ge_ix (gv 11) ge_int) (gv 2) (nomark _)) (gw_and1 (gt_cmpR (op_eqS hr.units) lr_eq (ge_ix (gv 11) ge_int) ge_str (nomark _)))).gt)) (fun _ _ _ _ _ => (ge_ix (gv 11) ge_int)) (by decide)) (ge_lst (ga_cons ge_str ga_nil))))
 (gss_cons (gs_set (i := 5) sc__law_framed.nd rfl (.inl rfl) (ge_tup (ga_cons (ge_ix (ge_lst (ga_cons ge_str (ga_cons ge_str ga_nil))) (ge_call G__law_pick (hr.mono (by omega)) (by rfl) T.g__law_pick T.F__law_pick.kp T.b__law_pick (ga_cons (gv 0) (ga_cons ge_int ga_nil)))) (ga_cons (ge_ix (gv 4) ge_int) ga_nil))))
 (gss_cons (gs_set (i := 6) sc__law_framed.nd rfl (.inl rfl) (ge_tup (ga_cons ge_str ga_nil)))
 (gss_cons (gs_set (i := 7) sc__law_framed.nd rfl (.inl rfl) (ge_lst (ga_cons (ge_tup (ga_cons ge_str (ga_cons (gv 1) (ga_cons (gv 6) ga_nil)))) (ga_cons (ge_tup (ga_cons ge_str (ga_cons (gv 1) (ga_cons (gv 5) ga_nil)))) (ga_cons (ge_tup (ga_cons ge_str (ga_cons (gv 5) (ga_cons (gv 1) ga_nil)))) (ga_cons (ge_tup (ga_cons ge_str (ga_cons (gv 1) (ga_cons (gv 1) ga_nil)))) (ga_cons (ge_tup (ga_cons ge_str (ga_cons (ge_ix (gv 4) ge_int) (ga_cons (gv 1) ga_nil)))) ga_nil)))))))
 (gss_cons (gs_set (i := 7) sc__law_framed.nd rfl (.inl rfl) (ge_op op_addL lr_addL (gv 7) (ge_lst (ga_cons (ge_tup (ga_cons ge_str (ga_cons (gv 1) (ga_cons (ge_tup (ga_cons ge_str (ga_cons (gv 5) (ga_cons (gv 1) ga_nil)))) ga_nil)))) (ga_cons (ge_tup (ga_cons ge_str (ga_cons (gv 6) (ga_cons (ge_tup (ga_cons ge_str (ga_cons (gv 1) (ga_cons (gv 6) ga_nil)))) ga_nil)))) (ga_cons (ge_tup (ga_cons ge_str (ga_cons (gv 2) (ga_cons (gv 1) ga_nil)))) ga_nil))))))
 (gss_cons (gs_set (i := 7) sc__law_framed.nd rfl (.inl rfl) (ge_op op_addL lr_addL (gv 7) (ge_lst (ga_cons (ge_tup (ga_cons ge_str (ga_cons (gv 5) (ga_cons (ge_tup (ga_cons ge_str (ga_cons (gv 6) (ga_cons (gv 1) ga_nil)))) ga_nil)))) (ga_cons (ge_tup (ga_cons ge_str (ga_cons (gv 2) (ga_cons (ge_tup (ga_cons ge_str (ga_cons (gv 6) (ga_cons (gv 6) ga_nil)))) ga_nil)))) (ga_cons (ge_tup (ga_cons ge_str (ga_cons (gv 1) (ga_cons (gv 5) ga_nil)))) ga_nil))))))
 (gss_cons (gs_set (i := 8) sc__law_framed.nd rfl (.inl rfl) (ge_ix (gv 7) (ge_call G__law_pick (hr.mono (by omega)) (by rfl) T.g__law_pick T.F__law_pick.kp T.b__law_pick (ga_cons (gv 0) (ga_cons ge_int ga_nil)))))
 (gss_cons (gs_if (gt_cmpR (op_eqS hr.units) lr_eq (ge_call G__law_pick (hr.mono (by omega)) (by rfl) T.g__law_pick T.F__law_pick.kp T.b__law_pick (ga_cons (gv 0) (ga_cons ge_int ga_nil))) ge_int (nomark _))
 (gss_one (gs_ret (gv 8)))
 gss_nil)
 (gss_cons (gs_set (i := 9) sc__law_framed.nd rfl (.inl rfl) (ge_op op_addL lr_addL (ge_lc (own := [("_law_judge", 11)]) rfl sc__law_framed.nd (gi_seq (gv 3)) (blkOk_by (N := N__law_framed) (sc := defScope s__law_framed) (by decide +kernel)) (fun _ _ _ _ _ => (gg_name (i := 11) sc__law_framed.nd rfl (.inl rfl))) (fun _ _ _ _ _ => (gts_one (gw_and (gt_cmpR (op_neS hr.units) lr_ne (ge_ix (gv 11) ge_int) (gv 2) (nomark _)) (gw_and1 (gt_cmpR (op_neS hr.units) lr_ne (ge_ix (gv 11) ge_int) (ge_ix (gv 4) ge_int) (nomark _)))).gt)) (fun _ _ _ _ _ => (gv 11)) (by decide)) (ge_lst (ga_cons (ge_tup (ga_cons ge_str (ga_cons ge_str ga_nil))) ga_nil))))
 (gss_cons (gs_set (i := 10) sc__law_framed.nd rfl (.inl rfl) (ge_call G__law_right (hr.mono (by omega)) (by rfl) T.g__law_right T.F__law_right.kp T.b__law_right (ga_cons (gv 0) (ga_cons (ge_ix (gv 9) ge_int) ga_nil))))
 (gss_one (gs_ret (ge_ix (ge_lst (ga_cons (ge_tup (ga_cons ge_str (ga_cons (gv 10) (ga_cons (gv 8) ga_nil)))) (ga_cons (ge_tup (ga_cons ge_str (ga_cons (gv 8) (ga_cons (gv 10) ga_nil)))) (ga_cons (ge_tup (ga_cons ge_str (ga_cons (ge_ix (ge_ix (gv 9) ge_int) ge_int) (ga_cons (gv 8) ga_nil)))) ga_nil)))) (ge_call G__law_pick (hr.mono (by omega)) (by rfl) T.g__law_pick T.F__law_pick.kp T.b__law_pick (ga_cons (gv 0) (ga_cons ge_int ga_nil))))))))))))))))) (fun ds m Q h => ?_)
  obtain ⟨a, g, x, n, ks, rfl, hx, hk, hT, h⟩ := h
  rw [show startD N__law_framed [.ref a, akD x, .str n, .rol (ks.map jD)] = [some (.ref a), some (akD x), some (.str n), some (.rol (ks.map jD)), none, none, none, none, none, none, none, none] from rfl]
  refine seq_cut (fun s' m' => ∃ (o : Addr) (os : List Str), s' = [some (.ref a), some (akD x), some (.str n), some (.rol (ks.map jD)), some (.ref o), none, none, none, none, none, none, none] ∧ o ≠ a ∧ o ≠ g ∧ os ≠ [] ∧ m' o = some (.lst (os.map .str)) ∧ OfP a g m m' ∧ Tp m' a g) (fun R hR => ?_) ?_
  · walk_at "pd"
    intro p hp
    refine comp_pT (us := ks) jD (fun j => .str j.1) (fun j => decide (j.1 ≠ n) && isNm j) (fun _ => trivial) (by omega) (fun j hj acc R1 R2 k1 k2 => ?_) ?_
    · unfold jD
      walk_at "pd"
      unfold isNm at k1 k2
      by_cases z1 : j.1 = n
      · rw [if_neg (by simpa using z1)]
        exact k2 (by simp [z1])
      · rw [if_pos (by simpa using z1)]
        by_cases z2 : j.2 = ("number" : Str)
        · rw [if_pos z2]; exact k1 (by simp [z1, z2])
        · rw [if_neg z2]; exact k2 (by simp [z2])
    have hgl : (ks.filter (fun j => decide (j.1 ≠ n) && isNm j)).length ≤ 8 := Nat.le_trans (List.length_filter_le _ _) hk
    generalize ks.filter (fun j => decide (j.1 ≠ n) && isNm j) = gs at hgl
    intro q hq
    obtain ⟨q1, qp⟩ := mset_none hq
    walk_at "pd"
    refine ⟨_, _, lsq_ref (by rw [mset_ne (Ne.symm qp)]; exact mset_same), lsq_ref mset_same, by rw [List.length_map]; exact Nat.le_trans (show gs.length + 1 ≤ 9 by omega) (by decide), fun o ho => ?_⟩
    obtain ⟨o1, oq⟩ := mset_none ho
    obtain ⟨o2, op⟩ := mset_none o1
    have TT := Tp.new (o := .lst [.str "w"]) (Tp.new (o := .lst (gs.map fun j => .str j.1)) hT hp) hq
    exact hR _ _ ⟨o, gs.map (·.1) ++ [("w" : Str)], rfl, (TT.ne ho).1, (TT.ne ho).2, by simp, by rw [mset_same, List.map_append, List.map_map]; rfl, (((OfP.refl a g m).new hp).new q1).new o2, TT.new ho⟩
  rintro s' m1 ⟨o, os, rfl, oa, og, one, eo, O1, T1⟩
  obtain ⟨o0, os, rfl⟩ : ∃ o0 os', os = o0 :: os' := by
    cases os with
    | nil => exact absurd rfl one
    | cons x xs => exact ⟨x, xs, rfl⟩
  refine seq_cut (fun s' m' => ∃ (two : Ak), s' = [some (.ref a), some (akD x), some (.str n), some (.rol (ks.map jD)), some (.ref o), some (akD two), none, none, none, none, none, none] ∧ sizeA two = 1 ∧ m' o = some (.lst ((o0 :: os).map .str)) ∧ OfP a g m m' ∧ Tp m' a g) (fun R hR => ?_) ?_
  · walk_at "pd"
    intro p hp
    refine ⟨_, g, _, rfl, by omega, by omega, T1.new hp, fun r m2 a2 b2 O2 T2 => ?_⟩
    have ep := O2.kp _ _ (T1.ne hp).1 (T1.ne hp).2 mset_same
    have eo2 := O2.kp o _ oa og (show mset m1 p _ o = some (.lst ((o0 :: os).map .str)) by rw [mset_ne (fun e => by rw [← e, eo] at hp; cases hp)]; exact eo)
    obtain ⟨w1, hw1⟩ : ∃ w1 : W1, atI [D.str "least", D.str "greatest"] r = some (.str w1.s) := by
      rcases (by omega : r = 0 ∨ r = 1) with rfl | rfl
      · exact ⟨.least, rfl⟩
      · exact ⟨.greatest, rfl⟩
    refine dIx_seq (seqOf_ref ep) hw1 ?_
    exact ⟨_, seqOf_ref eo2, _, (show atI (D.str o0 :: os.map D.str) 0 = some (D.str o0) from atI_0), hR _ _ ⟨.one w1 o0, rfl, rfl, eo2, (O1.new (O1.al _ hp)).trans O2, T2⟩⟩
  rintro s' m2 ⟨two, rfl, hw2, eo, OO, TT0⟩
  refine seq_cut (fun s' m' => s' = [some (.ref a), some (akD x), some (.str n), some (.rol (ks.map jD)), some (.ref o), some (akD two), some (akD .fst), none, none, none, none, none] ∧ m' = m2) (fun R hR => ?_) ?_
  · walk_at "pd"
    exact hR _ _ ⟨rfl, rfl⟩
  rintro s' m3 ⟨rfl, rfl⟩
  refine seq_cut (fun s' m' => ∃ (f : Addr) (fs : List Ak), s' = [some (.ref a), some (akD x), some (.str n), some (.rol (ks.map jD)), some (.ref o), some (akD two), some (akD .fst), some (.ref f), none, none, none, none] ∧ m' o = some (.lst ((o0 :: os).map .str)) ∧ m' f = some (.lst (fs.map akD)) ∧ fs.length = 5 ∧ (∀ y ∈ fs, sizeA y ≤ 7) ∧ f ≠ a ∧ f ≠ g ∧ OfP a g m m' ∧ Tp m' a g) (fun R hR => ?_) ?_
  · walk_at "pd"
    refine ⟨_, seqOf_ref eo, _, (show atI (D.str o0 :: os.map D.str) 0 = some (D.str o0) from atI_0), fun p hp => ?_⟩
    refine hR _ _ ⟨p, [.two .thn x .fst, .two .against x two, .two .against two x, .two .beside x x, .each o0 x], rfl, by rw [mset_ne (fun e => by rw [← e, eo] at hp; cases hp)]; exact eo, mset_same, rfl, fun y hy => ?_, (TT0.ne hp).1, (TT0.ne hp).2, OO.new (OO.al _ hp), TT0.new hp⟩
    simp only [List.mem_cons, List.not_mem_nil, or_false] at hy
    rcases hy with rfl | rfl | rfl | rfl | rfl <;> simp only [sizeA, hw2] <;> omega
  rintro s' m4 ⟨f, fs, rfl, eo, ef, fl, fz, fa, fg, OO, TT0⟩
  refine seq_cut (fun s' m' => ∃ (f : Addr) (fs : List Ak), s' = [some (.ref a), some (akD x), some (.str n), some (.rol (ks.map jD)), some (.ref o), some (akD two), some (akD .fst), some (.ref f), none, none, none, none] ∧ m' o = some (.lst ((o0 :: os).map .str)) ∧ m' f = some (.lst (fs.map akD)) ∧ fs.length = 8 ∧ (∀ y ∈ fs, sizeA y ≤ 7) ∧ f ≠ a ∧ f ≠ g ∧ OfP a g m m' ∧ Tp m' a g) (fun R hR => ?_) ?_
  · walk_at "pd"
    intro p hp
    refine ⟨_, _, lsq_ref (by rw [mset_ne (fun e => by rw [← e, ef] at hp; cases hp)]; exact ef), lsq_ref mset_same, by rw [List.length_map, fl]; exact (by decide : 5 + 3 ≤ sizeLine), fun q hq => ?_⟩
    obtain ⟨q1, qp⟩ := mset_none hq
    have TT := Tp.new (o := .lst [akD (.two .beside x (.two .beside two x)), akD (.two .beside .fst (.two .beside x .fst)), akD (.each n x)]) TT0 hp
    refine hR _ _ ⟨q, fs ++ [.two .beside x (.two .beside two x), .two .beside .fst (.two .beside x .fst), .each n x], rfl, by rw [mset_ne (fun e => by rw [← e, eo] at q1; cases q1), mset_ne (fun e => by rw [← e, eo] at hp; cases hp)]; exact eo, by rw [mset_same, List.map_append]; rfl, by rw [List.length_append, fl]; rfl, fun y hy => ?_, (TT.ne hq).1, (TT.ne hq).2, (OO.new (OO.al _ hp)).new (OO.al _ q1), TT.new hq⟩
    rcases List.mem_append.mp hy with hy | hy
    · exact fz y hy
    · simp only [List.mem_cons, List.not_mem_nil, or_false] at hy
      rcases hy with rfl | rfl | rfl <;> simp only [sizeA, hw2] <;> omega
  rintro s' m5 ⟨f, fs, rfl, eo, ef, fl, fz, fa, fg, OO, TT0⟩
  refine seq_cut (fun s' m' => ∃ (f : Addr) (fs : List Ak), s' = [some (.ref a), some (akD x), some (.str n), some (.rol (ks.map jD)), some (.ref o), some (akD two), some (akD .fst), some (.ref f), none, none, none, none] ∧ m' o = some (.lst ((o0 :: os).map .str)) ∧ m' f = some (.lst (fs.map akD)) ∧ fs.length = 11 ∧ (∀ y ∈ fs, sizeA y ≤ 7) ∧ f ≠ a ∧ f ≠ g ∧ OfP a g m m' ∧ Tp m' a g) (fun R hR => ?_) ?_
  · walk_at "pd"
    intro p hp
    refine ⟨_, _, lsq_ref (by rw [mset_ne (fun e => by rw [← e, ef] at hp; cases hp)]; exact ef), lsq_ref mset_same, by rw [List.length_map, fl]; exact (by decide : 8 + 3 ≤ sizeLine), fun q hq => ?_⟩
    obtain ⟨q1, qp⟩ := mset_none hq
    have TT := Tp.new (o := .lst [akD (.two .thn two (.two .beside .fst x)), akD (.each n (.two .beside .fst .fst)), akD (.two .beside x two)]) TT0 hp
    refine hR _ _ ⟨q, fs ++ [.two .thn two (.two .beside .fst x), .each n (.two .beside .fst .fst), .two .beside x two], rfl, by rw [mset_ne (fun e => by rw [← e, eo] at q1; cases q1), mset_ne (fun e => by rw [← e, eo] at hp; cases hp)]; exact eo, by rw [mset_same, List.map_append]; rfl, by rw [List.length_append, fl]; rfl, fun y hy => ?_, (TT.ne hq).1, (TT.ne hq).2, (OO.new (OO.al _ hp)).new (OO.al _ q1), TT.new hq⟩
    rcases List.mem_append.mp hy with hy | hy
    · exact fz y hy
    · simp only [List.mem_cons, List.not_mem_nil, or_false] at hy
      rcases hy with rfl | rfl | rfl <;> simp only [sizeA, hw2] <;> omega
  rintro s' m5 ⟨f, fs, rfl, eo, ef, fl, fz, fa, fg, OO, TT0⟩
  refine seq_cut (fun s' m' => ∃ (y : Ak) (c7 : Option D), s' = [some (.ref a), some (akD x), some (.str n), some (.rol (ks.map jD)), some (.ref o), some (akD two), some (akD .fst), c7, some (akD y), none, none, none] ∧ sizeA y ≤ 7 ∧ m' o = some (.lst ((o0 :: os).map .str)) ∧ OfP a g m m' ∧ Tp m' a g) (fun R hR => ?_) ?_
  · walk_at "pd"
    refine ⟨_, g, _, rfl, by omega, by omega, TT0, fun r m6 a6 b6 O6 T6 => ?_⟩
    obtain ⟨i, rfl⟩ := Int.eq_ofNat_of_zero_le a6
    have hi : i < fs.length := by omega
    refine dIx_seq (seqOf_ref (O6.kp _ _ fa fg ef)) (atI_map (f := akD) (List.getElem?_eq_getElem hi)) ?_
    exact hR _ _ ⟨fs[i], _, rfl, fz _ (List.getElem_mem hi), O6.kp _ _ oa og eo, OO.trans O6, T6⟩
  rintro s' m6 ⟨y, c7, rfl, hy7, eo, OO, TT0⟩
  walk_at "pd"
  refine ⟨_, g, _, rfl, by omega, by omega, TT0, fun r m7 a7 b7 O7 T7 => ?_⟩
  have eo7 := O7.kp _ _ oa og eo
  dsimp only
  have OO7 := OO.trans O7
  by_cases hr : r = 0
  · refine ⟨true, by rw [hr]; rfl, ?_⟩
    rw [if_pos rfl]
    exact ⟨_, PD.Sub.refl _, h y m7 (by omega) OO7 T7⟩
  refine ⟨false, by rw [eqK_ii]; exact congrArg some (beq_eq_false_iff_ne.mpr hr), ?_⟩
  rw [if_neg (by decide)]
  intro p hp
  have op : o ≠ p := fun e => by rw [← e, eo7] at hp; cases hp
  refine comp_pT (us := ks) jD jD (fun j => decide (j.1 ≠ n) && decide (j.1 ≠ o0)) (fun _ => trivial) (by omega) (fun j hj acc R1 R2 k1 k2 => ?_) ?_
  · walk_at "pd"
    refine jd_ix ⟨_, eqK_ss, ?_⟩
    by_cases z1 : j.1 = n
    · rw [if_neg (by simpa using z1)]
      exact k2 (by simp [z1])
    · rw [if_pos (by simpa using z1)]
      refine jd_ix ⟨_, seqOf_ref (by rw [mset_ne op]; exact eo7), _, (show atI (D.str o0 :: os.map D.str) 0 = some (D.str o0) from atI_0), _, eqK_ss, ?_⟩
      by_cases z2 : j.1 = o0
      · rw [if_neg (by simpa using z2)]
        exact k2 (by simp [z2])
      · rw [if_pos (by simpa using z2)]
        exact k1 (by simp [z1, z2])
  have hgl : (ks.filter (fun j => decide (j.1 ≠ n) && decide (j.1 ≠ o0))).length ≤ 8 := Nat.le_trans (List.length_filter_le _ _) hk
  generalize ks.filter (fun j => decide (j.1 ≠ n) && decide (j.1 ≠ o0)) = gs at hgl
  intro q hq
  obtain ⟨q1, qp⟩ := mset_none hq
  walk_at "pd"
  refine ⟨_, _, lsq_ref (by rw [mset_ne (Ne.symm qp)]; exact mset_same), lsq_ref mset_same, by rw [List.length_map]; exact Nat.le_trans (show gs.length + 1 ≤ 9 by omega) (by decide), fun u hu => ?_⟩
  obtain ⟨u1, uq⟩ := mset_none hu
  obtain ⟨u2, up⟩ := mset_none u1
  rw [show (gs.map jD ++ [D.tup [.str "w", .str "number"]]) = (gs ++ [(("w" : Str), ("number" : Str))]).map jD from by rw [List.map_append]; rfl]
  obtain ⟨j0, js, ejs⟩ : ∃ j0 js, gs ++ [(("w" : Str), ("number" : Str))] = j0 :: js := by
    cases gs with
    | nil => exact ⟨_, _, rfl⟩
    | cons x xs => exact ⟨_, _, rfl⟩
  rw [ejs]
  have TT := Tp.new (o := .lst [.tup [.str "w", .str "number"]]) (Tp.new (o := .lst (gs.map jD)) T7 hp) hq
  have O8 : ∀ x3, OfP a g m (mset (mset (mset m7 p (.lst (gs.map jD))) q (.lst [.tup [.str "w", .str "number"]])) u x3) := fun x3 => ((OO7.new (OO7.al _ hp)).new (OO7.al _ q1)).new (OO7.al _ u2)
  have T8 := fun x3 : MO => Tp.new (o := x3) TT hu
  replace O8 := O8 (.lst ((j0 :: js).map jD))
  replace T8 := T8 (.lst ((j0 :: js).map jD))
  have eu : mset (mset (mset m7 p (.lst (gs.map jD))) q (.lst [.tup [.str "w", .str "number"]])) u (.lst ((j0 :: js).map jD)) u = some (.lst ((j0 :: js).map jD)) := mset_same
  obtain ⟨ua, ug⟩ := TT.ne hu
  generalize mset (mset (mset m7 p (.lst (gs.map jD))) q (.lst [.tup [.str "w", .str "number"]])) u (.lst ((j0 :: js).map jD)) = m8 at *
  refine ⟨_, seqOf_ref eu, _, (show atI (jD j0 :: js.map jD) 0 = some (jD j0) from atI_0), ?_⟩
  refine ⟨a, g, j0, rfl, T8, fun z m9 hz O9 T9 => ?_⟩
  have eu9 := O9.kp _ _ ua ug eu
  dsimp only
  refine ⟨_, seqOf_ref eu9, _, (show atI (jD j0 :: js.map jD) 0 = some (jD j0) from atI_0), jd_ix fun v hv => ?_⟩
  refine ⟨_, g, _, rfl, by omega, by omega, T9.new hv, fun r3 m10 a10 b10 O10 T10 => ?_⟩
  have ev := O10.kp _ _ (T9.ne hv).1 (T9.ne hv).2 mset_same
  obtain ⟨i, rfl⟩ := Int.eq_ofNat_of_zero_le a10
  have OL := ((O8.trans O9).new ((O8.trans O9).al _ hv)).trans O10
  have hi : i < [Ak.two .beside z y, .two .beside y z, .each j0.1 y].length := by show i < 3; omega
  refine dIx_seq (seqOf_ref ev) (show atI ([Ak.two .beside z y, .two .beside y z, .each j0.1 y].map akD) (i : Int) = some (akD [Ak.two .beside z y, .two .beside y z, .each j0.1 y][i]) from atI_map (f := akD) (List.getElem?_eq_getElem hi)) ⟨_, PD.Sub.refl _, h _ m10 ?_ OL T10⟩
  have hs : ∀ t ∈ [Ak.two .beside z y, .two .beside y z, .each j0.1 y], sizeA t ≤ 12 := fun t ht => by
    simp only [List.mem_cons, List.not_mem_nil, or_false] at ht
    rcases ht with rfl | rfl | rfl <;> simp only [sizeA] <;> omega
  exact hs _ (List.getElem_mem hi)
end
/-- nothing but one list has changed -/
structure OfQ (q : Addr) (m m' : Mu) : Prop where
  kp : ∀ x o, x ≠ q → m x = some o → m' x = some o
  al : ∀ x, m' x = none → m x = none
theorem OfQ.refl (q : Addr) (m : Mu) : OfQ q m m := ⟨fun _ _ _ e => e, fun _ e => e⟩
theorem OfQ.trans {q : Addr} {m m1 m2 : Mu} (h : OfQ q m m1) (k : OfQ q m1 m2) : OfQ q m m2 := ⟨fun x o n e => k.kp x o n (h.kp x o n e), fun x e => h.al x (k.al x e)⟩
theorem OfQ.set {q : Addr} {m m' : Mu} {o : MO} (h : OfQ q m m') : OfQ q m (mset m' q o) := ⟨fun x u n e => by rw [mset_ne n]; exact h.kp x u n e, fun x e => h.al x (mset_none e).1⟩
theorem OfQ.new {q p : Addr} {m m' : Mu} {o : MO} (h : OfQ q m m') (hp : m p = none) : OfQ q m (mset m' p o) :=
  ⟨fun x u n e => by
    have : x ≠ p := fun z => by rw [z, hp] at e; cases e
    rw [mset_ne this]; exact h.kp x u n e, fun x e => h.al x (mset_none e).1⟩
def headA : Ak → Str
  | .one w _ => w.s
  | .sm w _ _ => w.s
  | .fst => "first"
  | .each _ _ => "each"
  | .two w _ _ => w.s
theorem ak_ix0 {x : Ak} {m : Mu} {z : DK} (h : z (.str (headA x)) m) : dIx (akD x) (.int 0) m z := by
  cases x with
  | one w j => exact dIx_seq (show seqOf m (akD (.one w j)) = some [.str w.s, .str j] from rfl) (show atI [D.str w.s, .str j] 0 = some (.str w.s) from rfl) h
  | sm w n j => exact dIx_seq (show seqOf m (akD (.sm w n j)) = some [.str w.s, .int n, .str j] from rfl) (show atI [D.str w.s, .int n, .str j] 0 = some (.str w.s) from rfl) h
  | fst => exact dIx_seq (show seqOf m (akD .fst) = some [.str "first"] from rfl) (show atI [D.str "first"] 0 = some (.str "first") from rfl) h
  | each j b => exact dIx_seq (show seqOf m (akD (.each j b)) = some [.str "each", .str j, akD b] from rfl) (show atI [D.str "each", .str j, akD b] 0 = some (.str "each") from rfl) h
  | two w a b => exact dIx_seq (show seqOf m (akD (.two w a b)) = some [.str w.s, akD a, akD b] from rfl) (show atI [D.str w.s, akD a, akD b] 0 = some (.str w.s) from rfl) h
def innA : Ak → Bool
  | .each _ _ => true
  | .two _ _ _ => true
  | _ => false
theorem inn1 (w : W1) : inF (.str w.s) [.str "then", .str "beside", .str "against", .str "each"] = false := by cases w <;> decide
theorem inn2 (w : W2) : inF (.str w.s) [.str "then", .str "beside", .str "against", .str "each"] = false := by cases w <;> decide
theorem inn3 (w : W3) : inF (.str w.s) [.str "then", .str "beside", .str "against", .str "each"] = true := by cases w <;> decide
theorem inn_in (x : Ak) : inF (.str (headA x)) [.str "then", .str "beside", .str "against", .str "each"] = innA x := by
  cases x with
  | one w j => exact inn1 w
  | sm w n j => exact inn2 w
  | fst => decide
  | each j b => exact (by decide : inF (.str "each") [.str "then", .str "beside", .str "against", .str "each"] = true)
  | two w a b => exact inn3 w
section
variable {P : Program} {w : World} {K : PySem.W.Frag} {mg : Str → Option Value} {base : Heap}
def sp__law_walk (n : Nat) : SpD := fun ds m Q => ∃ (x : Ak) (q : Addr) (as : List Ak), ds = [akD x, .ref q] ∧ sizeA x ≤ n ∧ as.length + sizeA x ≤ 1000 ∧ m q = some (.lst (as.map akD)) ∧ ∀ m', m' q = some (.lst ((as ++ allA x).map akD)) → OfQ q m m' → Q .non m'
theorem walk_turn {k n : Nat} {sq : SpD} (hk : 1 ≤ k) (T : Txt K mg) (hs : ∀ ds m Q, (∃ j, n = j + 1 ∧ sp__law_walk j ds m Q) → sq ds m Q)
    (G__law_walk : FnOk P w K mg base CX0 k T.f__law_walk T.fd__law_walk ["_law_wish_here", "_law_heard"] (spL K 2 sq)) :
    FnOk P w K mg base CX0 (k + 1) T.f__law_walk T.fd__law_walk ["_law_wish_here", "_law_heard"] (spL K 2 (sp__law_walk n)) := by
  refine fn_ok T.F__law_walk sc__law_walk (fun cdv A outer s H E hr =>
(gss_cons (gs_expr (ge_bm PySem.F.slot_list_append PySem.F.type_list_append mt_append lm_append (gv 1) (ga_cons (gv 0) ga_nil)))
 (gss_one (gs_if (gt_cmpR op_inU lr_in (ge_ix (gv 0) ge_int) (ge_lst (ga_cons ge_str (ga_cons ge_str (ga_cons ge_str (ga_cons ge_str ga_nil))))) (by rfl))
 (gss_cons (gs_if (gt_cmpR (op_neS hr.units) lr_ne (ge_ix (gv 0) ge_int) ge_str (nomark _))
 (gss_one (gs_expr (ge_call G__law_walk (hr.mono (by omega)) (by rfl) T.g__law_walk T.F__law_walk.kp T.b__law_walk (ga_cons (ge_ix (gv 0) ge_int) (ga_cons (gv 1) ga_nil)))))
 gss_nil)
 (gss_one (gs_expr (ge_call G__law_walk (hr.mono (by omega)) (by rfl) T.g__law_walk T.F__law_walk.kp T.b__law_walk (ga_cons (ge_ix (gv 0) ge_int) (ga_cons (gv 1) ga_nil))))))
 gss_nil)))) (fun ds m Q h => ?_)
  obtain ⟨x, q, as, rfl, hx, hl, eq, h⟩ := h
  rw [show startD N__law_walk [akD x, .ref q] = [some (akD x), some (.ref q)] from rfl]
  have hx0 := size_pos x
  obtain ⟨n, rfl⟩ : ∃ j, n = j + 1 := ⟨n - 1, by omega⟩
  walk_at "pd"
  refine ⟨⟨_, _, lstOf_ref eq⟩, q, _, lstOf_ref eq, by rw [List.length_map]; exact Nat.lt_of_lt_of_le (by omega : as.length < 1000) (by decide), ?_⟩
  rw [show as.map akD ++ [akD x] = (as ++ [x]).map akD from by rw [List.map_append]; rfl]
  have e1 : mset m q (.lst ((as ++ [x]).map akD)) q = some (.lst ((as ++ [x]).map akD)) := mset_same
  have O1 : OfQ q m (mset m q (.lst ((as ++ [x]).map akD))) := (OfQ.refl q m).set
  generalize mset m q (.lst ((as ++ [x]).map akD)) = m1 at *
  refine ak_ix0 fun p hp => ?_
  have qp : q ≠ p := fun e => by rw [← e, e1] at hp; cases hp
  refine ⟨_, seqOf_ref mset_same, rfl, rfl, ?_⟩
  have e2 : mset m1 p (.lst [.str "then", .str "beside", .str "against", .str "each"]) q = some (.lst ((as ++ [x]).map akD)) := by rw [mset_ne qp]; exact e1
  have O2 : OfQ q m (mset m1 p (.lst [.str "then", .str "beside", .str "against", .str "each"])) := O1.new (O1.al _ hp)
  generalize mset m1 p (.lst [.str "then", .str "beside", .str "against", .str "each"]) = m2 at *
  rw [inn_in]
  have leaf : allA x = [x] → innA x = false → ∃ m'', PD.Sub m'' m2 ∧ Q .non m'' := fun z _ => ⟨_, PD.Sub.refl _, h m2 (by rw [z]; exact e2) O2⟩
  cases x with
  | one w j => rw [show innA (.one w j) = false from rfl, if_neg (by decide)]; exact leaf rfl rfl
  | sm w k j => rw [show innA (.sm w k j) = false from rfl, if_neg (by decide)]; exact leaf rfl rfl
  | fst => rw [show innA .fst = false from rfl, if_neg (by decide)]; exact leaf rfl rfl
  | each j b =>
    rw [show innA (.each j b) = true from rfl, if_pos rfl]
    refine ak_ix0 ⟨_, eqK_ss, ?_⟩
    rw [if_neg (show ¬ (!headA (.each j b) == "each") = true from by show ¬ (!(("each" : Str) == "each")) = true; decide)]
    refine dIx_seq (show seqOf m2 (akD (.each j b)) = some [.str "each", .str j, akD b] from rfl) (show atI [D.str "each", .str j, akD b] 2 = some (akD b) from rfl) ?_
    have z : sizeA (.each j b) = sizeA b + 1 := rfl
    refine hs _ _ _ ⟨n, rfl, b, q, _, rfl, by omega, by rw [List.length_append, List.length_singleton]; omega, e2, fun m3 e3 O3 => ⟨_, PD.Sub.refl _, h m3 ?_ (O2.trans O3)⟩⟩
    rw [e3, List.append_assoc]; rfl
  | two w2 a b =>
    rw [show innA (.two w2 a b) = true from rfl, if_pos rfl]
    refine ak_ix0 ⟨_, eqK_ss, ?_⟩
    rw [if_pos (show (!headA (.two w2 a b) == "each") = true from by show (!w2.s == "each") = true; cases w2 <;> decide)]
    have z : sizeA (.two w2 a b) = sizeA a + sizeA b + 1 := rfl
    have za := size_pos a
    have zb := size_pos b
    refine dIx_seq (show seqOf m2 (akD (.two w2 a b)) = some [.str w2.s, akD a, akD b] from rfl) (show atI [D.str w2.s, akD a, akD b] 1 = some (akD a) from rfl) ?_
    refine hs _ _ _ ⟨n, rfl, a, q, _, rfl, by omega, by rw [List.length_append, List.length_singleton]; omega, e2, fun m3 e3 O3 => ?_⟩
    refine dIx_seq (show seqOf m3 (akD (.two w2 a b)) = some [.str w2.s, akD a, akD b] from rfl) (show atI [D.str w2.s, akD a, akD b] 2 = some (akD b) from rfl) ?_
    refine hs _ _ _ ⟨n, rfl, b, q, _, rfl, by omega, by rw [List.length_append, List.length_append, List.length_singleton, all_len]; omega, e3, fun m4 e4 O4 => ⟨_, PD.Sub.refl _, h m4 ?_ ((O2.trans O3).trans O4)⟩⟩
    rw [e4, List.append_assoc, List.append_assoc]; rfl
theorem walk_all (T : Txt K mg) : ∀ n, FnOk P w K mg base CX0 (n + 2) T.f__law_walk T.fd__law_walk ["_law_wish_here", "_law_heard"] (spL K 2 (sp__law_walk n))
  | 0 => walk_turn (k := 1) (sq := fun _ _ _ => False) (Nat.le_refl _) T (fun ds m Q ⟨_, h, _⟩ => by cases h) FnOk_falso
  | n + 1 => walk_turn (k := n + 2) (by omega) T (fun ds m Q ⟨j, h, hx⟩ => by cases h; exact hx) (walk_all T n)
end
def outD : AkO → D
  | .fine => .non
  | .noName j => .tup [.str "NoName", .str j]
  | .badAsk n => .tup [.str "BadAsk", .str n]
/-- nothing that was there has changed -/
structure Grw (m m' : Mu) : Prop where
  kp : ∀ y o, m y = some o → m' y = some o
  al : ∀ y, m' y = none → m y = none
theorem Grw.new {m m' : Mu} {p : Addr} {o : MO} (h : Grw m m') (hp : m' p = none) : Grw m (mset m' p o) := ⟨fun y u e => mset_new hp (h.kp y u e), fun y e => h.al y (mset_none e).1⟩
theorem Grw.set {m m' : Mu} {p : Addr} {o : MO} (h : Grw m m') (hp : m p = none) : Grw m (mset m' p o) := ⟨fun y u e => by
  have : y ≠ p := fun z => by rw [z, hp] at e; cases e
  rw [mset_ne this]; exact h.kp y u e, fun y e => h.al y (mset_none e).1⟩
theorem OfQ.grw {q : Addr} {m m' : Mu} (h : OfQ q m m') (hq : m q = none) : Grw m m' := ⟨fun y o e => h.kp y o (fun z => by rw [z, hq] at e; cases e) e, h.al⟩
def isTA : Ak → Bool
  | .two .thn _ _ => true
  | .two .against _ _ => true
  | _ => false
theorem ta1 (w : W1) : inF (.str w.s) [.str "then", .str "against"] = false := by cases w <;> decide
theorem ta2 (w : W2) : inF (.str w.s) [.str "then", .str "against"] = false := by cases w <;> decide
theorem ta_in (x : Ak) : inF (.str (headA x)) [.str "then", .str "against"] = isTA x := by
  cases x with
  | one w j => exact ta1 w
  | sm w n j => exact ta2 w
  | fst => decide
  | each j b => exact (by decide : inF (.str "each") [.str "then", .str "against"] = false)
  | two w a b => cases w <;> first | exact (by decide : inF (.str "then") [.str "then", .str "against"] = true) | exact (by decide : inF (.str "against") [.str "then", .str "against"] = true) | exact (by decide : inF (.str "beside") [.str "then", .str "against"] = false)
theorem lead1 (w : W1) : inF (.str w.s) [.str "least", .str "greatest"] = mayLead (.one w "") := by cases w <;> decide
theorem lead2 (w : W2) : inF (.str w.s) [.str "least", .str "greatest"] = false := by cases w <;> decide
theorem lead3 (w : W3) : inF (.str w.s) [.str "least", .str "greatest"] = false := by cases w <;> decide
theorem lead_in (x : Ak) : inF (.str (headA x)) [.str "least", .str "greatest"] = mayLead x := by
  cases x with
  | one w j => exact (lead1 w).trans (by cases w <;> rfl)
  | sm w n j => exact lead2 w
  | fst => decide
  | each j b => exact (by decide : inF (.str "each") [.str "least", .str "greatest"] = false)
  | two w a b => exact lead3 w
theorem ifS_mid {c : DT} {t u : DS} {E : DEnds} {s : Sd} {m : Mu} (Mid : Bool → Mu → Prop) (h1 : ∀ R : Bool → Mu → Prop, (∀ b m', Mid b m' → R b m') → c s m R) (h2 : ∀ b m', Mid b m' → if b = true then t E s m' else u E s m') : dIfS c t u E s m := h1 _ h2
/-- two lists of the law's, and all that was there before -/
structure IvD (m : Mu) (q u : Addr) (hs ns : List D) (m' : Mu) : Prop where
  eq : m' q = some (.lst hs)
  eu : m' u = some (.lst ns)
  gr : Grw m m'
theorem IvD.new {m m' : Mu} {q u p : Addr} {hs ns : List D} {o : MO} (h : IvD m q u hs ns m') (hp : m' p = none) : IvD m q u hs ns (mset m' p o) := ⟨mset_new hp h.eq, mset_new hp h.eu, h.gr.new hp⟩
def isLf : Ak → Bool
  | .one _ _ => true
  | .sm _ _ _ => true
  | .each _ _ => true
  | _ => false
def letsA : Ak → List Str
  | .one w _ => w.let
  | .sm _ _ _ => ["number"]
  | .each _ _ => ["number", "text"]
  | _ => []
theorem let_leaf {f : Str → Option Str} {y : Ak} {j : Str} (hy : isLf y = true) (ho : ownA y = [j]) : isLet f y = match f j with | some z => decide (z ∈ letsA y) | none => false := by
  cases y with
  | one w k => cases ho; rfl
  | sm w n k => cases ho; rfl
  | each k b => cases ho; rfl
  | fst => cases hy
  | two w a b => cases hy
theorem lf_test {y : Ak} (h : isTA y = false) : (if (!headA y == ("beside" : Str)) = true then (!headA y == ("first" : Str)) else false) = isLf y := by
  cases y with
  | one w j => show (if (!w.s == ("beside" : Str)) = true then (!w.s == ("first" : Str)) else false) = true; cases w <;> decide
  | sm w n j => show (if (!w.s == ("beside" : Str)) = true then (!w.s == ("first" : Str)) else false) = true; cases w <;> decide
  | fst => decide
  | each j b => show (if (!("each" : Str) == ("beside" : Str)) = true then (!("each" : Str) == ("first" : Str)) else false) = true; decide
  | two w a b => cases w with
    | beside => show (if (!("beside" : Str) == ("beside" : Str)) = true then (!("beside" : Str) == ("first" : Str)) else false) = false; decide
    | thn => cases h
    | against => cases h
theorem wd_cases {y : Ak} (h : isLf y = true) : (headA y = ("spread" : Str) ∧ letsA y = (["number", "product"] : List Str)) ∨ (headA y = ("total" : Str) ∧ letsA y = (["product"] : List Str)) ∨ (headA y = ("names" : Str) ∧ letsA y = (["text"] : List Str)) ∨ (headA y = ("each" : Str) ∧ letsA y = (["number", "text"] : List Str)) ∨ (inF (.str (headA y)) [.str "spread", .str "total"] = false ∧ inF (.str (headA y)) [.str "each", .str "names"] = false ∧ letsA y = (["number"] : List Str)) := by
  cases y with
  | one w j => cases w with
    | least => exact .inr (.inr (.inr (.inr ⟨(by decide : inF (.str "least") [.str "spread", .str "total"] = false), (by decide : inF (.str "least") [.str "each", .str "names"] = false), rfl⟩)))
    | greatest => exact .inr (.inr (.inr (.inr ⟨(by decide : inF (.str "greatest") [.str "spread", .str "total"] = false), (by decide : inF (.str "greatest") [.str "each", .str "names"] = false), rfl⟩)))
    | spread => exact .inl ⟨rfl, rfl⟩
    | total => exact .inr (.inl ⟨rfl, rfl⟩)
    | names => exact .inr (.inr (.inl ⟨rfl, rfl⟩))
  | sm w n j => exact .inr (.inr (.inr (.inr ⟨(by cases w <;> decide : inF (.str w.s) [.str "spread", .str "total"] = false), (by cases w <;> decide : inF (.str w.s) [.str "each", .str "names"] = false), rfl⟩)))
  | each j b => exact .inr (.inr (.inr (.inl ⟨rfl, rfl⟩)))
  | fst => cases h
  | two w a b => cases h
theorem each_test {y : Ak} (h : isLf y = true) : (headA y = ("each" : Str)) ↔ ∃ j b, y = .each j b := by
  cases y with
  | one w j => exact ⟨fun e => absurd e (by show ¬ w.s = ("each" : Str); cases w <;> decide), fun ⟨_, _, e⟩ => by cases e⟩
  | sm w n j => exact ⟨fun e => absurd e (by show ¬ w.s = ("each" : Str); cases w <;> decide), fun ⟨_, _, e⟩ => by cases e⟩
  | each j b => exact ⟨fun _ => ⟨j, b, rfl⟩, fun _ => rfl⟩
  | fst => cases h
  | two w a b => cases h
/-- what the law's own look over the lines tells -/
theorem fault_is {l : List (Str × Str)} (nd : (l.map (·.1)).Nodup) {j : Str} {zs ys : List Str} (hz : ∀ z, z ∈ zs ↔ z ∈ ys) :
    decide ((l.filter fun p => decide (p.1 = j) && decide (p.2 ∈ zs)).length = 0) = !(match fnd l j with | some z => decide (z ∈ ys) | none => false) := by
  induction l with
  | nil => rfl
  | cons p l ih =>
    rw [List.map_cons, List.nodup_cons] at nd
    have ih := ih nd.2
    unfold fnd
    by_cases e : p.1 = j
    · have hn : (l.filter fun p => decide (p.1 = j) && decide (p.2 ∈ zs)) = [] := List.filter_eq_nil_iff.mpr fun r hr => by
        have : r.1 ≠ j := fun z => nd.1 (List.mem_map.mpr ⟨r, hr, z.trans e.symm⟩)
        simp [this]
      rw [List.filter_cons, hn]
      by_cases z : p.2 ∈ zs
      · have z2 := (hz _).mp z
        simp [e, z, z2]
      · have z2 : p.2 ∉ ys := fun h => z ((hz _).mpr h)
        simp [e, z, z2]
    · rw [List.filter_cons]
      have : (decide (p.1 = j) && decide (p.2 ∈ zs)) = false := by simp [e]
      rw [this, if_neg (by decide), ih]
      unfold fnd
      simp [e]
theorem ak_pln : ∀ y : Ak, pln (akD y) = true
  | .one _ _ => rfl
  | .sm _ _ _ => rfl
  | .fst => rfl
  | .each j b => by
    show plns [.str "each", .str j, akD b] = true
    rw [plns_iff]
    intro d hd
    simp only [List.mem_cons, List.not_mem_nil, or_false] at hd
    rcases hd with rfl | rfl | rfl
    · rfl
    · rfl
    · exact ak_pln b
  | .two w a b => by
    show plns [.str w.s, akD a, akD b] = true
    rw [plns_iff]
    intro d hd
    simp only [List.mem_cons, List.not_mem_nil, or_false] at hd
    rcases hd with rfl | rfl | rfl
    · rfl
    · exact ak_pln a
    · exact ak_pln b
open Classical in
theorem cnt_fst (x : Ak) : (((allA x).map akD).countP fun e => decide (e = D.tup [.str "first"])) = firstsA x := by
  rw [List.countP_map]
  unfold firstsA
  rw [← List.countP_eq_length_filter]
  congr 1
  funext y
  cases y with
  | fst => simp [akD, isFst]
  | one w j => simp [akD, isFst]
  | sm w n j => simp [akD, isFst]
  | each j b => simp [akD, isFst]
  | two w a b => simp [akD, isFst]
theorem jd_ix1 {j : Str × Str} {m : Mu} {z : DK} (h : z (.str j.2) m) : dIx (jD j) (.int 1) m z := dIx_seq (show seqOf m (jD j) = some [.str j.1, .str j.2] from rfl) (show atI [D.str j.1, .str j.2] 1 = some (.str j.2) from rfl) h
section
variable {P : Program} {w : World} {K : PySem.W.Frag} {mg : Str → Option Value} {base : Heap}
def sp__law_due : SpD := fun ds m Q => ∃ (n : Str) (x : Ak) (l : List (Str × Str)), ds = [.str n, akD x, .rol (l.map jD)] ∧ sizeA x ≤ 14 ∧ l.length ≤ 8 ∧ (l.map (·.1)).Nodup ∧ ∀ m', (∀ y o, m y = some o → m' y = some o) → (∀ y, m' y = none → m y = none) → Q (outD (askOut l [(n, x)])) m'
theorem ok__law_due (T : Txt K mg) (G__law_walk : FnOk P w K mg base CX0 16 T.f__law_walk T.fd__law_walk ["_law_wish_here", "_law_heard"] (spL K 2 (sp__law_walk 14))) : FnOk P w K mg base CX0 17 T.f__law_due T.fd__law_due ["_law_name", "_law_wish_here", "_law_judges_here"] (spL K 3 sp__law_due) := by
  refine fn_ok T.F__law_due sc__law_due (fun cdv A outer s H E hr =>
(gss_cons (gs_set (i := 3) sc__law_due.nd rfl (.inl rfl) (ge_lst ga_nil))
 (gss_cons (gs_expr (ge_call G__law_walk (hr.mono (by omega)) (by rfl) T.g__law_walk T.F__law_walk.kp T.b__law_walk (ga_cons (gv 1) (ga_cons (gv 3) ga_nil))))
 (gss_cons (gs_set (i := 4) sc__law_due.nd rfl (.inr rfl) (ge_lst ga_nil))
 (gss_cons (gs_set (i := 5) sc__law_due.nd rfl (.inl rfl) ge_bl)
 (gss_cons (gs_for PassesOwn.never rfl (gi_seq (gv 3)) (gg_name (i := 6) sc__law_due.nd rfl (.inl rfl))
 (gss_cons (gs_set (i := 9) sc__law_due.nd rfl (.inl rfl) (ge_ix (gv 6) ge_int))
 (gss_one (gs_if (gt_cmpR op_inU lr_in (gv 9) (ge_lst (ga_cons ge_str (ga_cons ge_str ga_nil))) (by rfl))
 (gss_cons (gs_set (i := 5) sc__law_due.nd rfl (.inl rfl) (ge_or (gv 5) (ge_one (ge_cmpR op_notInU lr_notIn (ge_ix (ge_ix (gv 6) ge_int) ge_int) (ge_lst (ga_cons ge_str (ga_cons ge_str ga_nil))) (by rfl)))))
 (gss_one (gs_set (i := 5) sc__law_due.nd rfl (.inl rfl) (ge_or (gv 5) (ge_one (ge_and (ge_cmpR (op_eqS hr.units) lr_eq (gv 9) ge_str (nomark _)) (ge_one (ge_cmpR op_notInU lr_notIn (ge_ix (ge_ix (gv 6) ge_int) ge_int) (ge_lst (ga_cons ge_str (ga_cons ge_str ga_nil))) (by rfl)))))))))
 (gss_one (gs_if (gw_and (gt_cmpR (op_neS hr.units) lr_ne (gv 9) ge_str (nomark _)) (gw_and1 (gt_cmpR (op_neS hr.units) lr_ne (gv 9) ge_str (nomark _)))).gt
 (gss_cons (gs_set (i := 7) sc__law_due.nd rfl (.inr rfl) (ge_ifE (gt_cmpR (op_eqS hr.units) lr_eq (gv 9) ge_str (nomark _)) (ge_ix (gv 6) ge_int) (ge_ix (gv 6) (ge_op op_sub lr_sub (ge_callB call_lenU lc_len (by rfl) T.z_len PySem.boot_len (ga_cons (gv 6) ga_nil)) ge_int))))
 (gss_cons (gs_expr (ge_bm PySem.F.slot_list_append PySem.F.type_list_append mt_append lm_append (gv 4) (ga_cons (gv 7) ga_nil)))
 (gss_cons (gs_set (i := 11) sc__law_due.nd rfl (.inr rfl) (ge_lst (ga_cons ge_str ga_nil)))
 (gss_cons (gs_if (gt_cmpR op_inU lr_in (gv 9) (ge_lst (ga_cons ge_str (ga_cons ge_str ga_nil))) (by rfl))
 (gss_one (gs_set (i := 11) sc__law_due.nd rfl (.inr rfl) (ge_op op_addL lr_addL (ge_lst (ga_cons ge_str ga_nil)) (ge_op op_mulLB lr_mulLB (ge_lst (ga_cons ge_str ga_nil)) (ge_cmpR (op_eqS hr.units) lr_eq (gv 9) ge_str (nomark _))))))
 (gss_one (gs_if (gt_cmpR op_inU lr_in (gv 9) (ge_lst (ga_cons ge_str (ga_cons ge_str ga_nil))) (by rfl))
 (gss_one (gs_set (i := 11) sc__law_due.nd rfl (.inr rfl) (ge_op op_addL lr_addL (ge_lst (ga_cons ge_str ga_nil)) (ge_op op_mulLB lr_mulLB (ge_lst (ga_cons ge_str ga_nil)) (ge_cmpR (op_eqS hr.units) lr_eq (gv 9) ge_str (nomark _))))))
 gss_nil)))
 (gss_one (gs_set (i := 5) sc__law_due.nd rfl (.inl rfl) (ge_or (gv 5) (ge_one (ge_cmpR (op_eqS hr.units) lr_eq (ge_callB call_lenU lc_len (by rfl) T.z_len PySem.boot_len (ga_cons (ge_lc (own := [("_law_line", 12)]) rfl sc__law_due.nd (gi_seq (gv 2)) (blkOk_by (N := N__law_due) (sc := defScope s__law_due) (by decide +kernel)) (fun _ _ _ _ _ => (gg_name (i := 12) sc__law_due.nd rfl (.inl rfl))) (fun _ _ _ _ _ => (gts_one (gw_and (gt_cmpR (op_eqS hr.units) lr_eq (ge_ix (gv 12) ge_int) (gv 7) (nomark _)) (gw_and1 (gt_cmpR op_inU lr_in (ge_ix (gv 12) ge_int) (gv 11) (by rfl)))).gt)) (fun _ _ _ _ _ => (gv 12)) (by decide)) ga_nil)) ge_int (nomark _))))))))))
 gss_nil))))))
 (gss_cons (gs_for PassesOwn.never rfl (gi_seq (gv 4)) (gg_name (i := 7) sc__law_due.nd rfl (.inr rfl))
 (gss_one (gs_if (gt_cmpR op_notInU lr_notIn (gv 7) (ge_lc (own := [("_law_line", 12)]) rfl sc__law_due.nd (gi_seq (gv 2)) (blkOk_by (N := N__law_due) (sc := defScope s__law_due) (by decide +kernel)) (fun _ _ _ _ _ => (gg_name (i := 12) sc__law_due.nd rfl (.inl rfl))) (fun _ _ _ _ _ => gts_nil) (fun _ _ _ _ _ => (ge_ix (gv 12) ge_int)) (by decide)) (by rfl))
 (gss_one (gs_ret (ge_tup (ga_cons ge_str (ga_cons (gv 7) ga_nil)))))
 gss_nil)))
 (gss_cons (gs_setLc (i := 8) (own := [("_law_k", 10)]) rfl sc__law_due.nd rfl rfl (sw_true rfl rfl rfl (by decide +kernel)) (gi_rng1 (by rfl) T.z_range (ga_cons (ge_callB call_lenU lc_len (by rfl) T.z_len PySem.boot_len (ga_cons (gv 4) ga_nil)) ga_nil)) (blkOk_by (N := N__law_due) (sc := defScope s__law_due) (by decide +kernel)) (fun _ _ _ _ _ => (gg_name (i := 10) sc__law_due.nd rfl (.inl rfl))) (fun _ _ _ _ _ => (gts_one (gt_cmpR op_inU lr_in (ge_ix (gv 4) (gv 10)) (ge_sliceL (gv 4) go_none (go_some (gv 10))) (by rfl)))) (fun _ _ _ _ _ => (gv 10)) (by decide))
 (gss_cons (gs_if (gw_or (gt_tru (gv 5)) (gw_or (gt_cmpR (op_gtS hr.units) lr_gtP (ge_callB call_lenU lc_len (by rfl) T.z_len PySem.boot_len (ga_cons (gv 8) ga_nil)) ge_int (nomark _)) (gw_or1 (gt_cmpR (op_gtS hr.units) lr_gtP (ge_bmL PySem.F.slot_list_count PySem.F.type_list_count (mt_cntP (Nat.lt_of_succ_lt (units65 hr))) lm_count (gv 3) (ga_cons (ge_tup (ga_cons ge_str ga_nil)) ga_nil)) ge_int (nomark _))))).gt
 (gss_one (gs_ret (ge_tup (ga_cons ge_str (ga_cons (gv 0) ga_nil)))))
 gss_nil)
 (gss_one (gs_ret ge_non))))))))))) (fun ds m Q h => ?_)
  obtain ⟨n, x, l, rfl, hx, hl, nd, h⟩ := h
  rw [show startD N__law_due [.str n, akD x, .rol (l.map jD)] = [some (.str n), some (akD x), some (.rol (l.map jD)), none, none, none, none, none, none, none, none, none, none] from rfl]
  refine seq_cut (fun s' m' => ∃ q, m q = none ∧ s' = [some (.str n), some (akD x), some (.rol (l.map jD)), some (.ref q), none, none, none, none, none, none, none, none, none] ∧ m' = mset m q (.lst [])) (fun R hR => ?_) ?_
  · walk_at "pd"
    intro q hq
    exact hR _ _ ⟨q, hq, rfl, rfl⟩
  rintro s' m1 ⟨q, hq, rfl, rfl⟩
  refine seq_cut (fun s' m' => s' = [some (.str n), some (akD x), some (.rol (l.map jD)), some (.ref q), none, none, none, none, none, none, none, none, none] ∧ m' q = some (.lst ((allA x).map akD)) ∧ OfQ q m m') (fun R hR => ?_) ?_
  · walk_at "pd"
    refine ⟨x, q, [], rfl, hx, by have := hx; show 0 + sizeA x ≤ 1000; omega, mset_same, fun m2 e2 O2 => ?_⟩
    exact hR _ _ ⟨rfl, e2, (OfQ.refl q m).set.trans O2⟩
  rintro s' m2 ⟨rfl, eq, O2⟩
  walk_at "pd"
  intro u hu
  have G2 := O2.grw hq
  have qu : q ≠ u := fun e => by rw [← e, eq] at hu; cases hu
  have hum := G2.al _ hu
  refine ⟨_, seqOf_ref (by rw [mset_ne qu]; exact eq), ?_⟩
  refine loop_pre (us := allA x) (fun pre s' m' => (∃ c6 c7 c9 c11, s' = [some (.str n), some (akD x), some (.rol (l.map jD)), some (.ref q), some (.ref u), some (.bl (pre.any fun y => !isLet (fnd l) y)), c6, c7, none, c9, none, c11, none]) ∧ m' q = some (.lst ((allA x).map akD)) ∧ m' u = some (.lst ((pre.flatMap ownA).map .str)) ∧ Grw m m') akD (fun _ _ _ J => seqOf_ref J.2.1) ?_ ?_ ⟨⟨_, _, _, _, rfl⟩, by rw [mset_ne qu]; exact eq, mset_same, G2.set hum⟩
  · rintro pre y post e s' m3 R ⟨⟨c6, c7, c9, c11, rfl⟩, eq3, eu3, G3⟩ hR
    rw [List.any_append, List.any_cons, List.any_nil, Bool.or_false, List.flatMap_append, List.flatMap_singleton, List.map_append] at hR
    generalize (pre.any fun y => !isLet (fnd l) y) = F at *
    refine seq_cut (fun s' m' => s' = [some (.str n), some (akD x), some (.rol (l.map jD)), some (.ref q), some (.ref u), some (.bl F), some (akD y), c7, none, some (.str (headA y)), none, c11, none] ∧ m' = m3) (fun R hR => ?_) ?_
    · walk_at "pd"
      exact ak_ix0 (hR _ _ ⟨rfl, rfl⟩)
    rintro s' m4 ⟨rfl, rfl⟩
    have I4 : IvD m q u ((allA x).map akD) ((pre.flatMap ownA).map .str) m4 := ⟨eq3, eu3, G3⟩
    refine ifS_mid (fun b m' => b = isTA y ∧ IvD m q u ((allA x).map akD) ((pre.flatMap ownA).map .str) m') (fun R hR => ?_) ?_
    · walk_at "pd"
      intro p hp
      refine ⟨_, seqOf_ref mset_same, rfl, ?_⟩
      rw [ta_in]
      exact hR _ _ ⟨rfl, I4.new hp⟩
    rintro b m5 ⟨rfl, I5⟩
    -- a step that hears no judge
    have none_ : ∀ m6 c11', ownA y = [] → IvD m q u ((allA x).map akD) ((pre.flatMap ownA).map .str) m6 → R [some (.str n), some (akD x), some (.rol (l.map jD)), some (.ref q), some (.ref u), some (.bl (F || !isLet (fnd l) y)), some (akD y), c7, none, some (.str (headA y)), none, c11', none] m6 := fun m6 c11' ho I6 =>
      hR _ _ ⟨⟨_, _, _, _, rfl⟩, I6.eq, by rw [ho, List.map_nil, List.append_nil]; exact I6.eu, I6.gr⟩
    cases hta : isTA y with
    | true =>
      rw [if_pos rfl]
      have hw : ∃ w2 a b, y = .two w2 a b ∧ (w2 = .thn ∨ w2 = .against) := by
        cases y with
        | two w2 a b => cases w2 with
          | thn => exact ⟨_, _, _, rfl, .inl rfl⟩
          | against => exact ⟨_, _, _, rfl, .inr rfl⟩
          | beside => cases hta
        | _ => cases hta
      obtain ⟨w2, a, b, rfl, hw⟩ := hw
      walk_at "pd"
      cases F with
      | true =>
        walk_at "w"
        exact none_ m5 _ rfl I5
      | false =>
        walk_at "w"
        rw [Bool.false_or] at none_
        refine dIx_seq (show seqOf m5 (akD (.two w2 a b)) = some [.str w2.s, akD a, akD b] from rfl) (show atI [D.str w2.s, akD a, akD b] 1 = some (akD a) from rfl) ?_
        refine ak_ix0 fun p hp => ⟨_, seqOf_ref mset_same, rfl, rfl, ?_⟩
        rw [lead_in]
        have I6 := I5.new (o := .lst [.str "least", .str "greatest"]) hp
        generalize mset m5 p (.lst [.str "least", .str "greatest"]) = m6 at *
        cases hl1 : mayLead a with
        | false =>
          rw [if_pos (by decide)]
          have z : isLet (fnd l) (.two w2 a b) = false := by
            rcases hw with rfl | rfl
            · exact hl1
            · show (mayLead a && mayLead b) = false; rw [hl1]; rfl
          have := none_ m6 c11 rfl I6
          rw [z] at this
          exact this
        | true =>
          rw [if_neg (by decide)]
          rcases hw with rfl | rfl
          · rw [if_neg (show ¬ headA (.two .thn a b) = ("against" : Str) from by show ¬ ("then" : Str) = "against"; decide)]
            have z : isLet (fnd l) (.two .thn a b) = true := hl1
            have := none_ m6 c11 rfl I6
            rw [z] at this
            exact this
          · rw [if_pos (show headA (.two .against a b) = ("against" : Str) from rfl)]
            refine dIx_seq (show seqOf m6 (akD (.two .against a b)) = some [.str "against", akD a, akD b] from rfl) (show atI [D.str "against", akD a, akD b] 2 = some (akD b) from rfl) ?_
            refine ak_ix0 fun p2 hp2 => ⟨_, seqOf_ref mset_same, rfl, rfl, ?_⟩
            rw [lead_in]
            have z : isLet (fnd l) (.two .against a b) = mayLead b := by show (mayLead a && mayLead b) = mayLead b; rw [hl1]; rfl
            have := none_ _ c11 rfl (I6.new (o := .lst [.str "least", .str "greatest"]) hp2)
            rw [z] at this
            exact this
    | false =>
      rw [if_neg (by decide)]
      refine ifS_mid (fun b m' => b = isLf y ∧ m' = m5) (fun R hR => ?_) ?_
      · walk_at "pd"
        have z := lf_test hta
        by_cases hb : (!headA y == ("beside" : Str)) = true
        · rw [if_pos hb] at z ⊢
          rw [z]
          exact hR _ _ ⟨rfl, rfl⟩
        · rw [if_neg hb] at z ⊢
          exact hR _ _ ⟨z, rfl⟩
      rintro b m6 ⟨rfl, rfl⟩
      cases hlf : isLf y with
      | false =>
        rw [if_neg (by decide)]
        have z : ownA y = [] ∧ isLet (fnd l) y = true := by
          cases y with
          | fst => exact ⟨rfl, rfl⟩
          | two w2 a b => cases w2 with
            | beside => exact ⟨rfl, rfl⟩
            | thn => cases hta
            | against => cases hta
          | _ => cases hlf
        have := none_ m6 c11 z.1 I5
        rw [z.2] at this
        walk_at "pd"
        simpa using this
      | true =>
        rw [if_pos rfl]
        obtain ⟨j, hj⟩ : ∃ j, ownA y = [j] := by
          cases y with
          | one w2 j => exact ⟨j, rfl⟩
          | sm w2 k j => exact ⟨j, rfl⟩
          | each j b => exact ⟨j, rfl⟩
          | fst => cases hlf
          | two w2 a b => cases hlf
        refine seq_cut (fun s' m' => s' = [some (.str n), some (akD x), some (.rol (l.map jD)), some (.ref q), some (.ref u), some (.bl F), some (akD y), some (.str j), none, some (.str (headA y)), none, c11, none] ∧ m' = m6) (fun R hR => ?_) ?_
        · walk_at "pd"
          by_cases he : headA y = ("each" : Str)
          · rw [if_pos he]
            obtain ⟨j2, b2, rfl⟩ := (each_test hlf).mp he
            cases hj
            exact dIx_seq (show seqOf m6 (akD (.each j b2)) = some [.str "each", .str j, akD b2] from rfl) (show atI [D.str "each", .str j, akD b2] 1 = some (.str j) from rfl) (hR _ _ ⟨rfl, rfl⟩)
          · rw [if_neg he]
            cases y with
            | one w2 j2 =>
              cases hj
              refine dLen_seq (show seqOf m6 (akD (.one w2 j)) = some [.str w2.s, .str j] from rfl) ?_
              exact dIx_seq (show seqOf m6 (akD (.one w2 j)) = some [.str w2.s, .str j] from rfl) (show atI [D.str w2.s, .str j] 1 = some (.str j) from rfl) (hR _ _ ⟨rfl, rfl⟩)
            | sm w2 k j2 =>
              cases hj
              refine dLen_seq (show seqOf m6 (akD (.sm w2 k j)) = some [.str w2.s, .int k, .str j] from rfl) ?_
              exact dIx_seq (show seqOf m6 (akD (.sm w2 k j)) = some [.str w2.s, .int k, .str j] from rfl) (show atI [D.str w2.s, .int k, .str j] 2 = some (.str j) from rfl) (hR _ _ ⟨rfl, rfl⟩)
            | each j2 b => exact absurd rfl he
            | fst => cases hlf
            | two w2 a b => cases hlf
        rintro s' m7 ⟨rfl, rfl⟩
        refine seq_cut (fun s' m' => s' = [some (.str n), some (akD x), some (.rol (l.map jD)), some (.ref q), some (.ref u), some (.bl F), some (akD y), some (.str j), none, some (.str (headA y)), none, c11, none] ∧ IvD m q u ((allA x).map akD) (((pre.flatMap ownA) ++ [j]).map .str) m') (fun R hR => ?_) ?_
        · walk_at "pd"
          refine ⟨⟨_, _, lstOf_ref I5.eu⟩, u, _, lstOf_ref I5.eu, ?_, ?_⟩
          · rw [List.length_map]
            have : pre.length < 14 := by
              have := congrArg List.length e
              rw [all_len, List.length_append, List.length_cons] at this
              omega
            exact Nat.lt_of_lt_of_le (Nat.lt_of_le_of_lt (fm_len pre) this) (by decide)
          exact hR _ _ ⟨rfl, by rw [mset_ne qu]; exact I5.eq, by rw [mset_same, List.map_append]; rfl, I5.gr.set hum⟩
        rintro s' m8 ⟨rfl, I8⟩
        refine seq_cut (fun s' m' => ∃ v, s' = [some (.str n), some (akD x), some (.rol (l.map jD)), some (.ref q), some (.ref u), some (.bl F), some (akD y), some (.str j), none, some (.str (headA y)), none, some (.ref v), none] ∧ m' v = some (.lst [.str "number"]) ∧ IvD m q u ((allA x).map akD) (((pre.flatMap ownA) ++ [j]).map .str) m') (fun R hR => ?_) ?_
        · walk_at "pd"
          intro v hv
          exact hR _ _ ⟨v, rfl, mset_same, I8.new hv⟩
        rintro s' m9 ⟨v, rfl, ev, I9⟩
        refine seq_cut (fun s' m' => ∃ (v : Addr) (zs : List Str), s' = [some (.str n), some (akD x), some (.rol (l.map jD)), some (.ref q), some (.ref u), some (.bl F), some (akD y), some (.str j), none, some (.str (headA y)), none, some (.ref v), none] ∧ m' v = some (.lst (zs.map .str)) ∧ (∀ z, z ∈ zs ↔ z ∈ letsA y) ∧ IvD m q u ((allA x).map akD) (((pre.flatMap ownA) ++ [j]).map .str) m') (fun R hR => ?_) ?_
        · rcases wd_cases hlf with ⟨hw, hls⟩ | ⟨hw, hls⟩ | ⟨hw, hls⟩ | ⟨hw, hls⟩ | ⟨hw1, hw2, hls⟩
          · rw [hls, hw] at hR
            rw [hw]
            walk_at "pd"
            intro p0 hp0
            refine ⟨_, seqOf_ref mset_same, rfl, ?_⟩
            rw [if_pos (by decide)]
            have I9 := I9.new (o := .lst [.str "spread", .str "total"]) hp0
            generalize mset m9 p0 (.lst [.str "spread", .str "total"]) = m9 at *
            intro p2 hp2 p3 hp3
            rw [dMulLB_b]
            refine ⟨_, mset_same, fun p4 hp4 => ?_⟩
            obtain ⟨q4, n43⟩ := mset_none hp4
            obtain ⟨q4a, n42⟩ := mset_none q4
            obtain ⟨q3, n32⟩ := mset_none hp3
            walk_at "pd"
            refine ⟨_, _, lsq_ref (by rw [mset_ne (Ne.symm n42), mset_ne (Ne.symm n32)]; exact mset_same), lsq_ref mset_same, by decide, fun p5 hp5 => hR _ _ ⟨p5, (["product", "number"] : List Str), rfl, mset_same, fun z => by simp [or_comm], (((I9.new hp2).new hp3).new hp4).new hp5⟩⟩
          · rw [hls, hw] at hR
            rw [hw]
            walk_at "pd"
            intro p0 hp0
            refine ⟨_, seqOf_ref mset_same, rfl, ?_⟩
            rw [if_pos (by decide)]
            have I9 := I9.new (o := .lst [.str "spread", .str "total"]) hp0
            generalize mset m9 p0 (.lst [.str "spread", .str "total"]) = m9 at *
            intro p2 hp2 p3 hp3
            rw [dMulLB_b]
            refine ⟨_, mset_same, fun p4 hp4 => ?_⟩
            obtain ⟨q4, n43⟩ := mset_none hp4
            obtain ⟨q4a, n42⟩ := mset_none q4
            obtain ⟨q3, n32⟩ := mset_none hp3
            walk_at "pd"
            refine ⟨_, _, lsq_ref (by rw [mset_ne (Ne.symm n42), mset_ne (Ne.symm n32)]; exact mset_same), lsq_ref mset_same, by decide, fun p5 hp5 => hR _ _ ⟨p5, (["product"] : List Str), rfl, mset_same, fun z => by simp [or_comm], (((I9.new hp2).new hp3).new hp4).new hp5⟩⟩
          · rw [hls, hw] at hR
            rw [hw]
            walk_at "pd"
            intro p0 hp0
            refine ⟨_, seqOf_ref mset_same, rfl, ?_⟩
            rw [if_neg (by decide)]
            have I9 := I9.new (o := .lst [.str "spread", .str "total"]) hp0
            generalize mset m9 p0 (.lst [.str "spread", .str "total"]) = m9 at *
            intro p1 hp1
            refine ⟨_, seqOf_ref mset_same, rfl, ?_⟩
            rw [if_pos (by decide)]
            have I9 := I9.new (o := .lst [.str "each", .str "names"]) hp1
            generalize mset m9 p1 (.lst [.str "each", .str "names"]) = m9 at *
            intro p2 hp2 p3 hp3
            rw [dMulLB_b]
            refine ⟨_, mset_same, fun p4 hp4 => ?_⟩
            obtain ⟨q4, n43⟩ := mset_none hp4
            obtain ⟨q4a, n42⟩ := mset_none q4
            obtain ⟨q3, n32⟩ := mset_none hp3
            walk_at "pd"
            refine ⟨_, _, lsq_ref (by rw [mset_ne (Ne.symm n42), mset_ne (Ne.symm n32)]; exact mset_same), lsq_ref mset_same, by decide, fun p5 hp5 => hR _ _ ⟨p5, (["text"] : List Str), rfl, mset_same, fun z => by simp [or_comm], (((I9.new hp2).new hp3).new hp4).new hp5⟩⟩
          · rw [hls, hw] at hR
            rw [hw]
            walk_at "pd"
            intro p0 hp0
            refine ⟨_, seqOf_ref mset_same, rfl, ?_⟩
            rw [if_neg (by decide)]
            have I9 := I9.new (o := .lst [.str "spread", .str "total"]) hp0
            generalize mset m9 p0 (.lst [.str "spread", .str "total"]) = m9 at *
            intro p1 hp1
            refine ⟨_, seqOf_ref mset_same, rfl, ?_⟩
            rw [if_pos (by decide)]
            have I9 := I9.new (o := .lst [.str "each", .str "names"]) hp1
            generalize mset m9 p1 (.lst [.str "each", .str "names"]) = m9 at *
            intro p2 hp2 p3 hp3
            rw [dMulLB_b]
            refine ⟨_, mset_same, fun p4 hp4 => ?_⟩
            obtain ⟨q4, n43⟩ := mset_none hp4
            obtain ⟨q4a, n42⟩ := mset_none q4
            obtain ⟨q3, n32⟩ := mset_none hp3
            walk_at "pd"
            refine ⟨_, _, lsq_ref (by rw [mset_ne (Ne.symm n42), mset_ne (Ne.symm n32)]; exact mset_same), lsq_ref mset_same, by decide, fun p5 hp5 => hR _ _ ⟨p5, (["text", "number"] : List Str), rfl, mset_same, fun z => by simp [or_comm], (((I9.new hp2).new hp3).new hp4).new hp5⟩⟩
          · walk_at "pd"
            intro p1 hp1
            refine ⟨_, seqOf_ref mset_same, rfl, ?_⟩
            rw [hw1, if_neg (by decide)]
            intro p2 hp2
            refine ⟨_, seqOf_ref mset_same, rfl, ?_⟩
            rw [hw2, if_neg (by decide)]
            exact hR _ _ ⟨v, ["number"], rfl, mset_new hp2 (mset_new hp1 ev), fun z => by rw [hls], (I9.new hp1).new hp2⟩
        rintro s' m10 ⟨v, zs, rfl, ev, hz, I10⟩
        have fin : ∀ m11 c11', IvD m q u ((allA x).map akD) (((pre.flatMap ownA) ++ [j]).map .str) m11 → R [some (.str n), some (akD x), some (.rol (l.map jD)), some (.ref q), some (.ref u), some (.bl (F || !isLet (fnd l) y)), some (akD y), some (.str j), none, some (.str (headA y)), none, c11', none] m11 := fun m11 c11' I11 =>
          hR _ _ ⟨⟨_, _, _, _, rfl⟩, I11.eq, by rw [hj, ← List.map_append]; exact I11.eu, I11.gr⟩
        have hfl := fault_is nd (j := j) hz
        rw [← let_leaf hlf hj] at hfl
        rw [← hfl] at fin
        walk_at "pd"
        cases F with
        | true =>
          walk_at "w"
          exact fin m10 _ I10
        | false =>
          walk_at "w"
          rw [Bool.false_or] at fin
          intro p hp
          have vp : v ≠ p := fun e => by rw [← e, ev] at hp; cases hp
          refine comp_pT (us := l) jD jD (fun p => decide (p.1 = j) && decide (p.2 ∈ zs)) (fun _ => trivial) (by omega) (fun r hr acc R1 R2 k1 k2 => ?_) ?_
          · walk_at "pd"
            refine jd_ix ⟨_, eqK_ss, ?_⟩
            by_cases z1 : r.1 = j
            · rw [if_pos (by simpa using z1)]
              refine jd_ix1 ⟨_, seqOf_ref (by rw [mset_ne vp]; exact ev), rfl, flat_s, ?_⟩
              rw [inF_s]
              by_cases z2 : r.2 ∈ zs
              · rw [decide_eq_true z2, if_pos rfl]
                exact k1 (by simp [z1, z2])
              · rw [decide_eq_false z2, if_neg (by decide)]
                exact k2 (by simp [z2])
            · rw [if_neg (by simpa using z1)]
              exact k2 (by simp [z1])
          refine dLen_seq (seqOf_ref mset_same) ?_
          rw [List.length_map]
          refine ⟨_, eqK_ii, ?_⟩
          rw [show (((l.filter fun p => decide (p.1 = j) && decide (p.2 ∈ zs)).length : Int) == 0) = decide ((l.filter fun p => decide (p.1 = j) && decide (p.2 ∈ zs)).length = 0) from by
            rw [Bool.eq_iff_iff]; simp]
          exact fin _ _ (I10.new hp)
  · rintro s' m3 ⟨⟨c6, c7, c9, c11, rfl⟩, eq3, eu3, G3⟩
    have I3 : IvD m q u ((allA x).map akD) ((judgesA x).map .str) m3 := ⟨eq3, eu3, G3⟩
    have hFb : ((allA x).any fun y => !isLet (fnd l) y) = !(allA x).all (isLet (fnd l)) := by
      rw [List.any_eq_not_all_not]
      simp
    generalize ((allA x).any fun y => !isLet (fnd l) y) = F at *
    dsimp only
    refine seq_cut (fun s' m' => (∃ c7, s' = [some (.str n), some (akD x), some (.rol (l.map jD)), some (.ref q), some (.ref u), some (.bl F), c6, c7, none, c9, none, c11, none]) ∧ badJ l (judgesA x) = none ∧ IvD m q u ((allA x).map akD) ((judgesA x).map .str) m') (fun R hR => ?_) ?_
    · walk_at "pd"
      refine ⟨_, seqOf_ref I3.eu, ?_⟩
      refine loop_pre (us := judgesA x) (fun pre s' m' => (∃ c7, s' = [some (.str n), some (akD x), some (.rol (l.map jD)), some (.ref q), some (.ref u), some (.bl F), c6, c7, none, c9, none, c11, none]) ∧ (∀ z ∈ pre, z ∈ l.map (·.1)) ∧ IvD m q u ((allA x).map akD) ((judgesA x).map .str) m') D.str (fun _ _ _ J => seqOf_ref J.2.2.eu) ?_ ?_ ⟨⟨_, rfl⟩, fun _ h => (List.not_mem_nil h).elim, I3⟩
      · rintro pre j post e s' m5 R2 ⟨⟨c7', rfl⟩, hp, I5⟩ hR2
        walk_at "pd"
        intro p hp5
        refine comp_all (st := fun _ => True) (us := l) jD (fun r => .str r.1) (fun _ => trivial) (by omega) (fun r hr acc R3 k1 => ?_) ?_
        · walk_at "pd"
          exact jd_ix k1
        rw [show (l.map fun r => D.str r.1) = (l.map (·.1)).map D.str from by rw [List.map_map]; rfl]
        refine ⟨_, seqOf_ref mset_same, rfl, flat_s, ?_⟩
        rw [inF_s]
        by_cases z : j ∈ l.map (·.1)
        · rw [decide_eq_true z]
          walk_at "w"
          exact hR2 _ _ ⟨⟨_, rfl⟩, fun y hy => (List.mem_append.mp hy).elim (hp y) fun h => by rw [List.mem_singleton.mp h]; exact z, I5.new hp5⟩
        · rw [decide_eq_false z]
          walk_at "w"
          have hb : badJ l (judgesA x) = some j := by
            unfold badJ
            rw [e, List.find?_append, List.find?_eq_none.mpr (fun x hx => by simpa using hp x hx)]
            simp [z]
          have z2 : askOut l [(n, x)] = .noName j := by
            unfold askOut
            rw [hb]
          have h2 := h (mset m5 p (.lst ((l.map (·.1)).map .str))) (I5.new hp5).gr.kp (I5.new hp5).gr.al
          rw [z2] at h2
          exact ⟨_, PD.Sub.refl _, h2⟩
      · rintro s' m5 ⟨⟨c7', rfl⟩, hp, I5⟩
        exact hR _ _ ⟨⟨_, rfl⟩, List.find?_eq_none.mpr fun y hy => by simpa using hp y hy, I5⟩
    rintro s' m4 ⟨⟨c7', rfl⟩, hbj, I4⟩
    refine seq_cut (fun s' m' => ∃ (t : Addr) (ts : List D), s' = [some (.str n), some (akD x), some (.rol (l.map jD)), some (.ref q), some (.ref u), some (.bl F), c6, c7', some (.ref t), c9, none, c11, none] ∧ m' t = some (.lst ts) ∧ (0 < ts.length ↔ ¬ (judgesA x).Nodup) ∧ IvD m q u ((allA x).map akD) ((judgesA x).map .str) m') (fun R hR => ?_) ?_
    · walk_at "pd"
      have hN : (judgesA x).length ≤ 14 := by
        have := fm_len (allA x)
        rw [all_len] at this
        exact Nat.le_trans this hx
      refine ⟨_, seqOf_ref I4.eu, by omega, by rw [List.length_map]; omega, fun p hp => ?_⟩
      rw [List.length_map, Int.toNat_natCast]
      have pu : u ≠ p := fun e => by rw [← e, I4.eu] at hp; cases hp
      have pq : q ≠ p := fun e => by rw [← e, I4.eq] at hp; cases hp
      have hpm := I4.gr.al _ hp
      generalize judgesA x = N at *
      refine comp_inv (fun rem acc m' => ∃ i, rem = (rangeD 0 N.length).drop i ∧ i ≤ N.length ∧ m' p = some (.lst acc) ∧ acc.length ≤ i ∧ (0 < acc.length ↔ ¬ (N.take i).Nodup) ∧ IvD m q u ((allA x).map akD) (N.map .str) m') ?_ ?_ ⟨0, rfl, Nat.zero_le _, mset_same, Nat.le_refl _, by simp, I4.new hp⟩
      · rintro d rem acc m5 R2 hR2 ⟨i, er, hi, ep, hal, hnd, I5⟩
        refine ⟨trivial, ?_⟩
        have hi2 : i < N.length := by
          rcases Nat.lt_or_ge i N.length with h | h
          · exact h
          · rw [List.drop_eq_nil_of_le (by rw [rangeD_len]; exact h)] at er; cases er
        have hil : i < (rangeD 0 N.length).length := by rw [rangeD_len]; exact hi2
        rw [List.drop_eq_getElem_cons hil] at er
        injection er with er1 er2
        have ed : d = .int (i : Int) := by
          rw [er1]
          simp [rg_eq]
        subst ed
        walk_at "pd"
        refine ⟨_, seqOf_ref I5.eu, _, atI_map (f := D.str) (List.getElem?_eq_getElem hi2), ?_⟩
        refine ⟨_, lsq_ref I5.eu, fun p1 hp1 => ?_⟩
        rw [cut_take, ← List.map_take]
        refine ⟨_, seqOf_ref mset_same, rfl, flat_s, ?_⟩
        rw [inF_s]
        have pp1 : p ≠ p1 := fun e => by rw [← e, ep] at hp1; cases hp1
        have hnx : (N.take (i + 1)).Nodup ↔ (N.take i).Nodup ∧ N[i] ∉ N.take i := by
          rw [List.take_succ, List.getElem?_eq_getElem hi2, Option.toList_some, List.nodup_append]
          constructor
          · rintro ⟨h1, _, h2⟩
            exact ⟨h1, fun h => h2 _ h _ (List.mem_singleton.mpr rfl) rfl⟩
          · rintro ⟨h1, h2⟩
            exact ⟨h1, by simp, fun a ha b hb e => h2 (by rw [← List.mem_singleton.mp hb, ← e]; exact ha)⟩
        by_cases z : N[i] ∈ N.take i
        · rw [decide_eq_true z, if_pos rfl]
          have I6 := I5.new (o := .lst ((N.take i).map D.str)) hp1
          refine ⟨by rw [mset_ne pp1]; exact ep, Nat.lt_of_le_of_lt hal (Nat.lt_of_lt_of_le (by omega : i < 15) (by decide)), hR2 _ _ ⟨i + 1, er2, by omega, mset_same, by rw [List.length_append, List.length_singleton]; omega, ?_, by rw [mset_ne pq]; exact I6.eq, by rw [mset_ne pu]; exact I6.eu, I6.gr.set hpm⟩⟩
          rw [hnx]
          exact ⟨fun _ h => h.2 z, fun _ => by rw [List.length_append, List.length_singleton]; omega⟩
        · rw [decide_eq_false z, if_neg (by decide)]
          refine hR2 _ _ ⟨i + 1, er2, by omega, by rw [mset_ne pp1]; exact ep, by omega, ?_, I5.new hp1⟩
          rw [hnx, hnd]
          exact ⟨fun h h2 => h h2.1, fun h h2 => h ⟨h2, z⟩⟩
      · rintro acc m5 ⟨i, er, hi, ep, hal, hnd, I5⟩
        have hi2 : i = N.length := by
          rcases Nat.lt_or_ge i N.length with h | h
          · rw [List.drop_eq_getElem_cons (by rw [rangeD_len]; exact h)] at er; cases er
          · omega
        rw [hi2, List.take_length] at hnd
        exact ⟨trivial, ep, hR _ _ ⟨p, acc, rfl, ep, hnd, I5⟩⟩
    rintro s' m5 ⟨t, ts, rfl, et, hts, I5⟩
    have bad : akGood l x = false → ∀ m6, IvD m q u ((allA x).map akD) ((judgesA x).map .str) m6 → ∃ m'', PD.Sub m'' m6 ∧ Q (.tup [.str "BadAsk", .str n]) m'' := fun hg m6 I6 => by
      have h2 := h m6 I6.gr.kp I6.gr.al
      rw [show askOut l [(n, x)] = .badAsk n from by unfold askOut; rw [hbj, hg]; rfl] at h2
      exact ⟨_, PD.Sub.refl _, h2⟩
    walk_at "pd"
    have hg : akGood l x = (decide (judgesA x).Nodup && (decide (firstsA x ≤ 1) && !F)) := by
      unfold akGood
      rw [hFb, Bool.not_not]
    cases F with
    | true =>
      rw [if_pos rfl]
      exact bad (by rw [hg]; simp) m5 I5
    | false =>
      rw [if_neg (by decide)]
      refine ⟨_, seqOf_ref et, ?_⟩
      by_cases ht : 0 < ts.length
      · rw [if_pos (by omega)]
        exact bad (by rw [hg, decide_eq_false (hts.mp ht)]; rfl) m5 I5
      · rw [if_neg (by omega)]
        have hnd : (judgesA x).Nodup := Decidable.not_not.mp fun h => ht (hts.mpr h)
        refine ⟨by rw [lsq_ref I5.eq]; rfl, ?_⟩
        refine ⟨_, _, rfl, lsq_ref I5.eq, by rw [plns_iff]; exact fun d hd => by obtain ⟨y, _, rfl⟩ := List.mem_map.mp hd; exact ak_pln y, rfl, by simp [dep, deps], ?_⟩
        rw [cnt_fst]
        walk_at "pd"
        by_cases hf : 1 < firstsA x
        · rw [if_pos (by omega)]
          exact bad (by rw [hg, decide_eq_false (show ¬ firstsA x ≤ 1 by omega)]; simp) m5 I5
        · rw [if_neg (by omega)]
          have h2 := h m5 I5.gr.kp I5.gr.al
          rw [show askOut l [(n, x)] = .fine from by
            unfold askOut
            rw [hbj, hg, decide_eq_true hnd, decide_eq_true (show firstsA x ≤ 1 by omega)]
            rfl] at h2
          exact ⟨_, PD.Sub.refl _, h2⟩
end
/-- what the classes of errors are to one another -/
structure Er (K : PySem.W.Frag) (mg : Str → Option Value) (T : Txt K mg) where
  cL : Addr
  cC : Addr
  gL : mg "LookError" = some (.ref cL)
  gC : mg "ChooseError" = some (.ref cC)
  zV : mg "ValueError" = none
  nC : PySem.W.exmOne K (.ref T.c_NoName) (.ref cC) = some true
  bC : PySem.W.exmOne K (.ref T.c_BadAsk) (.ref cC) = some true
  nL : PySem.W.kitOne K (.ref T.c_NoName) (.ref cL) = some true
  nV : PySem.W.kitOne K (.ref T.c_NoName) (.type "ValueError") = some true
  nB : PySem.W.kitOne K (.ref T.c_NoName) (.ref T.c_BadAsk) = some false
  nN : PySem.W.kitOne K (.ref T.c_NoName) (.ref T.c_NoName) = some true
  bL : PySem.W.kitOne K (.ref T.c_BadAsk) (.ref cL) = some true
  bV : PySem.W.kitOne K (.ref T.c_BadAsk) (.type "ValueError") = some true
  bB : PySem.W.kitOne K (.ref T.c_BadAsk) (.ref T.c_BadAsk) = some true
  bN : PySem.W.kitOne K (.ref T.c_BadAsk) (.ref T.c_NoName) = some false
  en : ExcC K T.c_NoName
  xn : XfC K T.c_NoName
  sn : (PySem.W.clsIn K T.c_NoName).isSome = true
  eb : ExcC K T.c_BadAsk
  xb : XfC K T.c_BadAsk
  sb : (PySem.W.clsIn K T.c_BadAsk).isSome = true
def dHk (b1 b2 : Bool) (a : Addr) (d : Option Addr) : DS := dSeq (dIfS (dOr (dNot (dTest (dIsE a d true (dVar 5)))) (dNot (dTest (dIsE a d true (dVar 5))))) (dRet (dC (.bl false))) dNext) (dSeq (dIfS (dTest (dIsE a d b1 (dVar 5))) (dRet (dIfE (dTest (dIsE a d b2 (dVar 5))) (dC (.bl false)) (dTup (dCons (dC (.str "BadAsk")) (dCons (dXa a d "name" (dVar 5)) dNil))))) dNext) (dRet (dIfE (dTest (dIsE a d b2 (dVar 5))) (dTup (dCons (dC (.str "NoName")) (dCons (dXa a d "name" (dVar 5)) dNil))) (dC (.bl false)))))
theorem fnd_nd {α : Type} {l : List (Str × α)} (nd : (l.map (·.1)).Nodup) {a : Str × α} (h : a ∈ l) : fnd l a.1 = some a.2 := by
  induction l with
  | nil => exact (List.not_mem_nil h).elim
  | cons x l ih =>
    rw [List.map_cons, List.nodup_cons] at nd
    unfold fnd
    rcases List.mem_cons.mp h with rfl | h
    · simp
    · have : x.1 ≠ a.1 := fun e => nd.1 (List.mem_map.mpr ⟨a, h, e.symm⟩)
      have ih := ih nd.2 h
      unfold fnd at ih
      simp [this, ih]
section
variable {P : Program} {w : World} {K : PySem.W.Frag} {mg : Str → Option Value} {base : Heap}
def sp__law_told : SpD := fun ds m Q => ∃ (p : Prog) (js : List Jd) (as : List (Str × Ak)) (k : Int), ds = [p.d, .int k] ∧ 0 ≤ k ∧ k < 3 ∧ G22 p js as ∧ (∀ q ∈ as, samD 14 (akD q.2) = true) ∧ ∀ m', PD.Sub m m' → Q (outD (askOut (js.map Jd.s) as)) m'
theorem ok__law_told (T : Txt K mg) (E9 : Er K mg T) (G_look_asks : FnOk P w K mg base (L2.CX P w) 4 T.f_look_asks T.fd_look_asks ["program"] (spX K 1 (sp_look_asks T))) (G_Book___init__ : FnOk P w K mg base (L2.CX P w) 8 T.f_Book___init__ T.fd_Book___init__ ["self", "program"] (spX K 2 (sp_Book___init__ T))) (G_Book_ask : FnOk P w K mg base (L2.CX P w) 3 T.f_Book_ask T.fd_Book_ask ["self", "name"] (spX K 2 (sp_Book_ask T.c_Book))) (G_Book_asks : FnOk P w K mg base CX0 1 T.f_Book_asks T.fd_Book_asks ["self"] (spL K 1 (sp_Book_asks T.c_Book))) (G__law_same : FnOk P w K mg base CX0 16 T.f__law_same T.fd__law_same ["_law_told_here", "_law_due_here"] (spL K 2 (sp__law_same 14))) :
    FnOk P w K mg base CX0 18 T.f__law_told T.fd__law_told ["_law_tree", "_law_how"] (spL K 2 sp__law_told) := by
  refine fn_okT3 (k := 17) T.F__law_told sc__law_told rfl (fun cdv A outer s H E pn xe Ed hr tk po =>
(gss_cons (gs_if (gt_cmpR (op_ltS hr.units) lr_ltP (gv 1) ge_int (nomark _))
 (gss_cons (gs_set (i := 4) sc__law_told.nd rfl (.inl rfl) (ge_ifE (gt_cmpR (op_eqS hr.units) lr_eq (gv 1) ge_int (nomark _)) (ge_callX G_look_asks tk (hr.mono (by omega)) (by rfl) T.g_look_asks T.F_look_asks.kp T.b_look_asks (ga_cons (gv 0) ga_nil)) (ge_callPX G_look_asks tk (hr.mono (by omega)) (by rfl) T.g_look_asks T.F_look_asks.kp T.kp_look_asks_0 (gk_cons (gv 0) gk_nil))))
 (gss_one (gs_ret (ge_ifE (gt_cmpR op_isN lr_isN (gv 4) ge_non (nomark _)) ge_non ge_bl))))
 gss_nil)
 (gss_cons (gs_set (i := 2) sc__law_told.nd rfl (.inl rfl) (ge_frzO (C := T.c_Book) (ge_makeX T.mk_Book G_Book___init__ tk (hr.mono (by omega)) (by rfl) T.gc_Book T.b_Book___init__ (ga_cons (gv 0) ga_nil))))
 (gss_cons (gs_for po rfl (gi_seq (ge_ix (gv 0) ge_int)) (gg_name (i := 3) sc__law_told.nd rfl (.inl rfl))
 (gss_one (gs_if (gt_not (gt_val (ge_call G__law_same (hr.mono (by omega)) (by rfl) T.g__law_same T.F__law_same.kp T.b__law_same (ga_cons (ge_methO T.cls_Book T.m_Book_ask (fnOk_calm G_Book_ask) (hr.mono (by omega)) T.b_Book_ask (gv 2) (ga_cons (ge_ix (gv 3) ge_int) ga_nil)) (ga_cons (ge_ix (gv 3) ge_int) ga_nil)))))
 (gss_one (gs_ret ge_bl))
 gss_nil)))
 (gss_one (gs_ret (ge_ifE (gt_val (ge_call G__law_same (hr.mono (by omega)) (by rfl) T.g__law_same T.F__law_same.kp T.b__law_same (ga_cons (ge_methO0 T.cls_Book T.m_Book_asks G_Book_asks (hr.mono (by omega)) T.b_Book_asks (gv 2)) (ga_cons (ge_callTy call_tuple_of lc_tuple (by rfl) T.z_tuple (by decide +kernel) (ga_cons (ge_lc (own := [("_law_line", 3)]) rfl sc__law_told.nd (gi_seq (ge_ix (gv 0) ge_int)) (blkOk_by (N := N__law_told) (sc := defScope s__law_told) (by decide +kernel)) (fun _ _ _ _ _ => (gg_name (i := 3) sc__law_told.nd rfl (.inl rfl))) (fun _ _ _ _ _ => gts_nil) (fun _ _ _ _ _ => (ge_ix (gv 3) ge_int)) (by decide)) ga_nil)) ga_nil)))) ge_non ge_bl))))))) (fun cdv A outer s H E hr => gss_nil) (fun cdv A outer s H E hr => ?_)
  refine ⟨[(.ref E9.cC, some 5, fun a cls d D σ H1 => (cls = .ref T.c_NoName ∧ (TX H H1 → σ.length = 6 → liftS K (dHk false true a d) D σ H1)) ∨ (cls = .ref T.c_BadAsk ∧ (TX H H1 → σ.length = 6 → liftS K (dHk true false a d) D σ H1)))], ?_, ?_⟩
  · refine .as sc__law_told.nd rfl rfl ⟨rfl, by decide, .inl E9.gC⟩ (fun a oe cls d pn hz hf => ?_) .nil
    refine ⟨fun pins s σ H D I h => ?_⟩
    rcases h with ⟨hc, h⟩ | ⟨hc, h⟩
    · subst hc
      refine (pss_lift (d := dHk false true a d) ?_).run pins s σ H D I (h (tx_inv I) I.len)
      exact (gss_cons (gs_if (gw_or (gt_not (gt_val (ge_isE E9.en E9.sn hz hf (by rfl) T.z_isinstance (gv 5) (pe_glob (v := .ref E9.cL) (by rfl) E9.gL (by rfl)) (fun u h => h) E9.nL))) (gw_or1 (gt_not (gt_val (ge_isE E9.en E9.sn hz hf (by rfl) T.z_isinstance (gv 5) (pe_bltn (v := .ty "ValueError") (by rfl) E9.zV (by rfl) (by rfl)) (fun u h => h) E9.nV))))).gt (gss_one (gs_ret ge_bl)) gss_nil)
        (gss_cons (gs_if (gt_val (ge_isE E9.en E9.sn hz hf (by rfl) T.z_isinstance (gv 5) (pe_glob (v := .ref T.c_BadAsk) (by rfl) T.gc_BadAsk (by rfl)) (fun u h => h) E9.nB)) (gss_one (gs_ret (ge_ifE (gt_val (ge_isE E9.en E9.sn hz hf (by rfl) T.z_isinstance (gv 5) (pe_glob (v := .ref T.c_NoName) (by rfl) T.gc_NoName (by rfl)) (fun u h => h) E9.nN)) ge_bl (ge_tup (ga_cons ge_str (ga_cons (ge_xa E9.xn (T.no_NoName "name" (by simp)) hz hf (gv 5)) ga_nil)))))) gss_nil)
        (gss_one (gs_ret (ge_ifE (gt_val (ge_isE E9.en E9.sn hz hf (by rfl) T.z_isinstance (gv 5) (pe_glob (v := .ref T.c_NoName) (by rfl) T.gc_NoName (by rfl)) (fun u h => h) E9.nN)) (ge_tup (ga_cons ge_str (ga_cons (ge_xa E9.xn (T.no_NoName "name" (by simp)) hz hf (gv 5)) ga_nil))) ge_bl)))))
    · subst hc
      refine (pss_lift (d := dHk true false a d) ?_).run pins s σ H D I (h (tx_inv I) I.len)
      exact (gss_cons (gs_if (gw_or (gt_not (gt_val (ge_isE E9.eb E9.sb hz hf (by rfl) T.z_isinstance (gv 5) (pe_glob (v := .ref E9.cL) (by rfl) E9.gL (by rfl)) (fun u h => h) E9.bL))) (gw_or1 (gt_not (gt_val (ge_isE E9.eb E9.sb hz hf (by rfl) T.z_isinstance (gv 5) (pe_bltn (v := .ty "ValueError") (by rfl) E9.zV (by rfl) (by rfl)) (fun u h => h) E9.bV))))).gt (gss_one (gs_ret ge_bl)) gss_nil)
        (gss_cons (gs_if (gt_val (ge_isE E9.eb E9.sb hz hf (by rfl) T.z_isinstance (gv 5) (pe_glob (v := .ref T.c_BadAsk) (by rfl) T.gc_BadAsk (by rfl)) (fun u h => h) E9.bB)) (gss_one (gs_ret (ge_ifE (gt_val (ge_isE E9.eb E9.sb hz hf (by rfl) T.z_isinstance (gv 5) (pe_glob (v := .ref T.c_NoName) (by rfl) T.gc_NoName (by rfl)) (fun u h => h) E9.bN)) ge_bl (ge_tup (ga_cons ge_str (ga_cons (ge_xa E9.xb (T.no_BadAsk "name" (by simp)) hz hf (gv 5)) ga_nil)))))) gss_nil)
        (gss_one (gs_ret (ge_ifE (gt_val (ge_isE E9.eb E9.sb hz hf (by rfl) T.z_isinstance (gv 5) (pe_glob (v := .ref T.c_NoName) (by rfl) T.gc_NoName (by rfl)) (fun u h => h) E9.bN)) (ge_tup (ga_cons ge_str (ga_cons (ge_xa E9.xb (T.no_BadAsk "name" (by simp)) hz hf (gv 5)) ga_nil))) ge_bl)))))
  · intro ds m Qd D h hk Ed hE
    obtain ⟨p, js, as, k, rfl, k0, k3, g, hsm, h⟩ := h
    have eN : ∀ j, askOut (js.map Jd.s) as = .noName j → ∀ m', PD.Sub m m' → Ed (.ref T.c_NoName) [("name", .str j)] m' := fun j ej m' S => by
      have h1 := h m' S
      rw [ej] at h1
      refine hE _ _ _ fun d σ H1 rm fr => ⟨true, E9.nC, fun _ a ha => .inl ⟨rfl, fun th hl => ?_⟩, fun z => by cases z⟩
      refine suite_lift (vs := [("name", .str j)]) (by omega) hl rm fr rfl (Qd := Qd) (fun v H' dv m' t a b c => hk v H' dv m' (th.trans t) a b c) fun dd => ?_
      unfold dHk dXa dIsE
      walk_at "pd"
      exact ⟨rfl, dd, _, rfl, mset_same, rfl, dd, _, rfl, mset_same, rfl, dd, _, rfl, mset_same, rfl, dd, _, rfl, mset_same, rfl, dd, _, .str j, _, rfl, mset_same, rfl, rfl, h1⟩
    have eB : ∀ n, askOut (js.map Jd.s) as = .badAsk n → ∀ m', PD.Sub m m' → Ed (.ref T.c_BadAsk) [("name", .str n)] m' := fun n ej m' S => by
      have h1 := h m' S
      rw [ej] at h1
      refine hE _ _ _ fun d σ H1 rm fr => ⟨true, E9.bC, fun _ a ha => .inr ⟨rfl, fun th hl => ?_⟩, fun z => by cases z⟩
      refine suite_lift (vs := [("name", .str n)]) (by omega) hl rm fr rfl (Qd := Qd) (fun v H' dv m' t a b c => hk v H' dv m' (th.trans t) a b c) fun dd => ?_
      unfold dHk dXa dIsE
      walk_at "pd"
      exact ⟨rfl, dd, _, rfl, mset_same, rfl, dd, _, rfl, mset_same, rfl, dd, _, rfl, mset_same, rfl, dd, _, rfl, mset_same, rfl, dd, _, .str n, _, rfl, mset_same, rfl, rfl, h1⟩
    rw [show startD N__law_told [p.d, .int k] = [some p.d, some (.int k), none, none, none, none] from rfl]
    walk_at "pd"
    have fin : askOut (js.map Jd.s) as = .fine → ∀ m', PD.Sub m m' → Qd .non m' := fun e m' S => by
      have h1 := h m' S
      rw [e] at h1
      exact h1
    by_cases hk2 : k < 2
    · rw [if_pos hk2]
      by_cases hk0 : k = 0
      · rw [if_pos hk0]
        exact ⟨p, js, as, rfl, g.ej, g.ea, g.jn, g.jl, g.al, g.az, fun ef => fin ef m (PD.Sub.refl _), eN, eB⟩
      · rw [if_neg hk0]
        unfold dCallPX
        walk_at "pd"
        exact ⟨p, js, as, rfl, g.ej, g.ea, g.jn, g.jl, g.al, g.az, fun ef => fin ef m (PD.Sub.refl _), eN, eB⟩
    · rw [if_neg hk2]
      intro x hx
      refine ⟨p, js, as, x, rfl, mset_same, g, fun ef => ⟨rfl, x, _, rfl, mset_same, ?_⟩, fun j ej m' S => eN j ej m' ((PD.Sub.new hx).trans S), fun n en m' S => eB n en m' ((PD.Sub.new hx).trans S)⟩
      rw [mset_mset, md_id hx, g.ea]
      rw [show PD.D.obj T.c_Book ((bkF p js as).map fun x => x.1) ((bkF p js as).map fun x => x.2) = bookD T.c_Book p (dicOf []) (srtD (js.map Jd.s)) (dicTOf (fmls js)) (asksD as) from rfl]
      refine loop_pre (us := as) (fun pre s' m' => (∃ c3, s' = [some p.d, some (.int k), some (bookD T.c_Book p (dicOf []) (srtD (js.map Jd.s)) (dicTOf (fmls js)) (asksD as)), c3, none, none]) ∧ m' = m) akR (fun _ _ _ _ => trivial) ?_ ?_ ⟨⟨_, rfl⟩, rfl⟩
      · rintro pre a post e s' m' R ⟨⟨c3, rfl⟩, rfl⟩ hR
        unfold akR
        walk_at "pd"
        refine ⟨p, _, _, _, as, a.1, a.2, rfl, fnd_nd g.an (by rw [e]; simp), ?_⟩
        walk_at "pd"
        refine ⟨akD a.2, rfl, hsm a (by rw [e]; simp), ?_⟩
        walk_at "pd"
        exact hR _ _ ⟨⟨_, rfl⟩, rfl⟩
      · rintro s' m' ⟨⟨c3, rfl⟩, rfl⟩
        walk_at "pd"
        refine ⟨p, _, _, _, as, rfl, ?_⟩
        unfold Prog.d
        rw [g.ea]
        walk_at "pd"
        intro q hq
        have hal := g.al
        refine comp_all (st := fun _ => True) (us := as) akR (fun a => .str a.1) (fun _ => trivial) (by omega) (fun a ha acc R1 k1 => ?_) ?_
        · unfold akR
          walk_at "pd"
          exact k1
        refine ⟨_, seqOf_ref mset_same, .tup (as.map fun q => .str q.1), rfl, ?_, ?_⟩
        · unfold samD
          rw [Bool.and_eq_true, decide_eq_true_eq, List.all_eq_true, List.length_map]
          exact ⟨by omega, fun d hd => by obtain ⟨a, _, rfl⟩ := List.mem_map.mp hd; rfl⟩
        · walk_at "pd"
          exact fin ef _ (PD.Sub.new hq)
end
def wayK (mk : Str) : Way := ⟨mk, [.plain [.none]], []⟩
def prgK (mk lt : Str) (js : List Jd) (as : List (Str × Ak)) : Prog := ⟨[97, 98], 1, [], [], lt, [(lt, [wayK mk])], js.map Jd.d, as.map akR⟩
def treK (mk lt : Str) (js : List Jd) : List D := [.str "program", .str "ab", .int 1, .tup [], .tup [], .str lt, .tup [.tup [.str lt, .tup [.tup [.str mk, .tup [.tup [.str "plain", .tup [.tup [.str "none"]]]], .tup []]]]], .tup (js.map Jd.d)]
theorem prgK_w {mk lt : Str} {js : List Jd} {as : List (Str × Ak)} {y : Way} (h : y ∈ (prgK mk lt js as).ways) : y = wayK mk := by
  have : (prgK mk lt js as).ways = [wayK mk] := rfl
  rw [this] at h
  exact List.mem_singleton.mp h
theorem prgK_ok {mk lt : Str} {js : List Jd} {as : List (Str × Ak)} (h1 : (js.map (·.nm)).Nodup) (h2 : js.length ≤ 8) (h3 : ∀ j ∈ js, JkO mk j) (h4 : (as.map (·.1)).Nodup) (h5 : as.length ≤ 6) (h6 : ∀ q ∈ as, sizeA q.2 ≤ 14) : G22 (prgK mk lt js as) js as := by
  refine { pr := Nat.zero_le _, lt := by show 1 ≤ 100; decide, wd := fun _ h => (List.not_mem_nil h).elim, ws := fun l h => ?_, wy := fun y h => ?_, ll := by show (0 : Nat) ≤ 100000; decide, ndP := List.nodup_nil, ndL := by show [lt].Nodup; simp, wp := fun _ h => (List.not_mem_nil h).elim, pc := fun y h q hq => ?_, st := List.mem_singleton.mpr rfl, mkk := fun y h v hv _ => by rw [prgK_w h, prgK_w hv], ts := fun y h t ht => ?_, nn := rfl, ej := rfl, ea := rfl, jn := h1, jl := by omega, jb := fun j hj => ?_, an := h4, al := by omega, az := fun q hq => by have := h6 q hq; omega }
  · rw [List.mem_singleton.mp h]; show 1 ≤ 100; decide
  · rw [prgK_w h]; exact ⟨by show 1 ≤ 100; decide, by show 0 ≤ 100; decide⟩
  · rw [prgK_w h] at hq
    rw [List.mem_singleton.mp hq]
    exact ⟨by show 1 ≤ 10; decide, fun l hl => by cases List.mem_singleton.mp hl⟩
  · rw [prgK_w h] at ht; cases ht
  · obtain ⟨z, e1, e2⟩ := h3 j hj
    exact ⟨z, mk, e1, e2, rfl⟩
theorem cut_fr {α : Type} (xs : List α) (n : Nat) (h : n ≤ xs.length) : PD.cutD xs (some (n : Int)) none = xs.drop n := by
  unfold PD.cutD
  rw [HT.sIx_none, HT.sIx_nat, Nat.min_eq_left h, List.take_of_length_le (by rw [List.length_drop]; omega)]
theorem sam_ak : ∀ (x : Ak) (n : Nat), sizeA x ≤ n → samD n (akD x) = true
  | x, 0, h => by have := size_pos x; omega
  | .one w j, n + 1, _ => by show samD (n + 1) (.tup [.str w.s, .str j]) = true; simp [samD]
  | .sm w k j, n + 1, _ => by show samD (n + 1) (.tup [.str w.s, .int k, .str j]) = true; simp [samD]
  | .fst, n + 1, _ => by show samD (n + 1) (.tup [.str "first"]) = true; simp [samD]
  | .each j b, n + 1, h => by
    have hb : sizeA b ≤ n := by have : sizeA (.each j b) = sizeA b + 1 := rfl; omega
    show samD (n + 1) (.tup [.str "each", .str j, akD b]) = true
    simp [samD, sam_ak b n hb]
  | .two w a b, n + 1, h => by
    have h2 : sizeA (.two w a b) = sizeA a + sizeA b + 1 := rfl
    show samD (n + 1) (.tup [.str w.s, akD a, akD b]) = true
    simp [samD, sam_ak a n (by omega), sam_ak b n (by omega)]
theorem Tp.sub {m m' : Mu} {a g : Addr} (h : Tp m a g) (S : PD.Sub m m') : Tp m' a g := h.keep (fun o e => S _ _ e) fun o e => S _ _ e
theorem askOut_app (l : List (Str × Str)) (q : Str × Ak) : ∀ as : List (Str × Ak), askOut l (as ++ [q]) = match askOut l as with | .fine => askOut l [q] | o => o
  | [] => rfl
  | a :: as => by
    have ih := askOut_app l q as
    rw [List.cons_append]
    show askOut l (a :: (as ++ [q])) = match askOut l (a :: as) with | .fine => askOut l [q] | o => o
    rw [askOut.eq_2, askOut.eq_2]
    cases badJ l (judgesA a.2) with
    | some j => rfl
    | none =>
      dsimp only
      cases akGood l a.2 with
      | true => rw [if_pos rfl, if_pos rfl]; exact ih
      | false => rfl
section
variable {P : Program} {w : World} {K : PySem.W.Frag} {mg : Str → Option Value} {base : Heap}
def sp_law : SpD := fun ds m Q => ∃ ns : List Int, ds = [.rol (ns.map .int)] ∧ ns.length ≤ 63 ∧ ∀ m', Q (.bl true) m'
set_option maxHeartbeats 8000000 in
theorem ok_law  (T : Txt K mg) (G__law_same : FnOk P w K mg base CX0 (16) T.f__law_same T.fd__law_same ["_law_told_here", "_law_due_here"] (spL K 2 (sp__law_same 14))) (G__law_told : FnOk P w K mg base CX0 (18) T.f__law_told T.fd__law_told ["_law_tree", "_law_how"] (spL K 2 sp__law_told)) (G__law_pick : FnOk P w K mg base CX0 (1) T.f__law_pick T.fd__law_pick ["_law_pool", "_law_many"] (spL K 2 sp__law_pick)) (G__law_due : FnOk P w K mg base CX0 (17) T.f__law_due T.fd__law_due ["_law_name", "_law_wish_here", "_law_judges_here"] (spL K 3 sp__law_due)) (G__law_wish : FnOk P w K mg base CX0 (8) T.f__law_wish T.fd__law_wish ["_law_pool", "_law_room", "_law_left", "_law_noise", "_law_names_here"] (spL K 5 (sp__law_wish 4))) (G__law_framed : FnOk P w K mg base CX0 (4) T.f__law_framed T.fd__law_framed ["_law_pool", "_law_one", "_law_name", "_law_known"] (spL K 4 sp__law_framed)) (G__law_basic : FnOk P w K mg base CX0 (2) T.f__law_basic T.fd__law_basic ["_law_pool", "_law_name", "_law_what"] (spL K 3 sp__law_basic)) (G__law_judges : FnOk P w K mg base CX0 (2) T.f__law_judges T.fd__law_judges ["_law_pool", "_law_names_here", "_law_maker"] (spL K 3 sp__law_judges)) (G__law_names : FnOk P w K mg base CX0 (2) T.f__law_names T.fd__law_names ["_law_pool"] (spL K 1 sp__law_names)) : FnOk P w K mg base CX0 (20) T.f_law T.fd_law ["_law_script"] (spL K 1 sp_law) := by
  refine fn_ok T.F_law sc_law (fun cdv A outer s H E hr =>
(gss_cons (gs_set (i := 1) sc_law.nd rfl (.inl rfl) (ge_lst (ga_cons (ge_callTy call_list_of lc_list (by rfl) T.z_list (by decide +kernel) (ga_cons (gv 0) ga_nil)) (ga_cons ge_int (ga_cons ge_int (ga_cons ge_int ga_nil))))))
 (gss_cons (gs_fz 2 (gs_set (i := 2) sc_law.nd rfl (.inl rfl) (ge_call G__law_names (hr.mono (by omega)) (by rfl) T.g__law_names T.F__law_names.kp T.b__law_names (ga_cons (gv 1) ga_nil))))
 (gss_cons (gs_set (i := 3) sc_law.nd rfl (.inl rfl) (ge_call G__law_pick (hr.mono (by omega)) (by rfl) T.g__law_pick T.F__law_pick.kp T.b__law_pick (ga_cons (gv 1) (ga_cons ge_int ga_nil))))
 (gss_cons (gs_fz 4 (gs_set (i := 4) sc_law.nd rfl (.inl rfl) (ge_op op_addL lr_addL (ge_sliceL (gv 2) (go_some (gv 3)) go_none) (ge_sliceL (gv 2) go_none (go_some (gv 3))))))
 (gss_cons (gs_fz 5 (gs_set (i := 5) sc_law.nd rfl (.inl rfl) (ge_call G__law_judges (hr.mono (by omega)) (by rfl) T.g__law_judges T.F__law_judges.kp T.b__law_judges (ga_cons (gv 1) (ga_cons (gv 2) (ga_cons (ge_ix (gv 2) ge_int) ga_nil))))))
 (gss_cons (gs_set (i := 6) sc_law.nd rfl (.inl rfl) (ge_tup (ga_cons (ge_ix (gv 2) (ge_call G__law_pick (hr.mono (by omega)) (by rfl) T.g__law_pick T.F__law_pick.kp T.b__law_pick (ga_cons (gv 1) (ga_cons ge_int ga_nil)))) (ga_cons (ge_tup (ga_cons (ge_tup (ga_cons (ge_ix (gv 2) ge_int) (ga_cons (ge_tup (ga_cons (ge_tup (ga_cons ge_str (ga_cons (ge_tup (ga_cons (ge_tup (ga_cons ge_str ga_nil)) ga_nil)) ga_nil))) ga_nil)) (ga_cons (ge_tup ga_nil) ga_nil)))) ga_nil)) ga_nil))))
 (gss_cons (gs_set (i := 7) sc_law.nd rfl (.inl rfl) (ge_tup (ga_cons ge_str (ga_cons ge_str (ga_cons ge_int (ga_cons (ge_tup ga_nil) (ga_cons (ge_tup ga_nil) (ga_cons (ge_ix (gv 6) ge_int) (ga_cons (ge_tup (ga_cons (gv 6) ga_nil)) (ga_cons (ge_callTy call_tuple_of lc_tuple (by rfl) T.z_tuple (by decide +kernel) (ga_cons (gv 5) ga_nil)) ga_nil))))))))))
 (gss_cons (gs_fz 8 (gs_setLc (i := 8) (own := [("_law_line", 17)]) rfl sc_law.nd rfl rfl (sw_true rfl rfl rfl (by decide +kernel)) (gi_seq (gv 5)) (blkOk_by (N := N_law) (sc := defScope s_law) (by decide +kernel)) (fun _ _ _ _ _ => (gg_name (i := 17) sc_law.nd rfl (.inl rfl))) (fun _ _ _ _ _ => gts_nil) (fun _ _ _ _ _ => (ge_tup (ga_cons (ge_ix (gv 17) ge_int) (ga_cons (ge_ix (gv 17) ge_int) ga_nil)))) (by decide)))
 (gss_cons (gs_for PassesOwn.never rfl (gi_seq (ge_op op_addL lr_addL (ge_lc (own := [("_law_pair", 20)]) rfl sc_law.nd (gi_seq (ge_sliceL (gv 8) go_none (go_some ge_int))) (blkOk_by (N := N_law) (sc := defScope s_law) (by decide +kernel)) (fun _ _ _ _ _ => (gg_name (i := 20) sc_law.nd rfl (.inl rfl))) (fun _ _ _ _ _ => gts_nil) (fun _ _ _ _ _ => (ge_ix (gv 20) ge_int)) (by decide)) (ge_lst (ga_cons (ge_ix (gv 2) ge_int) ga_nil)))) (gg_name (i := 9) sc_law.nd rfl (.inl rfl))
 (gss_one (gs_for PassesOwn.never rfl (gi_rng1 (by rfl) T.z_range (ga_cons ge_int ga_nil)) (gg_name (i := 11) sc_law.nd rfl (.inl rfl))
 (gss_cons (gs_set (i := 17) sc_law.nd rfl (.inl rfl) (ge_tup (ga_cons (ge_ix (gv 4) ge_int) (ga_cons (ge_call G__law_basic (hr.mono (by omega)) (by rfl) T.g__law_basic T.F__law_basic.kp T.b__law_basic (ga_cons (gv 1) (ga_cons (gv 9) (ga_cons (gv 11) ga_nil)))) ga_nil))))
 (gss_one (gs_if (gt_not (gt_val (ge_call G__law_same (hr.mono (by omega)) (by rfl) T.g__law_same T.F__law_same.kp T.b__law_same (ga_cons (ge_call G__law_told (hr.mono (by omega)) (by rfl) T.g__law_told T.F__law_told.kp T.b__law_told (ga_cons (ge_frz (ge_op op_addL lr_addL (gv 7) (ge_tup (ga_cons (ge_tup (ga_cons (gv 17) ga_nil)) ga_nil)))) (ga_cons ge_int ga_nil))) (ga_cons (ge_call G__law_due (hr.mono (by omega)) (by rfl) T.g__law_due T.F__law_due.kp T.b__law_due (ga_cons (ge_ix (gv 17) ge_int) (ga_cons (ge_ix (gv 17) ge_int) (ga_cons (ge_frz (gv 8)) ga_nil)))) ga_nil)))))
 (gss_one (gs_ret ge_bl))
 gss_nil))))))
 (gss_cons (gs_for PassesOwn.never rfl (gi_rng1 (by rfl) T.z_range (ga_cons ge_int ga_nil)) (gg_name (i := 10) sc_law.nd rfl (.inl rfl))
 (gss_cons (gs_set (i := 9) sc_law.nd rfl (.inl rfl) (ge_ix (ge_op op_addL lr_addL (ge_lc (own := [("_law_line", 17)]) rfl sc_law.nd (gi_seq (gv 5)) (blkOk_by (N := N_law) (sc := defScope s_law) (by decide +kernel)) (fun _ _ _ _ _ => (gg_name (i := 17) sc_law.nd rfl (.inl rfl))) (fun _ _ _ _ _ => gts_nil) (fun _ _ _ _ _ => (ge_ix (gv 17) ge_int)) (by decide)) (ge_lst (ga_cons (ge_ix (gv 2) ge_int) ga_nil))) (ge_call G__law_pick (hr.mono (by omega)) (by rfl) T.g__law_pick T.F__law_pick.kp T.b__law_pick (ga_cons (gv 1) (ga_cons (ge_frz (ge_op op_addL lr_addL (ge_callB call_lenU lc_len (by rfl) T.z_len PySem.boot_len (ga_cons (gv 5) ga_nil)) ge_int)) ga_nil)))))
 (gss_one (gs_for PassesOwn.never rfl (gi_rng1 (by rfl) T.z_range (ga_cons ge_int ga_nil)) (gg_name (i := 11) sc_law.nd rfl (.inl rfl))
 (gss_cons (gs_set (i := 18) sc_law.nd rfl (.inl rfl) (ge_call G__law_framed (hr.mono (by omega)) (by rfl) T.g__law_framed T.F__law_framed.kp T.b__law_framed (ga_cons (gv 1) (ga_cons (ge_call G__law_basic (hr.mono (by omega)) (by rfl) T.g__law_basic T.F__law_basic.kp T.b__law_basic (ga_cons (gv 1) (ga_cons (gv 9) (ga_cons (gv 11) ga_nil)))) (ga_cons (gv 9) (ga_cons (ge_frz (gv 8)) ga_nil))))))
 (gss_one (gs_if (gt_not (gt_val (ge_call G__law_same (hr.mono (by omega)) (by rfl) T.g__law_same T.F__law_same.kp T.b__law_same (ga_cons (ge_call G__law_told (hr.mono (by omega)) (by rfl) T.g__law_told T.F__law_told.kp T.b__law_told (ga_cons (ge_frz (ge_op op_addL lr_addL (gv 7) (ge_tup (ga_cons (ge_tup (ga_cons (ge_tup (ga_cons (ge_ix (gv 4) ge_int) (ga_cons (gv 18) ga_nil))) ga_nil)) ga_nil)))) (ga_cons ge_int ga_nil))) (ga_cons (ge_call G__law_due (hr.mono (by omega)) (by rfl) T.g__law_due T.F__law_due.kp T.b__law_due (ga_cons (ge_ix (gv 4) ge_int) (ga_cons (gv 18) (ga_cons (ge_frz (gv 8)) ga_nil)))) ga_nil)))))
 (gss_one (gs_ret ge_bl))
 gss_nil)))))))
 (gss_cons (gs_for PassesOwn.never rfl (gi_rng1 (by rfl) T.z_range (ga_cons ge_int ga_nil)) (gg_name (i := 10) sc_law.nd rfl (.inl rfl))
 (gss_cons (gs_set (i := 12) sc_law.nd rfl (.inl rfl) (ge_ix (ge_lst (ga_cons ge_int (ga_cons ge_int (ga_cons ge_int (ga_cons ge_int (ga_cons ge_int ga_nil)))))) (ge_call G__law_pick (hr.mono (by omega)) (by rfl) T.g__law_pick T.F__law_pick.kp T.b__law_pick (ga_cons (gv 1) (ga_cons ge_int ga_nil)))))
 (gss_cons (gs_set (i := 13) sc_law.nd rfl (.inl rfl) (ge_lst ga_nil))
 (gss_cons (gs_set (i := 14) sc_law.nd rfl (.inl rfl) ge_non)
 (gss_cons (gs_for PassesOwn.never rfl (gi_rng1 (by rfl) T.z_range (ga_cons (ge_ix (ge_lst (ga_cons ge_int (ga_cons ge_int (ga_cons ge_int (ga_cons ge_int ga_nil))))) (ge_call G__law_pick (hr.mono (by omega)) (by rfl) T.g__law_pick T.F__law_pick.kp T.b__law_pick (ga_cons (gv 1) (ga_cons ge_int ga_nil)))) ga_nil)) (gg_name (i := 15) sc_law.nd rfl (.inl rfl))
 (gss_cons (gs_set (i := 19) sc_law.nd rfl (.inl rfl) (ge_callB (cr_minU rfl hr.units) lc_minU (by rfl) T.z_min (by decide +kernel) (ga_cons (ge_op op_addL lr_addL ge_int (ge_call G__law_pick (hr.mono (by omega)) (by rfl) T.g__law_pick T.F__law_pick.kp T.b__law_pick (ga_cons (gv 1) (ga_cons ge_int ga_nil)))) (ga_cons (ge_op op_addL lr_addL (ge_callB call_lenU lc_len (by rfl) T.z_len PySem.boot_len (ga_cons (gv 8) ga_nil)) ge_int) ga_nil))))
 (gss_cons (gs_set (i := 18) sc_law.nd rfl (.inl rfl) (ge_call G__law_wish (hr.mono (by omega)) (by rfl) T.g__law_wish T.F__law_wish.kp T.b__law_wish (ga_cons (gv 1) (ga_cons (gv 19) (ga_cons (ge_op op_addL lr_addL (gv 8) (ge_lst (ga_cons (ge_tup (ga_cons ge_str (ga_cons ge_str ga_nil))) ga_nil))) (ga_cons (gv 12) (ga_cons (gv 2) ga_nil)))))))
 (gss_cons (gs_expr (ge_bm PySem.F.slot_list_append PySem.F.type_list_append mt_append lm_append (gv 13) (ga_cons (ge_tup (ga_cons (ge_ix (gv 4) (gv 15)) (ga_cons (gv 18) ga_nil))) ga_nil)))
 (gss_one (gs_if (gt_cmpR op_isN lr_isN (gv 14) ge_non (nomark _))
 (gss_one (gs_set (i := 14) sc_law.nd rfl (.inl rfl) (ge_call G__law_due (hr.mono (by omega)) (by rfl) T.g__law_due T.F__law_due.kp T.b__law_due (ga_cons (ge_ix (gv 4) (gv 15)) (ga_cons (gv 18) (ga_cons (ge_frz (gv 8)) ga_nil))))))
 gss_nil))))))
 (gss_one (gs_for PassesOwn.never rfl (gi_rng1 (by rfl) T.z_range (ga_cons ge_int ga_nil)) (gg_name (i := 16) sc_law.nd rfl (.inl rfl))
 (gss_one (gs_if (gt_not (gt_val (ge_call G__law_same (hr.mono (by omega)) (by rfl) T.g__law_same T.F__law_same.kp T.b__law_same (ga_cons (ge_call G__law_told (hr.mono (by omega)) (by rfl) T.g__law_told T.F__law_told.kp T.b__law_told (ga_cons (ge_frz (ge_op op_addL lr_addL (gv 7) (ge_tup (ga_cons (ge_callTy call_tuple_of lc_tuple (by rfl) T.z_tuple (by decide +kernel) (ga_cons (gv 13) ga_nil)) ga_nil)))) (ga_cons (gv 16) ga_nil))) (ga_cons (gv 14) ga_nil)))))
 (gss_one (gs_ret ge_bl))
 gss_nil)))))))))
 (gss_one (gs_ret ge_bl)))))))))))))) (fun ds m Q h => ?_)
  obtain ⟨ns, rfl, hl, h⟩ := h
  rw [show startD N_law [.rol (ns.map .int)] = [some (.rol (ns.map .int)), none, none, none, none, none, none, none, none, none, none, none, none, none, none, none, none, none, none, none, none] from rfl]
  refine seq_cut (fun s' m' => ∃ a g, s' = [some (.rol (ns.map .int)), some (.ref a), none, none, none, none, none, none, none, none, none, none, none, none, none, none, none, none, none, none, none] ∧ Tp m' a g) (fun R hR => ?_) ?_
  · walk_at "pd"
    intro p hp q hq
    obtain ⟨q1, qp⟩ := mset_none hq
    exact hR _ _ ⟨q, p, rfl, ns, 0, 17, 0, mset_same, by rw [mset_ne (Ne.symm qp)]; exact mset_same, Ne.symm qp, hl⟩
  rintro s' m1 ⟨a, g, rfl, T1⟩
  refine seq_cut (fun s' m' => ∃ nm : List Str, s' = [some (.rol (ns.map .int)), some (.ref a), some (.rol (nm.map .str)), none, none, none, none, none, none, none, none, none, none, none, none, none, none, none, none, none, none] ∧ nm.length = 20 ∧ nm.Nodup ∧ Tp m' a g) (fun R hR => ?_) ?_
  · walk_at "pd"
    refine ⟨a, g, rfl, T1, fun nm p m' h1 h2 h3 h4 O5 T5 => ⟨p, _, rfl, h4, hR _ _ ⟨nm, rfl, h1, h2, ?_⟩⟩⟩
    obtain ⟨pa, pg⟩ := T1.ne h3
    exact T5.del pa pg
  rintro s' m2 ⟨nm, rfl, hnl, hnd, T2⟩
  refine seq_cut (fun s' m' => ∃ (r : Nat), s' = [some (.rol (ns.map .int)), some (.ref a), some (.rol (nm.map .str)), some (.int (r : Int)), none, none, none, none, none, none, none, none, none, none, none, none, none, none, none, none, none] ∧ r < 20 ∧ Tp m' a g) (fun R hR => ?_) ?_
  · walk_at "pd"
    refine ⟨_, g, _, rfl, by omega, by omega, T2, fun r m3 a3 b3 O3 T3 => ?_⟩
    obtain ⟨i, rfl⟩ := Int.eq_ofNat_of_zero_le a3
    exact hR _ _ ⟨i, rfl, by omega, T3⟩
  rintro s' m3 ⟨r, rfl, hr20, T3⟩
  refine seq_cut (fun s' m' => ∃ ak : List Str, s' = [some (.rol (ns.map .int)), some (.ref a), some (.rol (nm.map .str)), some (.int (r : Int)), some (.rol (ak.map .str)), none, none, none, none, none, none, none, none, none, none, none, none, none, none, none, none] ∧ ak.length = 20 ∧ ak.Nodup ∧ Tp m' a g) (fun R hR => ?_) ?_
  · walk_at "pd"
    have ec : PD.cutD (nm.map D.str) (some (r : Int)) none = (nm.drop r).map D.str := by
      rw [List.map_drop]; exact cut_fr _ _ (by rw [List.length_map]; omega)
    rw [cut_take, ec, ← List.map_take]
    intro p hp q hq
    obtain ⟨q1, qp⟩ := mset_none hq
    refine ⟨_, _, lsq_ref (by rw [mset_ne (Ne.symm qp)]; exact mset_same), lsq_ref mset_same, ?_, fun u hu => ⟨u, _, rfl, mset_same, ?_⟩⟩
    · rw [List.length_map, List.length_map, List.length_drop, List.length_take]
      exact Nat.le_trans (by omega : _ ≤ 20) (by decide)
    have TT := Tp.new (o := .lst ((nm.take r).map D.str)) (Tp.new (o := .lst ((nm.drop r).map D.str)) T3 hp) hq
    rw [mdel_mset, mdel_none hu, ← List.map_append]
    refine hR _ _ ⟨nm.drop r ++ nm.take r, rfl, by rw [List.length_append, List.length_drop, List.length_take]; omega, ?_, TT⟩
    have e1 : (nm.take r ++ nm.drop r).Nodup := by rw [List.take_append_drop]; exact hnd
    exact (List.perm_append_comm.nodup_iff).mp e1
  rintro s' m4 ⟨ak, rfl, hal, had, T4⟩
  refine seq_cut (fun s' m' => ∃ js : List Jd, s' = [some (.rol (ns.map .int)), some (.ref a), some (.rol (nm.map .str)), some (.int (r : Int)), some (.rol (ak.map .str)), some (.rol (js.map Jd.d)), none, none, none, none, none, none, none, none, none, none, none, none, none, none, none] ∧ js.length ≤ 8 ∧ (js.map (·.nm)).Nodup ∧ (∀ j ∈ js, JkO (nm.getD 19 "") j) ∧ Tp m' a g) (fun R hR => ?_) ?_
  · walk_at "pd"
    have h19 : 19 < nm.length := by omega
    have e19 : nm.getD 19 "" = nm[19] := by rw [List.getD_eq_getElem?_getD, List.getElem?_eq_getElem h19]; rfl
    refine ⟨_, atI_map (f := D.str) (List.getElem?_eq_getElem h19), ?_⟩
    refine ⟨a, g, nm, nm[19], rfl, hnl, T4, fun js p m' h1 h2 h3 h4 h5 O6 T6 => ⟨p, _, rfl, h5, hR _ _ ⟨js, rfl, h1, ?_, ?_, ?_⟩⟩⟩
    · rw [h2]; exact hnd.sublist (List.take_sublist ..)
    · rw [e19]; exact h3
    · obtain ⟨pa, pg⟩ := T4.ne h4
      exact T6.del pa pg
  rintro s' m5 ⟨js, rfl, hjl, hjn, hjo, T5⟩
  refine seq_cut (fun s' m' => ∃ lt : Str, s' = [some (.rol (ns.map .int)), some (.ref a), some (.rol (nm.map .str)), some (.int (r : Int)), some (.rol (ak.map .str)), some (.rol (js.map Jd.d)), some (lotD (lt, [wayK (nm.getD 19 "")])), none, none, none, none, none, none, none, none, none, none, none, none, none, none] ∧ Tp m' a g) (fun R hR => ?_) ?_
  · walk_at "pd"
    have h19 : 19 < nm.length := by omega
    have e19 : nm.getD 19 "" = nm[19] := by rw [List.getD_eq_getElem?_getD, List.getElem?_eq_getElem h19]; rfl
    refine ⟨_, g, _, rfl, by omega, by omega, T5, fun r2 m3 a3 b3 O3 T3 => ?_⟩
    obtain ⟨i, rfl⟩ := Int.eq_ofNat_of_zero_le a3
    have hi : i < nm.length := by omega
    refine dIx_seq rfl (atI_map (f := D.str) (List.getElem?_eq_getElem hi)) ?_
    refine ⟨_, atI_map (f := D.str) (List.getElem?_eq_getElem h19), ?_⟩
    refine hR _ _ ⟨nm[i], ?_, T3⟩
    rw [e19]; rfl
  rintro s' m6 ⟨lt, rfl, T6⟩
  refine seq_cut (fun s' m' => s' = [some (.rol (ns.map .int)), some (.ref a), some (.rol (nm.map .str)), some (.int (r : Int)), some (.rol (ak.map .str)), some (.rol (js.map Jd.d)), some (lotD (lt, [wayK (nm.getD 19 "")])), some (.tup (treK (nm.getD 19 "") lt js)), none, none, none, none, none, none, none, none, none, none, none, none, none] ∧ m' = m6) (fun R hR => ?_) ?_
  · walk_at "pd"
    exact dIx_seq (show seqOf m6 (lotD (lt, [wayK (nm.getD 19 "")])) = some [.str lt, waysD [wayK (nm.getD 19 "")]] from rfl) (show atI [D.str lt, waysD [wayK (nm.getD 19 "")]] 0 = some (.str lt) from rfl) (hR _ _ ⟨rfl, rfl⟩)
  rintro s' m7 ⟨rfl, rfl⟩
  refine seq_cut (fun s' m' => (∃ c17, s' = [some (.rol (ns.map .int)), some (.ref a), some (.rol (nm.map .str)), some (.int (r : Int)), some (.rol (ak.map .str)), some (.rol (js.map Jd.d)), some (lotD (lt, [wayK (nm.getD 19 "")])), some (.tup (treK (nm.getD 19 "") lt js)), some (.rol ((js.map Jd.s).map jD)), none, none, none, none, none, none, none, none, c17, none, none, none]) ∧ Tp m' a g) (fun R hR => ?_) ?_
  · walk_at "pd"
    intro p hp
    refine comp_all (st := fun _ => True) (us := js) Jd.d (fun j => jD j.s) (fun _ => trivial) (by omega) (fun j hj acc R1 k1 => ?_) ?_
    · unfold Jd.d
      walk_at "pd"
      exact k1
    refine ⟨p, _, rfl, mset_same, ?_⟩
    rw [mdel_mset, mdel_none hp]
    exact hR _ _ ⟨⟨_, by rw [List.map_map]; rfl⟩, T6⟩
  rintro s' m8 ⟨⟨c17, rfl⟩, T8⟩
  have hks : ((js.map Jd.s).map (·.1)).Nodup := by rw [List.map_map]; exact hjn
  have hkl : (js.map Jd.s).length ≤ 8 := by rw [List.length_map]; exact hjl
  generalize nm.getD 19 "" = mk at *
  -- told and due are the same
  have one : ∀ (n : Str) (x : Ak) (m12 : Mu) (k : Int) (R : D → Mu → Prop), 0 ≤ k → k < 3 → sizeA x ≤ 14 → (∀ m', PD.Sub m12 m' → R (.bl true) m') → sp__law_told [.tup (treK mk lt js ++ [.tup [.tup [.str n, akD x]]]), .int k] m12 fun x1 m1 => sp__law_due [.str n, akD x, .rol ((js.map Jd.s).map jD)] m1 fun x2 m1 => sp__law_same 14 [x1, x2] m1 R := fun n x m12 k R k0 k3 hx hR =>
    ⟨prgK mk lt js [(n, x)], js, [(n, x)], k, rfl, k0, k3, prgK_ok hjn hjl hjo (by simp) (by show 1 ≤ 6; omega) (fun q hq => by rw [List.mem_singleton.mp hq]; exact hx), fun q hq => by rw [List.mem_singleton.mp hq]; exact sam_ak _ _ hx, fun m2 S2 => ⟨n, x, js.map Jd.s, rfl, hx, hkl, hks, fun m3 kp al => ⟨_, rfl, by cases askOut (js.map Jd.s) [(n, x)] <;> rfl, hR m3 (S2.trans kp)⟩⟩⟩
  have htl : (treK mk lt js).length + 1 ≤ sizeLine := (by decide : 8 + 1 ≤ sizeLine)
  refine seq_cut (fun s' m' => (∃ c9 c10 c11 c17 c18 c20, s' = [some (.rol (ns.map .int)), some (.ref a), some (.rol (nm.map .str)), some (.int (r : Int)), some (.rol (ak.map .str)), some (.rol (js.map Jd.d)), some (lotD (lt, [wayK mk])), some (.tup (treK mk lt js)), some (.rol ((js.map Jd.s).map jD)), c9, c10, c11, none, none, none, none, none, c17, c18, none, c20]) ∧ Tp m' a g) (fun R hR => ?_) ?_
  · walk_at "pd"
    intro p hp
    rw [show (4 : Int) = ((4 : Nat) : Int) from rfl, cut_take, ← List.map_take]
    have hkl4 : ((js.map Jd.s).take 4).length ≤ 4 := by rw [List.length_take]; omega
    generalize (js.map Jd.s).take 4 = k4 at hkl4
    refine ⟨_, seqOf_ref mset_same, fun q hq => ?_⟩
    obtain ⟨q1, qp⟩ := mset_none hq
    refine comp_all (us := k4) jD (fun j => .str j.1) (fun acc => seqOf_ref (by rw [mset_ne (Ne.symm qp)]; exact mset_same)) (by omega) (fun j hj acc R1 k1 => ?_) ?_
    · unfold jD
      walk_at "pd"
      exact k1
    have h9 : 9 < nm.length := by omega
    refine ⟨_, atI_map (f := D.str) (List.getElem?_eq_getElem h9), fun v hv => ?_⟩
    obtain ⟨v1, vq⟩ := mset_none hv
    obtain ⟨v2, vp⟩ := mset_none v1
    walk_at "pd"
    refine ⟨_, _, lsq_ref (by rw [mset_ne (Ne.symm vq)]; exact mset_same), lsq_ref mset_same, by rw [List.length_map]; exact Nat.le_trans (show k4.length + 1 ≤ 5 by omega) (by decide), fun u hu => ?_⟩
    have TT := Tp.new (o := .lst [.str nm[9]]) (Tp.new (o := .lst (k4.map fun j => D.str j.1)) (Tp.new (o := .lst (k4.map jD)) T8 hp) hq) hv
    rw [show (k4.map fun j => D.str j.1) ++ [D.str nm[9]] = (k4.map (·.1) ++ [nm[9]]).map D.str from by rw [List.map_append, List.map_map]; rfl]
    obtain ⟨ua, ug⟩ := TT.ne hu
    have TU := Tp.new (o := .lst ((k4.map (·.1) ++ [nm[9]]).map D.str)) TT hu
    generalize k4.map (·.1) ++ [nm[9]] = zs at TU
    have eu : mset (mset (mset (mset m8 p (.lst (k4.map jD))) q (.lst (k4.map fun j => D.str j.1))) v (.lst [.str nm[9]])) u (.lst (zs.map D.str)) u = some (.lst (zs.map D.str)) := mset_same
    generalize mset (mset (mset (mset m8 p (.lst (k4.map jD))) q (.lst (k4.map fun j => D.str j.1))) v (.lst [.str nm[9]])) u (.lst (zs.map D.str)) = m9 at *
    refine ⟨_, seqOf_ref eu, ?_⟩
    have hak : 0 < ak.length := by omega
    refine loop_pre (us := zs) (fun pre s' m' => (∃ c9 c11 c17, s' = [some (.rol (ns.map .int)), some (.ref a), some (.rol (nm.map .str)), some (.int (r : Int)), some (.rol (ak.map .str)), some (.rol (js.map Jd.d)), some (lotD (lt, [wayK mk])), some (.tup (treK mk lt js)), some (.rol ((js.map Jd.s).map jD)), c9, none, c11, none, none, none, none, none, c17, none, none, none]) ∧ m' u = some (.lst (zs.map .str)) ∧ Tp m' a g) D.str (fun _ _ _ J => seqOf_ref J.2.1) ?_ ?_ ⟨⟨_, _, _, rfl⟩, eu, TU⟩
    · rintro pre z post ez s' m10 R2 ⟨⟨c9, c11, c17, rfl⟩, eu10, T10⟩ hR2
      walk_at "pd"
      rw [show Int.toNat 9 = 9 from rfl]
      refine loop_range (fun i s' m' => (∃ c11 c17, s' = [some (.rol (ns.map .int)), some (.ref a), some (.rol (nm.map .str)), some (.int (r : Int)), some (.rol (ak.map .str)), some (.rol (js.map Jd.d)), some (lotD (lt, [wayK mk])), some (.tup (treK mk lt js)), some (.rol ((js.map Jd.s).map jD)), some (.str z), none, c11, none, none, none, none, none, c17, none, none, none]) ∧ m' u = some (.lst (zs.map .str)) ∧ Tp m' a g) ?_ ?_ ⟨⟨_, _, rfl⟩, eu10, T10⟩
      · rintro i s' m11 R3 hi hR3 ⟨⟨c11, c17, rfl⟩, eu11, T11⟩
        refine ⟨trivial, ?_⟩
        walk_at "pd"
        refine ⟨_, atI_map (f := D.str) (List.getElem?_eq_getElem hak), ?_⟩
        refine ⟨a, g, z, (i : Int), rfl, by omega, by omega, T11, fun x m12 hx O12 T12 => ?_⟩
        have eu12 := O12.kp _ _ ua ug eu11
        walk_at "pd"
        refine ⟨htl, one _ x m12 0 _ (by decide) (by decide) (by omega) fun m' S => ?_⟩
        walk_at "w"
        exact hR3 _ _ ⟨⟨_, _, rfl⟩, S _ _ eu12, T12.sub S⟩
      · rintro s' m11 ⟨⟨c11, c17, rfl⟩, eu11, T11⟩
        exact ⟨trivial, hR2 _ _ ⟨⟨_, _, _, rfl⟩, eu11, T11⟩⟩
    · rintro s' m10 ⟨⟨c9, c11, c17, rfl⟩, eu10, T10⟩
      exact hR _ _ ⟨⟨_, _, _, _, _, _, rfl⟩, T10⟩
  rintro s' m9 ⟨⟨c9, c10, c11, c17, c18, c20, rfl⟩, T9⟩
  refine seq_cut (fun s' m' => (∃ c9 c10 c11 c17 c18 c20, s' = [some (.rol (ns.map .int)), some (.ref a), some (.rol (nm.map .str)), some (.int (r : Int)), some (.rol (ak.map .str)), some (.rol (js.map Jd.d)), some (lotD (lt, [wayK mk])), some (.tup (treK mk lt js)), some (.rol ((js.map Jd.s).map jD)), c9, c10, c11, none, none, none, none, none, c17, c18, none, c20]) ∧ Tp m' a g) (fun R hR => ?_) ?_
  · walk_at "pd"
    rw [show Int.toNat 3 = 3 from rfl]
    refine loop_range (fun i s' m' => (∃ c9 c10 c11 c17 c18 c20, s' = [some (.rol (ns.map .int)), some (.ref a), some (.rol (nm.map .str)), some (.int (r : Int)), some (.rol (ak.map .str)), some (.rol (js.map Jd.d)), some (lotD (lt, [wayK mk])), some (.tup (treK mk lt js)), some (.rol ((js.map Jd.s).map jD)), c9, c10, c11, none, none, none, none, none, c17, c18, none, c20]) ∧ Tp m' a g) ?_ ?_ ⟨⟨_, _, _, _, _, _, rfl⟩, T9⟩
    · rintro i s' m10 R2 hi hR2 ⟨⟨c9, c10, c11, c17, c18, c20, rfl⟩, T10⟩
      refine ⟨trivial, ?_⟩
      walk_at "pd"
      intro p hp
      refine comp_all (st := fun _ => True) (us := js) Jd.d (fun j => .str j.nm) (fun _ => trivial) (by omega) (fun j hj acc R1 k1 => ?_) ?_
      · unfold Jd.d
        walk_at "pd"
        exact k1
      have h9 : 9 < nm.length := by omega
      refine ⟨_, atI_map (f := D.str) (List.getElem?_eq_getElem h9), fun v hv => ?_⟩
      obtain ⟨v1, vp⟩ := mset_none hv
      walk_at "pd"
      refine ⟨_, _, lsq_ref (by rw [mset_ne (Ne.symm vp)]; exact mset_same), lsq_ref mset_same, by rw [List.length_map]; exact Nat.le_trans (show js.length + 1 ≤ 9 by omega) (by decide), fun u hu => ?_⟩
      have TT := Tp.new (o := .lst [.str nm[9]]) (Tp.new (o := .lst (js.map fun j => D.str j.nm)) T10 hp) hv
      rw [show (js.map fun j => D.str j.nm) ++ [D.str nm[9]] = (js.map (·.nm) ++ [nm[9]]).map D.str from by rw [List.map_append, List.map_map]; rfl]
      obtain ⟨ua, ug⟩ := TT.ne hu
      have TU := Tp.new (o := .lst ((js.map (·.nm) ++ [nm[9]]).map D.str)) TT hu
      have hzl : (js.map (·.nm) ++ [nm[9]]).length = js.length + 1 := by rw [List.length_append, List.length_map]; rfl
      generalize js.map (·.nm) ++ [nm[9]] = zs at TU hzl
      have eu : mset (mset (mset m10 p (.lst (js.map fun j => D.str j.nm))) v (.lst [.str nm[9]])) u (.lst (zs.map D.str)) u = some (.lst (zs.map D.str)) := mset_same
      generalize mset (mset (mset m10 p (.lst (js.map fun j => D.str j.nm))) v (.lst [.str nm[9]])) u (.lst (zs.map D.str)) = m11 at *
      walk_at "w"
      refine ⟨_, g, _, rfl, by rw [List.length_map]; omega, by rw [List.length_map]; omega, TU, fun r2 m12 a2 b2 O12 T12 => ?_⟩
      rw [List.length_map] at b2
      obtain ⟨i2, rfl⟩ := Int.eq_ofNat_of_zero_le a2
      have hi2 : i2 < zs.length := by omega
      refine dIx_seq (seqOf_ref (O12.kp _ _ ua ug eu)) (atI_map (f := D.str) (List.getElem?_eq_getElem hi2)) ?_
      generalize zs[i2] = z
      walk_at "w"
      rw [show Int.toNat 8 = 8 from rfl]
      have hak : 1 < ak.length := by omega
      refine loop_range (fun i3 s' m' => (∃ c11 c17 c18 c20, s' = [some (.rol (ns.map .int)), some (.ref a), some (.rol (nm.map .str)), some (.int (r : Int)), some (.rol (ak.map .str)), some (.rol (js.map Jd.d)), some (lotD (lt, [wayK mk])), some (.tup (treK mk lt js)), some (.rol ((js.map Jd.s).map jD)), some (.str z), some (.int (i : Int)), c11, none, none, none, none, none, c17, c18, none, c20]) ∧ Tp m' a g) ?_ ?_ ⟨⟨_, _, _, _, rfl⟩, T12⟩
      · rintro i3 s' m13 R3 hi3 hR3 ⟨⟨c11, c17, c18, c20, rfl⟩, T13⟩
        refine ⟨trivial, ?_⟩
        walk_at "pd"
        refine ⟨a, g, z, (i3 : Int), rfl, by omega, by omega, T13, fun x m14 hx O14 T14 => ?_⟩
        walk_at "pd"
        refine ⟨a, g, x, z, js.map Jd.s, rfl, hx, hkl, T14, fun y m15 hy O15 T15 => ?_⟩
        walk_at "pd"
        refine ⟨_, atI_map (f := D.str) (List.getElem?_eq_getElem hak), ?_⟩
        walk_at "w"
        refine ⟨htl, prgK mk lt js [(ak[1], y)], js, [(ak[1], y)], 1, rfl, by decide, by decide, prgK_ok hjn hjl hjo (by simp) (by show 1 ≤ 6; omega) (fun q hq => by rw [List.mem_singleton.mp hq]; exact (by omega : sizeA y ≤ 14)), fun q hq => by rw [List.mem_singleton.mp hq]; exact sam_ak _ _ (by omega : sizeA y ≤ 14), fun m2 S2 => ⟨_, atI_map (f := D.str) (List.getElem?_eq_getElem hak), ak[1], y, js.map Jd.s, rfl, by omega, hkl, hks, fun m3 kp al => ⟨_, rfl, by cases askOut (js.map Jd.s) [(ak[1], y)] <;> rfl, ?_⟩⟩⟩
        walk_at "w"
        exact hR3 _ _ ⟨⟨_, _, _, _, rfl⟩, T15.sub (S2.trans kp)⟩
      · rintro s' m13 ⟨⟨c11, c17, c18, c20, rfl⟩, T13⟩
        exact ⟨trivial, hR2 _ _ ⟨⟨_, _, _, _, _, _, rfl⟩, T13⟩⟩
    · rintro s' m10 ⟨⟨c9, c10, c11, c17, c18, c20, rfl⟩, T10⟩
      exact ⟨trivial, hR _ _ ⟨⟨_, _, _, _, _, _, rfl⟩, T10⟩⟩
  rintro s' m10 ⟨⟨c9, c10, c11, c17, c18, c20, rfl⟩, T10⟩
  walk_at "pd"
  rw [show Int.toNat 4 = 4 from rfl]
  refine loop_range (fun i s' m' => (∃ c9 c10 c11 c12 c13 c14 c15 c16 c17 c18 c19 c20, s' = [some (.rol (ns.map .int)), some (.ref a), some (.rol (nm.map .str)), some (.int (r : Int)), some (.rol (ak.map .str)), some (.rol (js.map Jd.d)), some (lotD (lt, [wayK mk])), some (.tup (treK mk lt js)), some (.rol ((js.map Jd.s).map jD)), c9, c10, c11, c12, c13, c14, c15, c16, c17, c18, c19, c20]) ∧ Tp m' a g) ?_ ?_ ⟨⟨_, _, _, _, _, _, _, _, _, _, _, _, rfl⟩, T10⟩
  · rintro i s' m11 R2 hi hR2 ⟨⟨c9, c10, c11, c12, c13, c14, c15, c16, c17, c18, c19, c20, rfl⟩, T11⟩
    refine ⟨trivial, ?_⟩
    walk_at "pd"
    intro p hp
    refine ⟨_, g, _, rfl, by omega, by omega, T11.new hp, fun r2 m12 a2 b2 O12 T12 => ?_⟩
    have ep := O12.kp _ _ (T11.ne hp).1 (T11.ne hp).2 mset_same
    obtain ⟨i2, rfl⟩ := Int.eq_ofNat_of_zero_le a2
    obtain ⟨ks, hks1, hks2⟩ : ∃ k : Nat, atI [D.int 0, D.int 0, D.int 9, D.int 4, D.int 2] (i2 : Int) = some (.int (k : Int)) ∧ k ≤ 10 := by
      rcases (by omega : i2 = 0 ∨ i2 = 1 ∨ i2 = 2 ∨ i2 = 3 ∨ i2 = 4) with rfl | rfl | rfl | rfl | rfl
      · exact ⟨0, rfl, by decide⟩
      · exact ⟨0, rfl, by decide⟩
      · exact ⟨9, rfl, by decide⟩
      · exact ⟨4, rfl, by decide⟩
      · exact ⟨2, rfl, by decide⟩
    refine dIx_seq (seqOf_ref ep) hks1 ?_
    walk_at "w"
    intro q hq p2 hp2
    obtain ⟨p2m, p2q⟩ := mset_none hp2
    obtain ⟨qa, qg⟩ := T12.ne hq
    refine ⟨_, g, _, rfl, by omega, by omega, (T12.new hq).new hp2, fun r3 m13 a3 b3 O13 T13 => ?_⟩
    have ep2 := O13.kp _ _ ((T12.new (o := .lst []) hq).ne hp2).1 ((T12.new (o := .lst []) hq).ne hp2).2 mset_same
    have eq13 := O13.kp q (.lst []) qa qg (by rw [mset_ne (Ne.symm p2q)]; exact mset_same)
    obtain ⟨i3, rfl⟩ := Int.eq_ofNat_of_zero_le a3
    obtain ⟨nk, hnk1, hnk2⟩ : ∃ k : Nat, atI [D.int 1, D.int 2, D.int 3, D.int 6] (i3 : Int) = some (.int (k : Int)) ∧ k ≤ 6 := by
      rcases (by omega : i3 = 0 ∨ i3 = 1 ∨ i3 = 2 ∨ i3 = 3) with rfl | rfl | rfl | rfl
      · exact ⟨1, rfl, by decide⟩
      · exact ⟨2, rfl, by decide⟩
      · exact ⟨3, rfl, by decide⟩
      · exact ⟨6, rfl, by decide⟩
    refine dIx_seq (seqOf_ref ep2) hnk1 ?_
    walk_at "w"
    refine ⟨by omega, by omega, ?_⟩
    rw [Int.toNat_natCast]
    refine loop_range (fun i4 s' m' => ∃ (as : List (Str × Ak)) (c15 c16 c17 c18 c19 c20 : Option D), as.length = i4 ∧ as.map (·.1) = ak.take i4 ∧ (∀ z ∈ as, sizeA z.2 ≤ 14) ∧ s' = [some (.rol (ns.map .int)), some (.ref a), some (.rol (nm.map .str)), some (.int (r : Int)), some (.rol (ak.map .str)), some (.rol (js.map Jd.d)), some (lotD (lt, [wayK mk])), some (.tup (treK mk lt js)), some (.rol ((js.map Jd.s).map jD)), c9, some (.int (i : Int)), c11, some (.int (ks : Int)), some (.ref q), some (outD (askOut (js.map Jd.s) as)), c15, c16, c17, c18, c19, c20] ∧ m' q = some (.lst (as.map akR)) ∧ Tp m' a g) ?_ ?_ ⟨[], _, _, _, _, _, _, rfl, rfl, fun _ h => (List.not_mem_nil h).elim, rfl, eq13, T13⟩
    · rintro i4 s' m14 R3 hi4 hR3 ⟨as, c15, c16, c17, c18, c19, c20, hal4, hak4, hsz4, rfl, eq14, T14⟩
      refine ⟨trivial, ?_⟩
      have hi4a : i4 < ak.length := by omega
      walk_at "pd"
      refine ⟨_, g, _, rfl, by omega, by omega, T14, fun r5 m15 a5 b5 O15 T15 => ?_⟩
      have eq15 := O15.kp _ _ qa qg eq14
      walk_at "pd"
      obtain ⟨rm, erm, rm1, rm4⟩ : ∃ rm : Nat, (if ((((js.map Jd.s).map jD).length : Int) + 1) < 1 + r5 then ((((js.map Jd.s).map jD).length : Int) + 1) else 1 + r5) = (rm : Int) ∧ 1 ≤ rm ∧ rm ≤ 4 := by
        split
        · exact ⟨((js.map Jd.s).map jD).length + 1, rfl, by omega, by omega⟩
        · exact ⟨(1 + r5).toNat, by omega, by omega, by omega⟩
      rw [erm]
      intro p5 hp5
      refine ⟨_, _, rfl, lsq_ref mset_same, by rw [List.length_map]; exact Nat.le_trans (show (js.map Jd.s).length + 1 ≤ 9 by omega) (by decide), fun u hu => ?_⟩
      obtain ⟨u5, up5⟩ := mset_none hu
      rw [show (js.map Jd.s).map jD ++ [D.tup [.str (tx []), .str "first"]] = (js.map Jd.s ++ [((tx [] : Str), ("first" : Str))]).map jD from by rw [List.map_append]; rfl]
      have TT := Tp.new (o := .lst [.tup [.str (tx []), .str "first"]]) T15 hp5
      obtain ⟨ua, ug⟩ := TT.ne hu
      have qu : q ≠ u := fun e => by rw [← e, eq15] at u5; cases u5
      have qp5 : q ≠ p5 := fun e => by rw [← e, eq15] at hp5; cases hp5
      refine ⟨a, g, u, nm, _, ks, rm, rfl, rm1, rm4, rm4, hnl, by omega, by omega, by rw [List.length_append]; show (js.map Jd.s).length + 1 ≤ 20; omega, ua, ug, mset_same, TT.new hu, fun x ls1 m16 hx hl1 e1 L16 T16 => ?_⟩
      have eq16 := L16.kp q _ qa qg qu (show mset (mset m15 p5 _) u _ q = some (.lst (as.map akR)) by rw [mset_ne qu, mset_ne qp5]; exact eq15)
      have hx14 : sizeA x ≤ 14 := by omega
      refine ⟨⟨_, _, lstOf_ref eq16⟩, _, atI_map (f := D.str) (List.getElem?_eq_getElem hi4a), q, _, lstOf_ref eq16, by rw [List.length_map]; exact Nat.lt_of_lt_of_le (by omega : as.length < 7) (by decide), ?_⟩
      rw [show as.map akR ++ [D.tup [.str ak[i4], akD x]] = (as ++ [(ak[i4], x)]).map akR from by rw [List.map_append]; rfl]
      have fin : ∀ m17 c, m17 q = some (.lst ((as ++ [(ak[i4], x)]).map akR)) → Tp m17 a g → R3 [some (.rol (ns.map .int)), some (.ref a), some (.rol (nm.map .str)), some (.int (r : Int)), some (.rol (ak.map .str)), some (.rol (js.map Jd.d)), some (lotD (lt, [wayK mk])), some (.tup (treK mk lt js)), some (.rol ((js.map Jd.s).map jD)), c9, some (.int (i : Int)), c11, some (.int (ks : Int)), some (.ref q), some (outD (askOut (js.map Jd.s) (as ++ [(ak[i4], x)]))), some (.int (i4 : Int)), c16, c17, some (akD x), c, c20] m17 := fun m17 c e17 T17 =>
        hR3 _ _ ⟨as ++ [(ak[i4], x)], _, _, _, _, _, _, by rw [List.length_append, hal4]; rfl, by rw [List.map_append, hak4, List.map_singleton, List.take_succ, List.getElem?_eq_getElem hi4a]; rfl, fun z hz => (List.mem_append.mp hz).elim (hsz4 z) fun h => by rw [List.mem_singleton.mp h]; exact hx14, rfl, e17, T17⟩
      rw [askOut_app] at fin
      have e17 : mset m16 q (.lst ((as ++ [(ak[i4], x)]).map akR)) q = some (.lst ((as ++ [(ak[i4], x)]).map akR)) := mset_same
      have T17 : Tp (mset m16 q (.lst ((as ++ [(ak[i4], x)]).map akR))) a g := T16.setp qa qg
      generalize mset m16 q (.lst ((as ++ [(ak[i4], x)]).map akR)) = m17 at *
      cases eo : askOut (js.map Jd.s) as with
      | fine =>
        rw [eo] at fin
        rw [if_pos (show isNon (outD .fine) = true from rfl)]
        exact ⟨_, atI_map (f := D.str) (List.getElem?_eq_getElem hi4a), ak[i4], x, js.map Jd.s, rfl, hx14, hkl, hks, fun m18 kp al => fin m18 _ (kp _ _ e17) (T17.keep (fun o e => kp _ _ e) fun o e => kp _ _ e)⟩
      | noName j =>
        rw [eo] at fin
        rw [if_neg (show ¬ isNon (outD (.noName j)) = true from Bool.false_ne_true)]
        exact fin m17 _ e17 T17
      | badAsk j =>
        rw [eo] at fin
        rw [if_neg (show ¬ isNon (outD (.badAsk j)) = true from Bool.false_ne_true)]
        exact fin m17 _ e17 T17
    · rintro s' m14 ⟨as, c15, c16, c17, c18, c19, c20, hal4, hak4, hsz4, rfl, eq14, T14⟩
      refine ⟨trivial, ?_⟩
      walk_at "pd"
      rw [show Int.toNat 3 = 3 from rfl]
      have hnd4 : (as.map (·.1)).Nodup := by rw [hak4]; exact had.sublist (List.take_sublist ..)
      refine loop_range (fun i5 s' m' => (∃ c16, s' = [some (.rol (ns.map .int)), some (.ref a), some (.rol (nm.map .str)), some (.int (r : Int)), some (.rol (ak.map .str)), some (.rol (js.map Jd.d)), some (lotD (lt, [wayK mk])), some (.tup (treK mk lt js)), some (.rol ((js.map Jd.s).map jD)), c9, some (.int (i : Int)), c11, some (.int (ks : Int)), some (.ref q), some (outD (askOut (js.map Jd.s) as)), c15, c16, c17, c18, c19, c20]) ∧ m' q = some (.lst (as.map akR)) ∧ Tp m' a g) ?_ ?_ ⟨⟨_, rfl⟩, eq14, T14⟩
      · rintro i5 s' m15 R3 hi5 hR3 ⟨⟨c16, rfl⟩, eq15, T15⟩
        refine ⟨trivial, ?_⟩
        walk_at "pd"
        refine ⟨_, seqOf_ref eq15, htl, prgK mk lt js as, js, as, (i5 : Int), rfl, by omega, by omega, prgK_ok hjn hjl hjo hnd4 (by omega) hsz4, fun z hz => sam_ak _ _ (hsz4 z hz), fun m2 S2 => ⟨_, rfl, by cases askOut (js.map Jd.s) as <;> rfl, ?_⟩⟩
        walk_at "w"
        exact hR3 _ _ ⟨⟨_, rfl⟩, S2 _ _ eq15, T15.sub S2⟩
      · rintro s' m15 ⟨⟨c16, rfl⟩, eq15, T15⟩
        exact ⟨trivial, hR2 _ _ ⟨⟨_, _, _, _, _, _, _, _, _, _, _, _, rfl⟩, T15⟩⟩
  · rintro s' m11 ⟨⟨c9, c10, c11, c12, c13, c14, c15, c16, c17, c18, c19, c20, rfl⟩, T11⟩
    refine ⟨trivial, ?_⟩
    walk_at "pd"
    exact ⟨_, PD.Sub.refl _, h _⟩
end
section
variable {P : Program} {w : World} {K : PySem.W.Frag} {mg : Str → Option Value} {base : Heap}
theorem law_all (T : Txt K mg) (S9 : Kt K w mg) (E9 : Er K mg T) : FnOk P w K mg base CX0 20 T.f_law T.fd_law ["_law_script"] (spL K 1 sp_law) := by
  have G__law_same : FnOk P w K mg base CX0 16 T.f__law_same T.fd__law_same ["_law_told_here", "_law_due_here"] (spL K 2 (sp__law_same 14)) := same_all T 14
  have G_asks_in : FnOk P w K mg base CX0 (1) T.f_asks_in T.fd_asks_in ["ask"] (spL K 1 sp_asks_in) := ok_asks_in T
  have G_all_asks : FnOk P w K mg base CX0 (2) T.f_all_asks T.fd_all_asks ["ask"] (spL K 1 sp_all_asks) := ok_all_asks T G_asks_in
  have G_own_judge : FnOk P w K mg base CX0 (1) T.f_own_judge T.fd_own_judge ["ask"] (spL K 1 sp_own_judge) := ok_own_judge T
  have G__may_lead : FnOk P w K mg base CX0 (1) T.f__may_lead T.fd__may_lead ["ask"] (spL K 1 sp__may_lead) := ok__may_lead T
  have G__is_let : FnOk P w K mg base CX0 2 T.f__is_let T.fd__is_let ["ask", "sorts"] (spL K 2 sp__is_let) := ok__is_let S9 T G_own_judge G__may_lead
  have G_has_first : FnOk P w K mg base CX0 (3) T.f_has_first T.fd_has_first ["ask"] (spL K 1 sp_has_first) := ok_has_first T G_all_asks
  have G_judges_of : FnOk P w K mg base CX0 (3) T.f_judges_of T.fd_judges_of ["ask"] (spL K 1 sp_judges_of) := ok_judges_of T G_all_asks G_own_judge
  have G__first_told : FnOk P w K mg base CX0 (1) T.f__first_told T.fd__first_told ["pairs"] (spL K 1 sp__first_told) := ok__first_told T
  have G_look_asks : FnOk P w K mg base (L2.CX P w) (4) T.f_look_asks T.fd_look_asks ["program"] (spX K 1 (sp_look_asks T)) := ok_look_asks T G_all_asks G__is_let G_has_first G_judges_of G__first_told
  have G__formulas_of : FnOk P w K mg base CX0 (1) T.f__formulas_of T.fd__formulas_of ["program"] (spL K 1 sp__formulas_of) := ok__formulas_of T
  have G__told_by : FnOk P w K mg base CX0 (1) T.f__told_by T.fd__told_by ["numbers"] (spL K 1 sp_nev) := ok__told_by T
  have G__kind_of : FnOk P w K mg base CX0 (1) T.f__kind_of T.fd__kind_of ["piece"] (spL K 1 sp__kind_of) := ok__kind_of T
  have G_kinds_of : FnOk P w K mg base CX0 (2) T.f_kinds_of T.fd_kinds_of ["way"] (spL K 1 sp_kinds_of) := ok_kinds_of T G__kind_of
  have G_kinds_by_maker : FnOk P w K mg base CX0 (3) T.f_kinds_by_maker T.fd_kinds_by_maker ["ways"] (spL K 1 sp_kinds_by_maker) := ok_kinds_by_maker T G_kinds_of
  have G_all_ways : FnOk P w K mg base CX0 (1) T.f_all_ways T.fd_all_ways ["program"] (spL K 1 sp_all_ways) := ok_all_ways T
  have G__mentions_in : FnOk P w K mg base CX0 (1) T.f__mentions_in T.fd__mentions_in ["sort", "formula"] (spL K 2 sp__mentions_in) := ok__mentions_in T
  have G_mark_places : FnOk P w K mg base CX0 2 T.f_mark_places T.fd_mark_places ["kinds"] (spL K 1 sp_nev) := fn_nev (k := 1) T.F_mark_places sc_mark_places
  have G_run_places : FnOk P w K mg base CX0 2 T.f_run_places T.fd_run_places ["kinds"] (spL K 1 sp_nev) := fn_nev (k := 1) T.F_run_places sc_run_places
  have G_part_places : FnOk P w K mg base CX0 1 T.f_part_places T.fd_part_places ["kinds"] (spL K 1 sp_nev) := fn_nev (k := 0) T.F_part_places sc_part_places
  have G__refs_to : FnOk P w K mg base CX0 (1) T.f__refs_to T.fd__refs_to ["kinds", "words"] (spL K 2 sp__refs_to) := ok__refs_to T
  have G_sign_places : FnOk P w K mg base CX0 (2) T.f_sign_places T.fd_sign_places ["kinds"] (spL K 1 sp_sign_places) := ok_sign_places T G__refs_to
  have G__fits : FnOk P w K mg base CX0 (3) T.f__fits T.fd__fits ["mention", "kinds", "widths"] (spL K 3 sp__fits) := ok__fits T G_mark_places G_run_places G_part_places G_sign_places
  have G__look_mention : FnOk P w K mg base (L2.CX P w) (4) T.f__look_mention T.fd__look_mention ["mention", "maker", "kinds", "widths"] (spX K 4 sp__look_mention) := ok__look_mention T G__fits
  have G__look_makers_of : FnOk P w K mg base (L2.CX P w) (5) T.f__look_makers_of T.fd__look_makers_of ["formulas", "sort", "first_kinds", "widths"] (spX K 4 sp__look_makers_of) := ok__look_makers_of T G__mentions_in G__look_mention
  have G_look_formulas : FnOk P w K mg base (L2.CX P w) (6) T.f_look_formulas T.fd_look_formulas ["program"] (spX K 1 sp_look_formulas) := ok_look_formulas T G__look_makers_of G__first_told G_kinds_by_maker G_all_ways
  have G_look_tests : FnOk P w K mg base (L2.CX P w) (4) T.f_look_tests T.fd_look_tests ["program"] (spX K 1 sp_look_tests) := ok_look_tests T G_all_ways G_sign_places G_kinds_of
  have G_look_makers : FnOk P w K mg base (L2.CX P w) (4) T.f_look_makers T.fd_look_makers ["program"] (spX K 1 sp_look_makers) := ok_look_makers T G_kinds_of G_kinds_by_maker G_all_ways
  have G__look_name : FnOk P w K mg base (L2.CX P w) (3) T.f__look_name T.fd__look_name ["name", "names"] (spX K 2 sp__look_name) := ok__look_name T
  have G_look_mentions : FnOk P w K mg base (L2.CX P w) (4) T.f_look_mentions T.fd_look_mentions ["program"] (spX K 1 sp_look_mentions) := ok_look_mentions T G_all_ways G__look_name
  have G__words_of : FnOk P w K mg base CX0 (1) T.f__words_of T.fd__words_of ["program"] (spL K 1 sp__words_of) := ok__words_of T
  have G__letters_of : FnOk P w K mg base CX0 (2) T.f__letters_of T.fd__letters_of ["program"] (spL K 1 sp__letters_of) := ok__letters_of T G_all_ways
  have G_has_only : FnOk P w K mg base CX0 (1) T.f_has_only T.fd_has_only ["word", "characters"] (spL K 2 sp_has_only) := ok_has_only T
  have G_look_signs : FnOk P w K mg base (L2.CX P w) (3) T.f_look_signs T.fd_look_signs ["program"] (spX K 1 sp_look_signs) := ok_look_signs T G__words_of G__letters_of G_has_only
  have G__look_list : FnOk P w K mg base (L2.CX P w) (3) T.f__look_list T.fd__look_list ["names"] (spX K 1 sp__look_list) := ok__look_list T
  have G_look_names : FnOk P w K mg base (L2.CX P w) (4) T.f_look_names T.fd_look_names ["program"] (spX K 1 sp_look_names) := ok_look_names T G__look_list
  have G__look_all : FnOk P w K mg base (L2.CX P w) (7) T.f__look_all T.fd__look_all ["program"] (spX K 1 (sp__look_all T)) := ok__look_all T G_look_asks G_look_formulas G_look_tests G_look_makers G_look_mentions G_look_signs G_look_names
  have G_Book___init__ : FnOk P w K mg base (L2.CX P w) (8) T.f_Book___init__ T.fd_Book___init__ ["self", "program"] (spX K 2 (sp_Book___init__ T)) := ok_Book___init__ T G__formulas_of G__told_by G_kinds_by_maker G_all_ways G__look_all
  have G_Book_ask : FnOk P w K mg base (L2.CX P w) (3) T.f_Book_ask T.fd_Book_ask ["self", "name"] (spX K 2 (sp_Book_ask T.c_Book)) := ok_Book_ask T
  have G_Book_asks : FnOk P w K mg base CX0 (1) T.f_Book_asks T.fd_Book_asks ["self"] (spL K 1 (sp_Book_asks T.c_Book)) := ok_Book_asks T
  have G__law_told : FnOk P w K mg base CX0 18 T.f__law_told T.fd__law_told ["_law_tree", "_law_how"] (spL K 2 sp__law_told) := ok__law_told T E9 G_look_asks G_Book___init__ G_Book_ask G_Book_asks G__law_same
  have G__law_pick : FnOk P w K mg base CX0 (1) T.f__law_pick T.fd__law_pick ["_law_pool", "_law_many"] (spL K 2 sp__law_pick) := ok__law_pick T
  have G__law_walk : FnOk P w K mg base CX0 16 T.f__law_walk T.fd__law_walk ["_law_wish_here", "_law_heard"] (spL K 2 (sp__law_walk 14)) := walk_all T 14
  have G__law_due : FnOk P w K mg base CX0 17 T.f__law_due T.fd__law_due ["_law_name", "_law_wish_here", "_law_judges_here"] (spL K 3 sp__law_due) := ok__law_due T G__law_walk
  have G__law_basic : FnOk P w K mg base CX0 (2) T.f__law_basic T.fd__law_basic ["_law_pool", "_law_name", "_law_what"] (spL K 3 sp__law_basic) := ok__law_basic T G__law_pick
  have G__law_right : FnOk P w K mg base CX0 (3) T.f__law_right T.fd__law_right ["_law_pool", "_law_judge"] (spL K 2 sp__law_right) := ok__law_right T G__law_basic G__law_pick
  have G__law_taken : FnOk P w K mg base CX0 (2) T.f__law_taken T.fd__law_taken ["_law_pool", "_law_left", "_law_sorts", "_law_noise", "_law_names_here"] (spL K 5 sp__law_taken) := ok__law_taken T G__law_pick
  have G__law_wish : FnOk P w K mg base CX0 8 T.f__law_wish T.fd__law_wish ["_law_pool", "_law_room", "_law_left", "_law_noise", "_law_names_here"] (spL K 5 (sp__law_wish 4)) := wish_all T G__law_pick G__law_right G__law_taken G__law_basic 4
  have G__law_framed : FnOk P w K mg base CX0 (4) T.f__law_framed T.fd__law_framed ["_law_pool", "_law_one", "_law_name", "_law_known"] (spL K 4 sp__law_framed) := ok__law_framed T G__law_pick G__law_right
  have G__law_judges : FnOk P w K mg base CX0 (2) T.f__law_judges T.fd__law_judges ["_law_pool", "_law_names_here", "_law_maker"] (spL K 3 sp__law_judges) := ok__law_judges T G__law_pick
  have G__law_names : FnOk P w K mg base CX0 (2) T.f__law_names T.fd__law_names ["_law_pool"] (spL K 1 sp__law_names) := ok__law_names T G__law_pick
  have G_law : FnOk P w K mg base CX0 (20) T.f_law T.fd_law ["_law_script"] (spL K 1 sp_law) := ok_law T G__law_same G__law_told G__law_pick G__law_due G__law_wish G__law_framed G__law_basic G__law_judges G__law_names
  exact G_law
end
noncomputable def txtOf {w : World} {K : PySem.W.Frag} {h : Heap} {mg : Str → Option Value} (X : K.In h) (G : h.Ns mainGlobals mg) (c : Hd.Says hds K w) : Txt K mg := {
    c_TwiceNamed := He.ga K "TwiceNamed", oe_TwiceNamed := Hd.exB_oe (c.ex 0), no_TwiceNamed := fun n hn => (by rw [List.mem_singleton.mp hn]; exact He.noat_ok (c.fa 0)), fi_TwiceNamed := He.fAd K ("TwiceNamed", some "__init__"), fdi_TwiceNamed := Hd.fdAt K ("TwiceNamed", some "__init__"), ic_TwiceNamed := Hd.exB_ic (c.ex 0), ti_TwiceNamed := Hd.exB_ti (c.ex 0), Fi_TwiceNamed := c.fn 0, gc_TwiceNamed := He.glo_ok X G (c.fa 1),
    c_BadSign := He.ga K "BadSign", oe_BadSign := Hd.exB_oe (c.ex 1), no_BadSign := fun n hn => (by rw [List.mem_singleton.mp hn]; exact He.noat_ok (c.fa 2)), fi_BadSign := He.fAd K ("BadSign", some "__init__"), fdi_BadSign := Hd.fdAt K ("BadSign", some "__init__"), ic_BadSign := Hd.exB_ic (c.ex 1), ti_BadSign := Hd.exB_ti (c.ex 1), Fi_BadSign := c.fn 1, gc_BadSign := He.glo_ok X G (c.fa 3),
    c_NoName := He.ga K "NoName", oe_NoName := Hd.exB_oe (c.ex 2), no_NoName := fun n hn => (by rw [List.mem_singleton.mp hn]; exact He.noat_ok (c.fa 4)), fi_NoName := He.fAd K ("NoName", some "__init__"), fdi_NoName := Hd.fdAt K ("NoName", some "__init__"), ic_NoName := Hd.exB_ic (c.ex 2), ti_NoName := Hd.exB_ti (c.ex 2), Fi_NoName := c.fn 2, gc_NoName := He.glo_ok X G (c.fa 5),
    c_BadMaker := He.ga K "BadMaker", oe_BadMaker := Hd.exB_oe (c.ex 3), no_BadMaker := fun n hn => (by rw [List.mem_singleton.mp hn]; exact He.noat_ok (c.fa 6)), fi_BadMaker := He.fAd K ("BadMaker", some "__init__"), fdi_BadMaker := Hd.fdAt K ("BadMaker", some "__init__"), ic_BadMaker := Hd.exB_ic (c.ex 3), ti_BadMaker := Hd.exB_ti (c.ex 3), Fi_BadMaker := c.fn 3, gc_BadMaker := He.glo_ok X G (c.fa 7),
    c_BadRef := He.ga K "BadRef", oe_BadRef := Hd.exB_oe (c.ex 4), no_BadRef := fun n hn => (by rw [List.mem_singleton.mp hn]; exact He.noat_ok (c.fa 8)), fi_BadRef := He.fAd K ("BadRef", some "__init__"), fdi_BadRef := Hd.fdAt K ("BadRef", some "__init__"), ic_BadRef := Hd.exB_ic (c.ex 4), ti_BadRef := Hd.exB_ti (c.ex 4), Fi_BadRef := c.fn 4, gc_BadRef := He.glo_ok X G (c.fa 9),
    c_Missing := He.ga K "Missing", oe_Missing := Hd.exB_oe (c.ex 5), no_Missing := fun n hn => ((List.mem_cons.mp hn).elim (fun e => by rw [e]; exact He.noat_ok (c.fa 11)) fun hn => by rw [List.mem_singleton.mp hn]; exact He.noat_ok (c.fa 10)), fi_Missing := He.fAd K ("Missing", some "__init__"), fdi_Missing := Hd.fdAt K ("Missing", some "__init__"), ic_Missing := Hd.exB_ic (c.ex 5), ti_Missing := Hd.exB_ti (c.ex 5), Fi_Missing := c.fn 5, gc_Missing := He.glo_ok X G (c.fa 12),
    c_BadAsk := He.ga K "BadAsk", oe_BadAsk := Hd.exB_oe (c.ex 6), no_BadAsk := fun n hn => (by rw [List.mem_singleton.mp hn]; exact He.noat_ok (c.fa 13)), fi_BadAsk := He.fAd K ("BadAsk", some "__init__"), fdi_BadAsk := Hd.fdAt K ("BadAsk", some "__init__"), ic_BadAsk := Hd.exB_ic (c.ex 6), ti_BadAsk := Hd.exB_ti (c.ex 6), Fi_BadAsk := c.fn 6, gc_BadAsk := He.glo_ok X G (c.fa 14),
    c_Book := He.ga K "Book", cls_Book := He.cls_ok (c.fa 15), gc_Book := He.glo_ok X G (c.fa 16),
    na_Book_program := He.noat_ok (c.fa 17),
    na_Book_signs := He.noat_ok (c.fa 18),
    na_Book_rows := He.noat_ok (c.fa 19),
    na_Book_start := He.noat_ok (c.fa 20),
    na_Book__ways := He.noat_ok (c.fa 21),
    na_Book__kinds := He.noat_ok (c.fa 22),
    na_Book__pairs := He.noat_ok (c.fa 23),
    na_Book__numbers := He.noat_ok (c.fa 24),
    na_Book__sorts := He.noat_ok (c.fa 25),
    na_Book__formulas := He.noat_ok (c.fa 26),
    na_Book__asks := He.noat_ok (c.fa 27),
    f_judges_of := He.fAd K ("judges_of", none), fd_judges_of := Hd.fdAt K ("judges_of", none), F_judges_of := c.fn 7, g_judges_of := He.glo_ok X G (c.fa 28),
    f_asks_in := He.fAd K ("asks_in", none), fd_asks_in := Hd.fdAt K ("asks_in", none), F_asks_in := c.fn 8, g_asks_in := He.glo_ok X G (c.fa 29),
    f_has_first := He.fAd K ("has_first", none), fd_has_first := Hd.fdAt K ("has_first", none), F_has_first := c.fn 9, g_has_first := He.glo_ok X G (c.fa 30),
    f_all_asks := He.fAd K ("all_asks", none), fd_all_asks := Hd.fdAt K ("all_asks", none), F_all_asks := c.fn 10, g_all_asks := He.glo_ok X G (c.fa 31),
    f_own_judge := He.fAd K ("own_judge", none), fd_own_judge := Hd.fdAt K ("own_judge", none), F_own_judge := c.fn 11, g_own_judge := He.glo_ok X G (c.fa 32),
    f_kinds_of := He.fAd K ("kinds_of", none), fd_kinds_of := Hd.fdAt K ("kinds_of", none), F_kinds_of := c.fn 12, g_kinds_of := He.glo_ok X G (c.fa 33),
    f_part_places := He.fAd K ("part_places", none), fd_part_places := Hd.fdAt K ("part_places", none), F_part_places := c.fn 13, g_part_places := He.glo_ok X G (c.fa 34),
    f_sign_places := He.fAd K ("sign_places", none), fd_sign_places := Hd.fdAt K ("sign_places", none), F_sign_places := c.fn 14, g_sign_places := He.glo_ok X G (c.fa 35),
    f_run_places := He.fAd K ("run_places", none), fd_run_places := Hd.fdAt K ("run_places", none), F_run_places := c.fn 15, g_run_places := He.glo_ok X G (c.fa 36),
    f_mark_places := He.fAd K ("mark_places", none), fd_mark_places := Hd.fdAt K ("mark_places", none), F_mark_places := c.fn 16, g_mark_places := He.glo_ok X G (c.fa 37),
    f_kinds_by_maker := He.fAd K ("kinds_by_maker", none), fd_kinds_by_maker := Hd.fdAt K ("kinds_by_maker", none), F_kinds_by_maker := c.fn 17, g_kinds_by_maker := He.glo_ok X G (c.fa 38),
    f__kind_of := He.fAd K ("_kind_of", none), fd__kind_of := Hd.fdAt K ("_kind_of", none), F__kind_of := c.fn 18, g__kind_of := He.glo_ok X G (c.fa 39),
    f__refs_to := He.fAd K ("_refs_to", none), fd__refs_to := Hd.fdAt K ("_refs_to", none), F__refs_to := c.fn 19, g__refs_to := He.glo_ok X G (c.fa 40),
    f_all_ways := He.fAd K ("all_ways", none), fd_all_ways := Hd.fdAt K ("all_ways", none), F_all_ways := c.fn 20, g_all_ways := He.glo_ok X G (c.fa 41),
    f_look_formulas := He.fAd K ("look_formulas", none), fd_look_formulas := Hd.fdAt K ("look_formulas", none), F_look_formulas := c.fn 21, g_look_formulas := He.glo_ok X G (c.fa 42),
    f_look_asks := He.fAd K ("look_asks", none), fd_look_asks := Hd.fdAt K ("look_asks", none), F_look_asks := c.fn 22, g_look_asks := He.glo_ok X G (c.fa 43),
    f__first_told := He.fAd K ("_first_told", none), fd__first_told := Hd.fdAt K ("_first_told", none), F__first_told := c.fn 23, g__first_told := He.glo_ok X G (c.fa 44),
    f__look_makers_of := He.fAd K ("_look_makers_of", none), fd__look_makers_of := Hd.fdAt K ("_look_makers_of", none), F__look_makers_of := c.fn 24, g__look_makers_of := He.glo_ok X G (c.fa 45),
    f__mentions_in := He.fAd K ("_mentions_in", none), fd__mentions_in := Hd.fdAt K ("_mentions_in", none), F__mentions_in := c.fn 25, g__mentions_in := He.glo_ok X G (c.fa 46),
    f__look_mention := He.fAd K ("_look_mention", none), fd__look_mention := Hd.fdAt K ("_look_mention", none), F__look_mention := c.fn 26, g__look_mention := He.glo_ok X G (c.fa 47),
    f__fits := He.fAd K ("_fits", none), fd__fits := Hd.fdAt K ("_fits", none), F__fits := c.fn 27, g__fits := He.glo_ok X G (c.fa 48),
    f__is_let := He.fAd K ("_is_let", none), fd__is_let := Hd.fdAt K ("_is_let", none), F__is_let := c.fn 28, g__is_let := He.glo_ok X G (c.fa 49),
    f__may_lead := He.fAd K ("_may_lead", none), fd__may_lead := Hd.fdAt K ("_may_lead", none), F__may_lead := c.fn 29, g__may_lead := He.glo_ok X G (c.fa 50),
    f_look_names := He.fAd K ("look_names", none), fd_look_names := Hd.fdAt K ("look_names", none), F_look_names := c.fn 30, g_look_names := He.glo_ok X G (c.fa 51),
    f__look_list := He.fAd K ("_look_list", none), fd__look_list := Hd.fdAt K ("_look_list", none), F__look_list := c.fn 31, g__look_list := He.glo_ok X G (c.fa 52),
    f_look_mentions := He.fAd K ("look_mentions", none), fd_look_mentions := Hd.fdAt K ("look_mentions", none), F_look_mentions := c.fn 32, g_look_mentions := He.glo_ok X G (c.fa 53),
    f_look_makers := He.fAd K ("look_makers", none), fd_look_makers := Hd.fdAt K ("look_makers", none), F_look_makers := c.fn 33, g_look_makers := He.glo_ok X G (c.fa 54),
    f_look_tests := He.fAd K ("look_tests", none), fd_look_tests := Hd.fdAt K ("look_tests", none), F_look_tests := c.fn 34, g_look_tests := He.glo_ok X G (c.fa 55),
    f__look_name := He.fAd K ("_look_name", none), fd__look_name := Hd.fdAt K ("_look_name", none), F__look_name := c.fn 35, g__look_name := He.glo_ok X G (c.fa 56),
    f_has_only := He.fAd K ("has_only", none), fd_has_only := Hd.fdAt K ("has_only", none), F_has_only := c.fn 36, g_has_only := He.glo_ok X G (c.fa 57),
    f_look_signs := He.fAd K ("look_signs", none), fd_look_signs := Hd.fdAt K ("look_signs", none), F_look_signs := c.fn 37, g_look_signs := He.glo_ok X G (c.fa 58),
    f__words_of := He.fAd K ("_words_of", none), fd__words_of := Hd.fdAt K ("_words_of", none), F__words_of := c.fn 38, g__words_of := He.glo_ok X G (c.fa 59),
    f__letters_of := He.fAd K ("_letters_of", none), fd__letters_of := Hd.fdAt K ("_letters_of", none), F__letters_of := c.fn 39, g__letters_of := He.glo_ok X G (c.fa 60),
    f_Book___init__ := He.fAd K ("Book", some "__init__"), fd_Book___init__ := Hd.fdAt K ("Book", some "__init__"), F_Book___init__ := c.fn 40, mk_Book := He.mkr_ok (c.fa 61),
    f_Book_asks := He.fAd K ("Book", some "asks"), fd_Book_asks := Hd.fdAt K ("Book", some "asks"), F_Book_asks := c.fn 41, m_Book_asks := He.meth_ok (c.fa 62),
    f_Book_ask := He.fAd K ("Book", some "ask"), fd_Book_ask := Hd.fdAt K ("Book", some "ask"), F_Book_ask := c.fn 42, m_Book_ask := He.meth_ok (c.fa 63),
    f__look_all := He.fAd K ("_look_all", none), fd__look_all := Hd.fdAt K ("_look_all", none), F__look_all := c.fn 43, g__look_all := He.glo_ok X G (c.fa 64),
    f__told_by := He.fAd K ("_told_by", none), fd__told_by := Hd.fdAt K ("_told_by", none), F__told_by := c.fn 44, g__told_by := He.glo_ok X G (c.fa 65),
    f__formulas_of := He.fAd K ("_formulas_of", none), fd__formulas_of := Hd.fdAt K ("_formulas_of", none), F__formulas_of := c.fn 45, g__formulas_of := He.glo_ok X G (c.fa 66),
    f__law_pick := He.fAd K ("_law_pick", none), fd__law_pick := Hd.fdAt K ("_law_pick", none), F__law_pick := c.fn 46, g__law_pick := He.glo_ok X G (c.fa 67),
    f__law_same := He.fAd K ("_law_same", none), fd__law_same := Hd.fdAt K ("_law_same", none), F__law_same := c.fn 47, g__law_same := He.glo_ok X G (c.fa 68),
    f__law_names := He.fAd K ("_law_names", none), fd__law_names := Hd.fdAt K ("_law_names", none), F__law_names := c.fn 48, g__law_names := He.glo_ok X G (c.fa 69),
    f__law_judges := He.fAd K ("_law_judges", none), fd__law_judges := Hd.fdAt K ("_law_judges", none), F__law_judges := c.fn 49, g__law_judges := He.glo_ok X G (c.fa 70),
    f__law_basic := He.fAd K ("_law_basic", none), fd__law_basic := Hd.fdAt K ("_law_basic", none), F__law_basic := c.fn 50, g__law_basic := He.glo_ok X G (c.fa 71),
    f__law_right := He.fAd K ("_law_right", none), fd__law_right := Hd.fdAt K ("_law_right", none), F__law_right := c.fn 51, g__law_right := He.glo_ok X G (c.fa 72),
    f__law_taken := He.fAd K ("_law_taken", none), fd__law_taken := Hd.fdAt K ("_law_taken", none), F__law_taken := c.fn 52, g__law_taken := He.glo_ok X G (c.fa 73),
    f__law_wish := He.fAd K ("_law_wish", none), fd__law_wish := Hd.fdAt K ("_law_wish", none), F__law_wish := c.fn 53, g__law_wish := He.glo_ok X G (c.fa 74),
    f__law_framed := He.fAd K ("_law_framed", none), fd__law_framed := Hd.fdAt K ("_law_framed", none), F__law_framed := c.fn 54, g__law_framed := He.glo_ok X G (c.fa 75),
    f__law_walk := He.fAd K ("_law_walk", none), fd__law_walk := Hd.fdAt K ("_law_walk", none), F__law_walk := c.fn 55, g__law_walk := He.glo_ok X G (c.fa 76),
    f__law_due := He.fAd K ("_law_due", none), fd__law_due := Hd.fdAt K ("_law_due", none), F__law_due := c.fn 56, g__law_due := He.glo_ok X G (c.fa 77),
    f__law_told := He.fAd K ("_law_told", none), fd__law_told := Hd.fdAt K ("_law_told", none), F__law_told := c.fn 57, g__law_told := He.glo_ok X G (c.fa 78),
    f_law := He.fAd K ("law", none), fd_law := Hd.fdAt K ("law", none), F_law := c.fn 58, g_law := He.glo_ok X G (c.fa 79),
    z_tuple := He.free_ok X G (c.fa 80),
    z_len := He.free_ok X G (c.fa 81),
    z_enumerate := He.free_ok X G (c.fa 82),
    z_all := He.free_ok X G (c.fa 83),
    z_set := He.free_ok X G (c.fa 84),
    z_int := He.free_ok X G (c.fa 85),
    z_range := He.free_ok X G (c.fa 86),
    z_isinstance := He.free_ok X G (c.fa 87),
    z_str := He.free_ok X G (c.fa 88),
    z_bool := He.free_ok X G (c.fa 89),
    z_min := He.free_ok X G (c.fa 90),
    z_list := He.free_ok X G (c.fa 91),
    v_SIGNS := He.int_ok X G (c.fa 92),
    v_ROWS := He.int_ok X G (c.fa 93),
    v_PAIRS := He.int_ok X G (c.fa 94),
    v_NUMBERS := He.int_ok X G (c.fa 95),
    v_START := He.int_ok X G (c.fa 96),
    v_LOTS := He.int_ok X G (c.fa 97),
    v_JUDGES := He.int_ok X G (c.fa 98),
    v_ASKS := He.int_ok X G (c.fa 99)
  }
noncomputable def erE9 {w : World} {K : PySem.W.Frag} {h : Heap} {mg : Str → Option Value} (X : K.In h) (G : h.Ns mainGlobals mg) (c : Hd.Says hds K w) : Er K mg (txtOf X G c) := { cL := He.ga K "LookError", cC := He.ga K "ChooseError", gL := He.glo_ok X G (c.fa 101), gC := He.glo_ok X G (c.fa 102), zV := He.free_ok X G (c.fa 103), nC := Hd.exm_ok2 (c.fa 104), nL := Hd.kitB_ok (c.xs 1), nV := Hd.kitB_ok (c.xs 2), nB := Hd.kitB_ok (c.xs 3), nN := Hd.kitB_ok (c.xs 4), en := Hd.excB_ok (c.xs 5), xn := Hd.excB_xf (c.xs 5), sn := Hd.excB_cls (c.xs 5), bC := Hd.exm_ok2 (c.fa 105), bL := Hd.kitB_ok (c.xs 6), bV := Hd.kitB_ok (c.xs 7), bB := Hd.kitB_ok (c.xs 8), bN := Hd.kitB_ok (c.xs 9), eb := Hd.excB_ok (c.xs 10), xb := Hd.excB_xf (c.xs 10), sb := Hd.excB_cls (c.xs 10) }
theorem start {K : PySem.W.Frag} {H : Hp} {a : Addr} {ns : List Int} {E : XK} (hl : ns.length ≤ 63) (hO : L2.Only H) (hS : SqL K H a (ns.map V.int)) : spL K 1 sp_law [.ref a] H (fun v _ => v = .bl true) E := by
  have hr : RoL K H a (ns.map V.int) := by
    rcases hS with (h | ⟨u, h⟩) | h
    · rcases hO a with e | ⟨u, xs, e⟩
      · rw [e] at h; cases h
      · rw [e] at h; cases h
    · exact .inl ⟨u, h⟩
    · exact .inr h
  have hL : ∀ l : List Int, RepL K H (l.map D.int) (l.map V.int) := fun l => by
    induction l with
    | nil => exact .nil
    | cons x l ih => exact .cons (.int x) ih
  refine ⟨[.rol (ns.map D.int)], fun _ => none, fun v _ => v = .bl true, .cons (.rol hr (hL ns)) .nil, fun _ _ e => (by cases e), ⟨rfl, ns, rfl, by omega, fun _ => rfl⟩, fun v H' dv m' _ _ hv hq => ?_⟩
  subst hq
  cases hv
  rfl
theorem law_end {w : World} {K : PySem.W.Frag} {h : Heap} {mg : Str → Option Value} {fa : Addr} (X : K.In h) (G : h.Ns mainGlobals mg) (c : Hd.Says hds K w) (e : mg "law" = some (.ref fa)) : ∃ (K : PySem.W.Frag) (fd : FuncData) (sp : Sp), K.In h ∧ (∀ (s : Shared) (u : Value), BindsTo s fd ⟨[u], []⟩ [("_law_script", u)]) ∧ (∀ (H : Hp) (a : Addr) (ns : List Int), ns.length ≤ 63 → L2.Only H → SqL K H a (ns.map V.int) → sp [.ref a] H (fun v _ => v = .bl true) fun _ _ _ => False) ∧ ∀ base : Heap, K.In base → base.Ns mainGlobals mg → FnOk PySem.Challenge.rw_chooseonce_k22_asks_let_and_barred.prog w K mg base CX0 20 fa fd ["_law_script"] sp := by
  have T : {T : (T : Txt K mg) ×' Er K mg T // T.1.f_law = He.fAd K ("law", none) ∧ T.1.fd_law = Hd.fdAt K ("law", none)} := ⟨⟨txtOf X G c, erE9 X G c⟩, rfl, rfl⟩
  obtain ⟨⟨T, E9⟩, e1, e2⟩ := T
  have e3 := e.symm.trans T.g_law
  cases e3
  have S9 : Kt K w mg := { d_SORTS_LET := He.ga K "SORTS_LET", g_SORTS_LET := He.glo_ok X G (c.fa 100), t_SORTS_LET := Hd.ktab (c.ts 0) (c.xs 0) }
  exact ⟨K, T.fd_law, spL K 1 sp_law, X, fun s u => Hd.bind_one T.F_law (fun _ _ _ _ _ _ _ => rfl) s u, fun H a ns hl hO hS => start hl hO hS, fun base _ _ => law_all T S9 E9⟩
end K22
open PySem PySem.W PyProof.Rows PySem.Calls
set_option maxHeartbeats 0 in
theorem PySem.Challenge.cw_chooseonce_k22_asks_let_and_barred_holds : PySem.Challenge.rw_chooseonce_k22_asks_let_and_barred.Holds := by
  w_on; o_law
  refine HandSHeadRun.head_any (r := OpenLaw.row PySem.Challenge.rw_chooseonce_k22_asks_let_and_barred) (q := (PySem.W.view (PySem.W.OpenLaw.row PySem.Challenge.rw_chooseonce_k22_asks_let_and_barred).prog [79])) (H := Hd.hook K22.hds K22.hda) (ob := Hd.ob K22.hds K22.hda) (M := 5000) (loose := K22.hdn) (d := HandSHeadRun.topDef (OpenLaw.row PySem.Challenge.rw_chooseonce_k22_asks_let_and_barred).prog 79) (kwd := []) (Hd.ob_eq _ _) (by kernel_rfl) (fun s => by kernel_rfl) K22.hd_run (by kernel_rfl) (by kernel_rfl) (by kernel_rfl) (by rfl) (by first | assumption | decide +kernel) (by decide +kernel) ⟨rfl, rfl, rfl, rfl, rfl, by decide +kernel⟩ ?hw ?hc
  case hw => w_witness2
  refine L2.walk_ofE (l := PySem.Challenge.rw_chooseonce_k22_asks_let_and_barred) (n := 63) (k := 20) (x := "_law_script") (CX := L2.CX0) rfl (by decide) (by kernel_rfl) ⟨rfl, by decide, by decide⟩ ?F (fun _ _ _ _ z => z)
  intro w mg fa h Y G e
  obtain ⟨K, X, c⟩ := Y
  exact K22.law_end X G c ((congrArg mg (show (HandSHeadRun.topDef (OpenLaw.row PySem.Challenge.rw_chooseonce_k22_asks_let_and_barred).prog 79).name = ("law" : PySem.Str) by kernel_rfl)).symm.trans e)
