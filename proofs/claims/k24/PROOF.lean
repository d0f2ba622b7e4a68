import PyProof.Rows.All
import Wide.All
import OpenK.AllK
import Wide.FinOn
import KE.KStateDown
import HandS.Head0
import HandS.Head1
import HandS.Head2
import HandS.HeadEnd
import HandS.HeadHook1
import HandS.HeadHook2
import HandS.HeadHook3
import HandS.ExcInit
import HandS.Words
import HandS.ForMost
import HandS.TupAny
import HandS.Style
import HandS.IsInst
import HandS.SortRule
import HandS.Flow
import KE.GoesMore
import HandS.SetKeys
import HandS.WordsExc
import HandS.Zip
import HandS.SortInts
import KE.DataCmp
import KE.DataMinMax
import KE.SortData
import KE.DataEq
import HandS.SetTxt0
import HandS.Set
import HandS.SetFor
import HandS.Strs
import HandS.Iter
import HandS.Text
import HandS.Exc
import HandS.TryMany
import HandS.Flt
import HandS.ExcIs
import HandS.ExcField
import KE.KExcIs
import HandS.DictComp
import HandS.Conv
import HandS.Deep
import KE.KRevSl
import KE.DataFind
import HandS.More
import PyProof.SetRoads
import HandS.Wide
import KE.KDictZip
import PyProof.TupleOfGen
import HandS.Star
import HandS.Rev
import PyProof.ListStr
import PySem.Challenge.RW_chooseonce_k24_stretches_and_dresses
import HandS.TupMul
set_option Elab.async false
set_option linter.all false
set_option maxRecDepth 100000
set_option maxHeartbeats 4000000
namespace Hd
open PySem PySem.Spec PyProof.Rows L2 He
/-- the function that stands there -/
def fdAt (K : PySem.W.Frag) (p : Str × Option Str) : FuncData := match K.lookup (fAd K p) with
  | some ⟨_, _, .func fd, _⟩ => fd
  | _ => PySem.W.fnOf "" "" ⟨[], [], none, [], [], none, []⟩ [] ⟨.function, [], false, false, []⟩ .none .none .none .none none .none .none
/-- a def of the text: where it stands, its names, its statement -/
structure DF where
  at_ : Str × Option Str
  name : Str
  qual : Str
  st : Stmt
def DF.d (d : DF) : FnD := ⟨d.at_, d.name, d.qual, defArgs d.st, defBody d.st, defScope d.st⟩
def DF.ok (K : PySem.W.Frag) (d : DF) : Bool := (Fa.code d.at_ d.qual).ok K && PySem.W.keepIn K (.ref (fAd K d.at_))
theorem DF.fun_ {K : PySem.W.Frag} {d : DF} (e : fnObs K d.at_ = d.d.val) (c : d.ok K = true) : Fun K d.name d.qual d.st (fAd K d.at_) (fdAt K d.at_) := by
  obtain ⟨oc, od, osl, kV, doc, pm, an, cdv, ct, l, h⟩ := fn_ok (d := d.d) e (ba c).1
  have l2 : K.lookup (fAd K d.at_) = some ⟨oc, od, .func (PySem.W.fnOf d.name d.qual (defArgs d.st) (defBody d.st) (defScope d.st) .none kV doc pm an cdv ct), osl⟩ := l
  have q : fdAt K d.at_ = PySem.W.fnOf d.name d.qual (defArgs d.st) (defBody d.st) (defScope d.st) .none kV doc pm an cdv ct := by
    unfold fdAt
    rw [l2]
  rw [q]
  exact fun_mk l2 h (ba c).2
/-- a class as own errors are -/
def clsB (K : PySem.W.Frag) (C : Addr) : Bool := match K.lookup C with
  | some ⟨.type t, _, .cls cd, sl⟩ => (match cd.mro, sl.toList with
    | .ref D :: bm, [_, _, _, _, some (.builtin n), _] => decide (t = "type") && (decide (D = C) && (decide (n = "ValueError.__new__") && (!cd.hasDel && (cd.hasDict && PySem.HandSPX.refsVE bm))))
    | _, _ => false)
  | _ => false
theorem clsB_ok {K : PySem.W.Frag} {C : Addr} (h : clsB K C = true) : ∃ nm q N bs bm sn sub ab col dd k0 k1 k2 k3 k5, K.lookup C = some (excClassObj nm q C N bs bm true sn sub ab col dd k0 k1 k2 k3 k5 "ValueError.__new__") ∧ PySem.HandSPX.refsVE bm = true := by
  unfold clsB at h
  split at h
  · rename_i t dd cd sl ho
    split at h
    · rename_i D bm k0 k1 k2 k3 n k5 hm hs
      obtain ⟨h1, h⟩ := ba h
      obtain ⟨h2, h⟩ := ba h
      obtain ⟨h3, h⟩ := ba h
      obtain ⟨h4, h⟩ := ba h
      obtain ⟨h5, h6⟩ := ba h
      have e1 := of_decide_eq_true h1
      have e2 := of_decide_eq_true h2
      have e3 := of_decide_eq_true h3
      obtain ⟨nm, bs, mro, ns, qn, hd, sn, sub, ab, col, dl⟩ := cd
      dsimp only at hm h4 h5
      cases dl with
      | true => cases h4
      | false =>
        subst e1 e2 e3 hm h5
        have e4 : sl = #[k0, k1, k2, k3, some (.builtin "ValueError.__new__"), k5] := by
          obtain ⟨l⟩ := sl
          rw [← hs]
        subst e4
        exact ⟨nm, qn, ns, bs, bm, sn, sub, ab, col, dd, k0, k1, k2, k3, k5, ho, h6⟩
    · cases h
  · cases h
/-- all that is looked at of an own error -/
def exB (K : PySem.W.Frag) (x : Str) : Bool := clsB K (ga K x) && (eqO (PySem.W.findIn K (.ref (ga K x)) "__setattr__") (some (some (.builtin "object.__setattr__"))) && (decide (PySem.W.subIn K (.ref (ga K x)) (.type "BaseException") = some true) && (decide (PySem.W.typeIn K (.ref (ga K x)) = some (.type "type")) && (PySem.W.keepIn K (.ref (ga K x)) && (eqO (PySem.W.findIn K (.ref (ga K x)) "__init__") (some (some (.ref (ma K (ga K x) "__init__")))) && decide (PySem.W.typeIn K (.ref (ma K (ga K x) "__init__")) = some (.type "function")))))))
theorem exB_oe {K : PySem.W.Frag} {x : Str} (h : exB K x = true) : OexC K (ga K x) := by
  obtain ⟨h1, h⟩ := ba h
  obtain ⟨h2, h⟩ := ba h
  obtain ⟨h3, h⟩ := ba h
  obtain ⟨h4, h⟩ := ba h
  exact ⟨clsB_ok h1, eqO_ok h2, of_decide_eq_true h3, of_decide_eq_true h4, (ba h).1⟩
theorem exB_ic {K : PySem.W.Frag} {x : Str} (h : exB K x = true) : PySem.W.findIn K (.ref (ga K x)) "__init__" = some (some (.ref (fAd K (x, some "__init__")))) := eqO_ok (ba (ba (ba (ba (ba (ba h).2).2).2).2).2).1
theorem exB_ti {K : PySem.W.Frag} {x : Str} (h : exB K x = true) : PySem.W.typeIn K (.ref (fAd K (x, some "__init__"))) = some (.type "function") := of_decide_eq_true (ba (ba (ba (ba (ba (ba h).2).2).2).2).2).2
/-- what the head says: facts, errors, defs, tables -/
structure Fs where
  fa : List Fa
  ex : List Str
  fn : List DF
  ts : List (Str × List Str)
  xs : List (PySem.W.Frag → Bool) := []
abbrev Al : Type := Bool × List FnV × List (Option (List (Option (Str × Int))))
def obs (F : Fs) (K : PySem.W.Frag) : Al := ((F.fa.all fun f => f.ok K) && ((F.ex.all fun x => exB K x) && ((F.fn.all fun d => d.ok K) && F.xs.all fun f => f K)), F.fn.map fun d => fnObs K d.at_, F.ts.map fun t => dicW K (ga K t.1))
def val (F : Fs) (w : World) : Al := (true, F.fn.map fun d => d.d.val, F.ts.map fun t => some (keysIn w.params t.2))
def Says (F : Fs) (K : PySem.W.Frag) (w : World) : Prop := obs F K = val F w
def obsG (F : Fs) (as : List Addr) (g : Addr → Option Obj) : Al := obs F (frG g as)
def hook (F : Fs) (as : List Addr) : PySem.W.Hook where
  α := Al
  obs := fun s => obsG F as s.heap.get?
  val := val F
  says := fun w h => ∃ K : PySem.W.Frag, K.In h ∧ Says F K w
  of := fun _ _ e => ⟨_, frG_in, e⟩
  keeps := fun _ _ _ ⟨K, hK, c⟩ k => ⟨K, PySem.W.Frag.In.keeps hK k, c⟩
def ob (F : Fs) (as : List Addr) (s : PySem.W.SharedT) : Al := obsG F as (HandSHeadRun.getT s)
theorem ob_eq (F : Fs) (as : List Addr) (s : PySem.W.SharedT) : ob F as s = (hook F as).obs s.abs := by
  have e : HandSHeadRun.getT s = s.abs.heap.get? := funext (HandSHeadRun.getT_eq s)
  unfold ob
  rw [e]
  rfl
section
variable {F : Fs} {K : PySem.W.Frag} {w : World}
theorem Says.fa (c : Says F K w) (i : Nat) {f : Fa} (h : F.fa[i]? = some f := by rfl) : f.ok K = true :=
  List.all_eq_true.mp (ba (show ((F.fa.all fun f => f.ok K) && _) = true from congrArg (fun z : Al => z.1) c)).1 f (List.mem_of_getElem? h)
theorem Says.ex (c : Says F K w) (i : Nat) {x : Str} (h : F.ex[i]? = some x := by rfl) : exB K x = true :=
  List.all_eq_true.mp (ba (ba (show ((F.fa.all fun f => f.ok K) && ((F.ex.all fun x => exB K x) && _)) = true from congrArg (fun z : Al => z.1) c)).2).1 x (List.mem_of_getElem? h)
theorem Says.fn (c : Says F K w) (i : Nat) {d : DF} (h : F.fn[i]? = some d := by rfl) : Fun K d.name d.qual d.st (fAd K d.at_) (fdAt K d.at_) := by
  have h1 := List.all_eq_true.mp (ba (ba (ba (show ((F.fa.all fun f => f.ok K) && ((F.ex.all fun x => exB K x) && ((F.fn.all fun d => d.ok K) && F.xs.all fun f => f K))) = true from congrArg (fun z : Al => z.1) c)).2).2).1 d (List.mem_of_getElem? h)
  have e : F.fn.map (fun d => fnObs K d.at_) = F.fn.map fun d => d.d.val := congrArg (fun z : Al => z.2.1) c
  have e2 : (F.fn.map fun d => fnObs K d.at_)[i]? = (F.fn.map fun d => d.d.val)[i]? := by rw [e]
  rw [List.getElem?_map, List.getElem?_map, h] at e2
  exact DF.fun_ (Option.some.inj e2) h1
theorem Says.xs (c : Says F K w) (i : Nat) {f : PySem.W.Frag → Bool} (h : F.xs[i]? = some f := by rfl) : f K = true :=
  List.all_eq_true.mp (ba (ba (ba (show ((F.fa.all fun f => f.ok K) && ((F.ex.all fun x => exB K x) && ((F.fn.all fun d => d.ok K) && F.xs.all fun f => f K))) = true from congrArg (fun z : Al => z.1) c)).2).2).2 f (List.mem_of_getElem? h)
theorem Says.ts (c : Says F K w) (i : Nat) {t : Str × List Str} (h : F.ts[i]? = some t := by rfl) : ∃ es n, KDict K w (ga K t.1) es n := by
  have e : (F.ts.map fun t => dicW K (ga K t.1)) = F.ts.map fun t => some (keysIn w.params t.2) := congrArg (fun z : Al => z.2.2) c
  have e2 : (F.ts.map fun t => dicW K (ga K t.1))[i]? = (F.ts.map fun t => some (keysIn w.params t.2))[i]? := by rw [e]
  rw [List.getElem?_map, List.getElem?_map, h] at e2
  exact dicW_ok (Option.some.inj e2)
end
theorem bind_one {K : PySem.W.Frag} {x qual p : Str} {st : Stmt} {f : Addr} {fd : FuncData} (F : Fun K x qual st f fd) (h : ∀ (kV doc pm : Value) (an : Option Addr) (cdv ct u : Value), bindArgs (PySem.W.fnOf x qual (defArgs st) (defBody st) (defScope st) .none kV doc pm an cdv ct) ⟨[u], []⟩ = pure [(p, u)]) (s : Shared) (u : Value) : BindsTo s fd ⟨[u], []⟩ [(p, u)] := by
  obtain ⟨oc, od, kV, doc, pm, an, cdv, ct, osl, rfl, lk, hcd⟩ := F.ex
  exact .of_eq (h _ _ _ _ _ _ _)
end Hd
namespace K24
open PySem PySem.Spec PyProof.Rows L2
set_option maxHeartbeats 0
def topS (i : Nat) : Stmt := PySem.Challenge.pw_chooseonce_k24_stretches_and_dresses.main.body.getD i (.Pass ⟨0, 0, 0, 0⟩)
def iniS (i j : Nat) : Stmt := match topS i with | .ClassDef _ _ _ body _ _ _ _ _ _ _ => body.getD j (.Pass ⟨0, 0, 0, 0⟩) | _ => .Pass ⟨0, 0, 0, 0⟩
abbrev s_whole_of : Stmt := topS 2
abbrev s_widths_of : Stmt := topS 3
abbrev s_piece_stretches : Stmt := topS 4
abbrev s_texts_in : Stmt := topS 5
abbrev s_parts_due : Stmt := topS 6
abbrev s__pairs_along : Stmt := topS 7
abbrev s_dress_of : Stmt := topS 9
abbrev s_letters_hold : Stmt := topS 10
abbrev s_tests_hold : Stmt := topS 11
abbrev s_plain_dress : Stmt := topS 12
abbrev s_letters_of : Stmt := topS 13
abbrev s_text_at : Stmt := topS 14
abbrev s__texts_of : Stmt := topS 15
abbrev s_fits_dresses : Stmt := topS 16
abbrev s__plain_texts : Stmt := topS 18
abbrev s_judges_of : Stmt := topS 30
abbrev s_has_first : Stmt := topS 32
abbrev s_all_asks : Stmt := topS 33
abbrev s_kinds_of : Stmt := topS 36
abbrev s_part_places : Stmt := topS 37
abbrev s_sign_places : Stmt := topS 38
abbrev s_kinds_by_maker : Stmt := topS 41
abbrev s__kind_of : Stmt := topS 42
abbrev s__refs_to : Stmt := topS 43
abbrev s_all_ways : Stmt := topS 53
abbrev s_look_formulas : Stmt := topS 56
abbrev s_look_asks : Stmt := topS 57
abbrev s__first_told : Stmt := topS 58
abbrev s__look_makers_of : Stmt := topS 59
abbrev s__mentions_in : Stmt := topS 60
abbrev s__look_mention : Stmt := topS 61
abbrev s__fits : Stmt := topS 62
abbrev s__is_let : Stmt := topS 64
abbrev s_look_names : Stmt := topS 67
abbrev s__look_list : Stmt := topS 68
abbrev s_look_mentions : Stmt := topS 70
abbrev s_look_makers : Stmt := topS 71
abbrev s_look_tests : Stmt := topS 72
abbrev s__look_name : Stmt := topS 73
abbrev s_has_only : Stmt := topS 75
abbrev s_look_signs : Stmt := topS 77
abbrev s__words_of : Stmt := topS 78
abbrev s__letters_of : Stmt := topS 79
abbrev s_Book___init__ : Stmt := iniS 81 0
abbrev s_Book_ways : Stmt := iniS 81 3
abbrev s_Book_in_pairs : Stmt := iniS 81 7
abbrev s__look_all : Stmt := topS 82
abbrev s__told_by : Stmt := topS 83
abbrev s__formulas_of : Stmt := topS 84
abbrev s_mark_box : Stmt := topS 86
abbrev s_wrong_at : Stmt := topS 88
abbrev s_stands : Stmt := topS 89
abbrev s__wrong_here : Stmt := topS 90
abbrev s__is_number : Stmt := topS 91
abbrev s__is_cut : Stmt := topS 92
abbrev s__adds_up : Stmt := topS 93
abbrev s__widths_fit : Stmt := topS 94
abbrev s__lets : Stmt := topS 95
abbrev s_height_of : Stmt := topS 97
abbrev s_node_at : Stmt := topS 98
abbrev s_nodes_of : Stmt := topS 99
abbrev s_nodes_beneath : Stmt := topS 100
abbrev s_replaced_at : Stmt := topS 101
abbrev s__way_of : Stmt := topS 102
abbrev s__parts_below : Stmt := topS 103
abbrev s__law_tape : Stmt := topS 105
abbrev s__law_pick : Stmt := topS 106
abbrev s__law_same : Stmt := topS 107
abbrev s__law_mark : Stmt := topS 108
abbrev s__law_way : Stmt := topS 109
abbrev s__law_text : Stmt := topS 110
abbrev s__law_span : Stmt := topS 111
abbrev s__law_scene : Stmt := topS 112
abbrev s__law_parting : Stmt := topS 113
abbrev s__law_between : Stmt := topS 114
abbrev s__law_due : Stmt := topS 115
abbrev s__law_plain : Stmt := topS 116
abbrev s__law_scene_right : Stmt := topS 117
abbrev s__law_job_right : Stmt := topS 118
abbrev s__law_tall : Stmt := topS 119
abbrev s__law_tall_right : Stmt := topS 120
abbrev s_law : Stmt := topS 121
abbrev si_TwiceNamed : Stmt := iniS 22 0
abbrev si_BadSign : Stmt := iniS 23 0
abbrev si_NoName : Stmt := iniS 24 0
abbrev si_BadMaker : Stmt := iniS 25 0
abbrev si_BadRef : Stmt := iniS 26 0
abbrev si_Missing : Stmt := iniS 27 0
abbrev si_BadAsk : Stmt := iniS 28 0
def hdn0 : List PySem.Str := ["_wall", "whole_of", "widths_of", "piece_stretches", "texts_in", "parts_due", "_pairs_along", "dress_of", "letters_hold", "tests_hold", "plain_dress", "letters_of", "text_at", "_texts_of", "_fits", "fits_dresses", "_plain_texts", "ChooseError", "LookError", "TwiceNamed"]
def hdn1 : List PySem.Str := ["BadSign", "NoName", "BadMaker", "BadRef", "Missing", "BadAsk", "judges_of", "asks_in", "has_first", "all_asks", "own_judge", "kinds_of", "part_places", "sign_places", "run_places", "mark_places", "kinds_by_maker", "_kind_of", "_refs_to", "SIGNS"]
def hdn2 : List PySem.Str := ["ROWS", "PAIRS", "NUMBERS", "START", "LOTS", "JUDGES", "ASKS", "all_ways", "SORTS_LET", "look_formulas", "look_asks", "_first_told", "_look_makers_of", "_mentions_in", "_look_mention", "fits_formulalooks", "_is_let", "_may_lead", "look_names", "_look_list"]
def hdn3 : List PySem.Str := ["look_mentions", "look_makers", "look_tests", "_look_name", "has_only", "look_signs", "_words_of", "_letters_of", "Book", "_look_all", "_told_by", "_formulas_of", "mark_box", "wrong_at", "stands", "_wrong_here", "_is_number", "_is_cut", "_adds_up", "_widths_fit"]
def hdn4 : List PySem.Str := ["_lets", "height_of", "node_at", "nodes_of", "nodes_beneath", "replaced_at", "_way_of", "_parts_below", "_law_tape", "_law_pick", "_law_same", "_law_mark", "_law_way", "_law_text", "_law_span", "_law_scene", "_law_parting", "_law_between", "_law_due", "_law_plain"]
def hdn5 : List PySem.Str := ["_law_scene_right", "_law_job_right", "_law_tall", "_law_tall_right"]
def hdn : List PySem.Str := hdn0 ++ hdn1 ++ hdn2 ++ hdn3 ++ hdn4 ++ hdn5
def hdf0 : List He.Fa := [.noat "TwiceNamed" "name", .glo "TwiceNamed", .noat "BadSign" "word", .glo "BadSign", .noat "NoName" "name", .glo "NoName", .noat "BadMaker" "maker", .glo "BadMaker", .noat "BadRef" "maker", .glo "BadRef", .noat "Missing" "maker", .noat "Missing" "judge", .glo "Missing", .noat "BadAsk" "name", .glo "BadAsk", .cls "Book", .glo "Book", .noat "Book" "signs", .noat "Book" "program", .noat "Book" "rows"]
def hdf1 : List He.Fa := [.noat "Book" "start", .noat "Book" "_ways", .noat "Book" "_kinds", .noat "Book" "_pairs", .noat "Book" "_numbers", .noat "Book" "_sorts", .noat "Book" "_formulas", .noat "Book" "_asks", .glo "whole_of", .glo "widths_of", .glo "piece_stretches", .glo "texts_in", .glo "parts_due", .glo "_pairs_along", .glo "dress_of", .glo "letters_hold", .glo "tests_hold", .glo "plain_dress", .glo "letters_of", .glo "text_at"]
def hdf2 : List He.Fa := [.glo "_texts_of", .glo "fits_dresses", .glo "_plain_texts", .glo "judges_of", .glo "has_first", .glo "all_asks", .glo "kinds_of", .glo "part_places", .glo "sign_places", .glo "kinds_by_maker", .glo "_kind_of", .glo "_refs_to", .glo "all_ways", .glo "look_formulas", .glo "look_asks", .glo "_first_told", .glo "_look_makers_of", .glo "_mentions_in", .glo "_look_mention", .glo "_fits"]
def hdf3 : List He.Fa := [.glo "_is_let", .glo "look_names", .glo "_look_list", .glo "look_mentions", .glo "look_makers", .glo "look_tests", .glo "_look_name", .glo "has_only", .glo "look_signs", .glo "_words_of", .glo "_letters_of", .mkr "Book", .meth "Book" "ways", .meth "Book" "in_pairs", .glo "_look_all", .glo "_told_by", .glo "_formulas_of", .glo "mark_box", .glo "wrong_at", .glo "stands"]
def hdf4 : List He.Fa := [.glo "_wrong_here", .glo "_is_number", .glo "_is_cut", .glo "_adds_up", .glo "_widths_fit", .glo "_lets", .glo "height_of", .glo "node_at", .glo "nodes_of", .glo "nodes_beneath", .glo "replaced_at", .glo "_way_of", .glo "_parts_below", .glo "_law_tape", .glo "_law_pick", .glo "_law_same", .glo "_law_mark", .glo "_law_way", .glo "_law_text", .glo "_law_span"]
def hdf5 : List He.Fa := [.glo "_law_scene", .glo "_law_parting", .glo "_law_between", .glo "_law_due", .glo "_law_plain", .glo "_law_scene_right", .glo "_law_job_right", .glo "_law_tall", .glo "_law_tall_right", .glo "law", .free "tuple", .free "zip", .free "all", .free "len", .free "enumerate", .free "set", .free "isinstance", .free "bool", .free "int", .free "sum"]
def hdf6 : List He.Fa := [.free "range", .free "str", .free "list", .int "SIGNS" (1), .int "ROWS" (2), .int "PAIRS" (3), .int "NUMBERS" (4), .int "START" (5), .int "LOTS" (6), .int "JUDGES" (7), .int "ASKS" (8)]
def hdf : List He.Fa := hdf0 ++ hdf1 ++ hdf2 ++ hdf3 ++ hdf4 ++ hdf5 ++ hdf6
def hde0 : List PySem.Str := ["TwiceNamed", "BadSign", "NoName", "BadMaker", "BadRef", "Missing", "BadAsk"]
def hde : List PySem.Str := hde0
def hdd0 : List Hd.DF := [⟨("TwiceNamed", some "__init__"), "__init__", "TwiceNamed.__init__", si_TwiceNamed⟩, ⟨("BadSign", some "__init__"), "__init__", "BadSign.__init__", si_BadSign⟩, ⟨("NoName", some "__init__"), "__init__", "NoName.__init__", si_NoName⟩, ⟨("BadMaker", some "__init__"), "__init__", "BadMaker.__init__", si_BadMaker⟩, ⟨("BadRef", some "__init__"), "__init__", "BadRef.__init__", si_BadRef⟩, ⟨("Missing", some "__init__"), "__init__", "Missing.__init__", si_Missing⟩, ⟨("BadAsk", some "__init__"), "__init__", "BadAsk.__init__", si_BadAsk⟩, ⟨("whole_of", none), "whole_of", "whole_of", s_whole_of⟩, ⟨("widths_of", none), "widths_of", "widths_of", s_widths_of⟩, ⟨("piece_stretches", none), "piece_stretches", "piece_stretches", s_piece_stretches⟩, ⟨("texts_in", none), "texts_in", "texts_in", s_texts_in⟩, ⟨("parts_due", none), "parts_due", "parts_due", s_parts_due⟩, ⟨("_pairs_along", none), "_pairs_along", "_pairs_along", s__pairs_along⟩, ⟨("dress_of", none), "dress_of", "dress_of", s_dress_of⟩, ⟨("letters_hold", none), "letters_hold", "letters_hold", s_letters_hold⟩, ⟨("tests_hold", none), "tests_hold", "tests_hold", s_tests_hold⟩, ⟨("plain_dress", none), "plain_dress", "plain_dress", s_plain_dress⟩, ⟨("letters_of", none), "letters_of", "letters_of", s_letters_of⟩, ⟨("text_at", none), "text_at", "text_at", s_text_at⟩, ⟨("_texts_of", none), "_texts_of", "_texts_of", s__texts_of⟩]
def hdd1 : List Hd.DF := [⟨("fits_dresses", none), "_fits", "_fits", s_fits_dresses⟩, ⟨("_plain_texts", none), "_plain_texts", "_plain_texts", s__plain_texts⟩, ⟨("judges_of", none), "judges_of", "judges_of", s_judges_of⟩, ⟨("has_first", none), "has_first", "has_first", s_has_first⟩, ⟨("all_asks", none), "all_asks", "all_asks", s_all_asks⟩, ⟨("kinds_of", none), "kinds_of", "kinds_of", s_kinds_of⟩, ⟨("part_places", none), "part_places", "part_places", s_part_places⟩, ⟨("sign_places", none), "sign_places", "sign_places", s_sign_places⟩, ⟨("kinds_by_maker", none), "kinds_by_maker", "kinds_by_maker", s_kinds_by_maker⟩, ⟨("_kind_of", none), "_kind_of", "_kind_of", s__kind_of⟩, ⟨("_refs_to", none), "_refs_to", "_refs_to", s__refs_to⟩, ⟨("all_ways", none), "all_ways", "all_ways", s_all_ways⟩, ⟨("look_formulas", none), "look_formulas", "look_formulas", s_look_formulas⟩, ⟨("look_asks", none), "look_asks", "look_asks", s_look_asks⟩, ⟨("_first_told", none), "_first_told", "_first_told", s__first_told⟩, ⟨("_look_makers_of", none), "_look_makers_of", "_look_makers_of", s__look_makers_of⟩, ⟨("_mentions_in", none), "_mentions_in", "_mentions_in", s__mentions_in⟩, ⟨("_look_mention", none), "_look_mention", "_look_mention", s__look_mention⟩, ⟨("_fits", none), "_fits", "_fits", s__fits⟩, ⟨("_is_let", none), "_is_let", "_is_let", s__is_let⟩]
def hdd2 : List Hd.DF := [⟨("look_names", none), "look_names", "look_names", s_look_names⟩, ⟨("_look_list", none), "_look_list", "_look_list", s__look_list⟩, ⟨("look_mentions", none), "look_mentions", "look_mentions", s_look_mentions⟩, ⟨("look_makers", none), "look_makers", "look_makers", s_look_makers⟩, ⟨("look_tests", none), "look_tests", "look_tests", s_look_tests⟩, ⟨("_look_name", none), "_look_name", "_look_name", s__look_name⟩, ⟨("has_only", none), "has_only", "has_only", s_has_only⟩, ⟨("look_signs", none), "look_signs", "look_signs", s_look_signs⟩, ⟨("_words_of", none), "_words_of", "_words_of", s__words_of⟩, ⟨("_letters_of", none), "_letters_of", "_letters_of", s__letters_of⟩, ⟨("Book", some "__init__"), "__init__", "Book.__init__", s_Book___init__⟩, ⟨("Book", some "ways"), "ways", "Book.ways", s_Book_ways⟩, ⟨("Book", some "in_pairs"), "in_pairs", "Book.in_pairs", s_Book_in_pairs⟩, ⟨("_look_all", none), "_look_all", "_look_all", s__look_all⟩, ⟨("_told_by", none), "_told_by", "_told_by", s__told_by⟩, ⟨("_formulas_of", none), "_formulas_of", "_formulas_of", s__formulas_of⟩, ⟨("mark_box", none), "mark_box", "mark_box", s_mark_box⟩, ⟨("wrong_at", none), "wrong_at", "wrong_at", s_wrong_at⟩, ⟨("stands", none), "stands", "stands", s_stands⟩, ⟨("_wrong_here", none), "_wrong_here", "_wrong_here", s__wrong_here⟩]
def hdd3 : List Hd.DF := [⟨("_is_number", none), "_is_number", "_is_number", s__is_number⟩, ⟨("_is_cut", none), "_is_cut", "_is_cut", s__is_cut⟩, ⟨("_adds_up", none), "_adds_up", "_adds_up", s__adds_up⟩, ⟨("_widths_fit", none), "_widths_fit", "_widths_fit", s__widths_fit⟩, ⟨("_lets", none), "_lets", "_lets", s__lets⟩, ⟨("height_of", none), "height_of", "height_of", s_height_of⟩, ⟨("node_at", none), "node_at", "node_at", s_node_at⟩, ⟨("nodes_of", none), "nodes_of", "nodes_of", s_nodes_of⟩, ⟨("nodes_beneath", none), "nodes_beneath", "nodes_beneath", s_nodes_beneath⟩, ⟨("replaced_at", none), "replaced_at", "replaced_at", s_replaced_at⟩, ⟨("_way_of", none), "_way_of", "_way_of", s__way_of⟩, ⟨("_parts_below", none), "_parts_below", "_parts_below", s__parts_below⟩, ⟨("_law_tape", none), "_law_tape", "_law_tape", s__law_tape⟩, ⟨("_law_pick", none), "_law_pick", "_law_pick", s__law_pick⟩, ⟨("_law_same", none), "_law_same", "_law_same", s__law_same⟩, ⟨("_law_mark", none), "_law_mark", "_law_mark", s__law_mark⟩, ⟨("_law_way", none), "_law_way", "_law_way", s__law_way⟩, ⟨("_law_text", none), "_law_text", "_law_text", s__law_text⟩, ⟨("_law_span", none), "_law_span", "_law_span", s__law_span⟩, ⟨("_law_scene", none), "_law_scene", "_law_scene", s__law_scene⟩]
def hdd4 : List Hd.DF := [⟨("_law_parting", none), "_law_parting", "_law_parting", s__law_parting⟩, ⟨("_law_between", none), "_law_between", "_law_between", s__law_between⟩, ⟨("_law_due", none), "_law_due", "_law_due", s__law_due⟩, ⟨("_law_plain", none), "_law_plain", "_law_plain", s__law_plain⟩, ⟨("_law_scene_right", none), "_law_scene_right", "_law_scene_right", s__law_scene_right⟩, ⟨("_law_job_right", none), "_law_job_right", "_law_job_right", s__law_job_right⟩, ⟨("_law_tall", none), "_law_tall", "_law_tall", s__law_tall⟩, ⟨("_law_tall_right", none), "_law_tall_right", "_law_tall_right", s__law_tall_right⟩, ⟨("law", none), "law", "law", s_law⟩]
def hdd : List Hd.DF := hdd0 ++ hdd1 ++ hdd2 ++ hdd3 ++ hdd4
def hdt : List (PySem.Str × List PySem.Str) := []
def hdx : List (PySem.W.Frag → Bool) := []
def hda0 : List Addr := [3, 582, 583, 131, 117, 130, 118, 245, 244, 206, 168, 226, 169, 187, 188, 207, 225, 263, 149, 264, 150, 185, 147, 223, 261, 510, 204, 489, 242, 538, 166, 807, 25, 26, 30, 31, 146, 35, 36, 40]
def hda1 : List Addr := [165, 41, 45, 46, 184, 52, 53, 57, 203, 58, 62, 63, 222, 69, 70, 74, 241, 75, 81, 82, 260, 88, 89, 95, 272, 273, 284, 285, 291, 292, 303, 304, 308, 309, 315, 316, 336, 337, 341, 342]
def hda2 : List Addr := [346, 347, 353, 354, 368, 369, 373, 374, 380, 381, 387, 388, 392, 393, 399, 400, 404, 405, 409, 410, 421, 422, 428, 429, 433, 434, 440, 441, 447, 448, 454, 455, 459, 460, 466, 467, 471, 472, 476, 477]
def hda3 : List Addr := [488, 96, 509, 102, 537, 103, 107, 108, 593, 594, 598, 599, 605, 606, 612, 613, 619, 620, 626, 627, 633, 634, 640, 641, 645, 646, 650, 651, 657, 658, 664, 665, 671, 672, 678, 679, 683, 684, 690, 691]
def hda4 : List Addr := [695, 696, 702, 703, 709, 710, 716, 717, 723, 724, 730, 731, 737, 738, 742, 743, 747, 748, 754, 755, 759, 760, 766, 767, 771, 772, 776, 777, 781, 782, 786, 787, 791, 792, 796, 797, 801, 802, 806]
def hda : List Addr := hda0 ++ hda1 ++ hda2 ++ hda3 ++ hda4
def hds : Hd.Fs := ⟨hdf, hde, hdd, hdt, hdx⟩
theorem hd_rf (w : World) : HandSHeadRun.RunEq (PySem.W.OpenLaw.row PySem.Challenge.rw_chooseonce_k24_stretches_and_dresses) (PySem.W.view (PySem.W.OpenLaw.row PySem.Challenge.rw_chooseonce_k24_stretches_and_dresses).prog [121]) (Hd.hook hds hda) (Hd.ob hds hda) 9000 hdn (w.withFollow "special-get-raises" false) := fun os => by kernel_rfl
theorem hd_rt (w : World) : HandSHeadRun.RunEq (PySem.W.OpenLaw.row PySem.Challenge.rw_chooseonce_k24_stretches_and_dresses) (PySem.W.view (PySem.W.OpenLaw.row PySem.Challenge.rw_chooseonce_k24_stretches_and_dresses).prog [121]) (Hd.hook hds hda) (Hd.ob hds hda) 9000 hdn (w.withFollow "special-get-raises" true) := fun os => by kernel_rfl
theorem hd_run (w : World) : HandSHeadRun.RunEq (PySem.W.OpenLaw.row PySem.Challenge.rw_chooseonce_k24_stretches_and_dresses) (PySem.W.view (PySem.W.OpenLaw.row PySem.Challenge.rw_chooseonce_k24_stretches_and_dresses).prog [121]) (Hd.hook hds hda) (Hd.ob hds hda) 9000 hdn w := PySem.W.byRow2 "special-get-raises" hd_rf hd_rt w
end K24
set_option maxHeartbeats 4000000
namespace PD
open PySem PySem.Spec PyProof.Rows L2
/-- a value without xs9 tuples' addresses -/
inductive D where
  | non | bl (b : Bool) | int (i : Int) | str (x : Str) | tup (ds : List D) | ref (a : Addr)
  /-- a list that is read only -/
  | rol (ds : List D)
  /-- dicts that are read only: keys, values -/
  | dic (ks : List Key) (ds : List D)
  | dicT (ks : List (List Key)) (ds : List D)
  /-- an instance that is read only: its class, the names of its fields, their values -/
  | obj (C : Addr) (fs : List Str) (ds : List D)
/-- what stands at an address: a list -/
inductive MO where
  | lst (ds : List D)
  /-- a dict with ints and texts for keys; one with tuples of them -/
  | dct (kvs : List (Key × D))
  | dcT (kvs : List (List Key × D))
  /-- an instance of the class at C, its fields -/
  | ins (C : Addr) (fs : List (Str × D))
  /-- a set of ints and texts: its members, how many -/
  | sset (P : Program) (w : World) (S : Key → Bool) (n : Nat)
  /-- any other thing, by what is true of it -/
  | oth (u : HO)
/-- a list that never changes -/
def RoL (K : PySem.W.Frag) (H : Hp) (a : Addr) (xs : List V) : Prop :=
  (∃ o, H a = some (.frz o (.lst xs))) ∨ ∃ (o : Obj) (xs9 : Array Value) (n : Nat), K.lookup a = some o ∧ o.cls = .type "list" ∧ o.dict = none ∧ o.data = .seq xs9 n ∧ xs9.size ≤ sizeLine ∧ Vals xs xs9.toList
theorem RoL.sq {K : PySem.W.Frag} {H : Hp} {a : Addr} {xs : List V} (h : RoL K H a xs) : SqL K H a xs := by
  rcases h with ⟨o, h⟩ | h
  · exact .inl (.inr ⟨o, h⟩)
  · exact .inr h
abbrev Mu := Addr → Option MO
def mset (m : Mu) (a : Addr) (o : MO) : Mu := fun b => if b = a then some o else m b
theorem mset_same {m : Mu} {a : Addr} {o : MO} : mset m a o a = some o := by unfold mset; rw [if_pos rfl]
theorem mset_ne {m : Mu} {a b : Addr} {o : MO} (h : b ≠ a) : mset m a o b = m b := by unfold mset; rw [if_neg h]
theorem mset_new {m : Mu} {a b : Addr} {o o' : MO} (h : m a = none) (e : m b = some o') : mset m a o b = some o' := by
  rw [mset_ne (fun z => by rw [z, h] at e; cases e)]; exact e
theorem mset_mset {m : Mu} {a : Addr} {o u : MO} : mset (mset m a o) a u = mset m a u := by
  funext b; unfold mset; split <;> rfl
theorem mne {m : Mu} {a b : Addr} {o : MO} (h : m a = none) (e : m b = some o) : b ≠ a := fun z => by rw [z, h] at e; cases e
/-- a tuple of the heap's own -/
def TpH (H : Hp) (a : Addr) (vs : List V) : Prop := H a = some (.tup vs)
theorem TpH.sq {K : PySem.W.Frag} {H : Hp} {a : Addr} {vs : List V} (h : TpH H a vs) : SqT K H a vs := SqT.of h
instance {K : PySem.W.Frag} {H : Hp} {a : Addr} {vs : List V} : Coe (TpH H a vs) (SqT K H a vs) := ⟨TpH.sq⟩
mutual
inductive Rep (K : PySem.W.Frag) (H : Hp) : D → V → Prop
  | non : Rep K H .non .non
  | bl (b : Bool) : Rep K H (.bl b) (.bl b)
  | int (i : Int) : Rep K H (.int i) (.int i)
  | str (x : Str) : Rep K H (.str x) (.str x)
  | ref (a : Addr) : Rep K H (.ref a) (.ref a)
  | tup {ds : List D} {a : Addr} {vs : List V} : TpH H a vs → RepL K H ds vs → Rep K H (.tup ds) (.ref a)
  | rol {ds : List D} {a : Addr} {vs : List V} : RoL K H a vs → RepL K H ds vs → Rep K H (.rol ds) (.ref a)
  | dic {ks : List Key} {ds : List D} {a : Addr} {o : Obj} {us : List (Key × V)} : H a = some (.frz o (.dK us)) → us.map (·.1) = ks → RepL K H ds (us.map (·.2)) → Rep K H (.dic ks ds) (.ref a)
  | dicT {ks : List (List Key)} {ds : List D} {a : Addr} {o : Obj} {us : List (List Key × V)} : H a = some (.frz o (.dT us)) → us.map (·.1) = ks → RepL K H ds (us.map (·.2)) → Rep K H (.dicT ks ds) (.ref a)
  | obj {C : Addr} {fs : List Str} {ds : List D} {a dx : Addr} {o : Obj} {us : List (Str × V)} : H a = some (.frz o (.ins C dx us)) → us.map (·.1) = fs → RepL K H ds (us.map (·.2)) → Rep K H (.obj C fs ds) (.ref a)
inductive RepL (K : PySem.W.Frag) (H : Hp) : List D → List V → Prop
  | nil : RepL K H [] []
  | cons {d : D} {ds : List D} {v : V} {vs : List V} : Rep K H d v → RepL K H ds vs → RepL K H (d :: ds) (v :: vs)
end
def Imm : HO → Prop
  | .tup _ => True
  | .frz _ _ => True
  | _ => False
/-- what never changes is kept -/
def TX (H H' : Hp) : Prop := ∀ a u, Imm u → H a = some u → H' a = some u
theorem TX.refl (H : Hp) : TX H H := fun _ _ _ h => h
theorem TX.trans {H H1 H2 : Hp} (a : TX H H1) (b : TX H1 H2) : TX H H2 := fun c o i h => b c o i (a c o i h)
theorem TX.new {H : Hp} {p : Addr} {o : HO} (h : H p = none) : TX H (upd H p o) := fun a u _ e => by
  rw [upd_ne (ne_of_none e h)]; exact e
theorem TX.lst {H : Hp} {p : Addr} {xs : List V} {o : HO} (h : H p = some (.lst xs)) : TX H (upd H p o) := fun a u i e => by
  rw [upd_ne (fun z => by rw [z, h] at e; cases e; exact i)]; exact e
theorem TX.sqT {K : PySem.W.Frag} {H H' : Hp} (t : TX H H') {a : Addr} {xs : List V} (h : SqT K H a xs) : SqT K H' a xs := by
  rcases h with (h | ⟨o, h⟩) | h
  · exact .inl (.inl (t _ _ trivial h))
  · exact .inl (.inr ⟨o, t _ _ trivial h⟩)
  · exact .inr h
theorem TX.ro {K : PySem.W.Frag} {H H' : Hp} (t : TX H H') {a : Addr} {xs : List V} (h : RoL K H a xs) : RoL K H' a xs := by
  rcases h with ⟨o, h⟩ | h
  · exact .inl ⟨o, t _ _ trivial h⟩
  · exact .inr h
mutual
theorem Rep.mono {K : PySem.W.Frag} {H H' : Hp} (t : TX H H') : ∀ {d : D} {v : V}, Rep K H d v → Rep K H' d v
  | _, _, .non => .non
  | _, _, .bl b => .bl b
  | _, _, .int i => .int i
  | _, _, .str x => .str x
  | _, _, .ref a => .ref a
  | _, _, .tup s r => .tup (t _ _ trivial s) (RepL.mono t r)
  | _, _, .rol s r => .rol (t.ro s) (RepL.mono t r)
  | _, _, .dic e n r => .dic (t _ _ trivial e) n (RepL.mono t r)
  | _, _, .dicT e n r => .dicT (t _ _ trivial e) n (RepL.mono t r)
  | _, _, .obj e n r => .obj (t _ _ trivial e) n (RepL.mono t r)
theorem RepL.mono {K : PySem.W.Frag} {H H' : Hp} (t : TX H H') : ∀ {ds : List D} {vs : List V}, RepL K H ds vs → RepL K H' ds vs
  | _, _, .nil => .nil
  | _, _, .cons a b => .cons (Rep.mono t a) (RepL.mono t b)
end
theorem RepL.length {K : PySem.W.Frag} {H : Hp} : ∀ {ds : List D} {vs : List V}, RepL K H ds vs → ds.length = vs.length
  | _, _, .nil => rfl
  | _, _, .cons _ b => by rw [List.length_cons, List.length_cons, RepL.length b]
theorem RepL.append {K : PySem.W.Frag} {H : Hp} : ∀ {ds es : List D} {vs ws : List V}, RepL K H ds vs → RepL K H es ws → RepL K H (ds ++ es) (vs ++ ws)
  | _, _, _, _, .nil, s => s
  | _, _, _, _, .cons a b, s => .cons a (RepL.append b s)
theorem RepL.get {K : PySem.W.Frag} {H : Hp} : ∀ {ds : List D} {vs : List V} {i : Nat} {d : D}, RepL K H ds vs → ds[i]? = some d → ∃ v, vs[i]? = some v ∧ Rep K H d v
  | _, _, _, _, .nil, e => by simp at e
  | _, _, 0, _, .cons a _, e => by simp at e; subst e; exact ⟨_, rfl, a⟩
  | _, _, i + 1, d, .cons _ b, e => by
    obtain ⟨v, h1, h2⟩ := RepL.get (i := i) (d := d) b (by simpa using e)
    exact ⟨v, by simpa using h1, h2⟩
theorem RepL.getV {K : PySem.W.Frag} {H : Hp} {ds : List D} {vs : List V} {i : Nat} {v : V} (r : RepL K H ds vs) (e : vs[i]? = some v) : ∃ d, ds[i]? = some d ∧ Rep K H d v := by
  have hl := r.length
  obtain ⟨h1, _⟩ := List.getElem?_eq_some_iff.mp e
  have h2 : i < ds.length := by omega
  obtain ⟨w, e2, q⟩ := r.get (List.getElem?_eq_getElem h2)
  rw [e] at e2; cases e2
  exact ⟨_, List.getElem?_eq_getElem h2, q⟩
theorem RepL.take {K : PySem.W.Frag} {H : Hp} : ∀ {ds : List D} {vs : List V} (n : Nat), RepL K H ds vs → RepL K H (ds.take n) (vs.take n)
  | _, _, 0, _ => by rw [List.take_zero, List.take_zero]; exact .nil
  | _, _, _ + 1, .nil => .nil
  | _, _, n + 1, .cons a b => .cons a (RepL.take n b)
theorem RepL.drop {K : PySem.W.Frag} {H : Hp} : ∀ {ds : List D} {vs : List V} (n : Nat), RepL K H ds vs → RepL K H (ds.drop n) (vs.drop n)
  | _, _, 0, r => r
  | _, _, _ + 1, .nil => .nil
  | _, _, n + 1, .cons _ b => RepL.drop n b
theorem RepL.set {K : PySem.W.Frag} {H : Hp} {d : D} {v : V} (r : Rep K H d v) : ∀ {ds : List D} {vs : List V} (i : Nat), RepL K H ds vs → RepL K H (ds.set i d) (vs.set i v)
  | _, _, _, .nil => .nil
  | _, _, 0, .cons _ t => .cons r t
  | _, _, i + 1, .cons q t => .cons q (RepL.set r i t)
theorem RepL.erase {K : PySem.W.Frag} {H : Hp} : ∀ {ds : List D} {vs : List V} (i : Nat), RepL K H ds vs → RepL K H (ds.eraseIdx i) (vs.eraseIdx i)
  | _, _, _, .nil => .nil
  | _, _, 0, .cons _ t => t
  | _, _, i + 1, .cons q t => .cons q (RepL.erase i t)
theorem RepL.rev {K : PySem.W.Frag} {H : Hp} : ∀ {ds : List D} {vs : List V}, RepL K H ds vs → RepL K H ds.reverse vs.reverse
  | _, _, .nil => .nil
  | _, _, .cons a b => by rw [List.reverse_cons, List.reverse_cons]; exact RepL.append (RepL.rev b) (.cons a .nil)
theorem RepL.dropLast {K : PySem.W.Frag} {H : Hp} {ds : List D} {vs : List V} (r : RepL K H ds vs) : RepL K H ds.dropLast vs.dropLast := by
  rw [List.dropLast_eq_take, List.dropLast_eq_take, r.length]
  exact r.take _
theorem RepL.nil_iff {K : PySem.W.Frag} {H : Hp} {ds : List D} {vs : List V} (r : RepL K H ds vs) : ds = [] ↔ vs = [] := by
  cases r with
  | nil => exact ⟨fun _ => rfl, fun _ => rfl⟩
  | cons a b => exact ⟨fun h => (nomatch h), fun h => (nomatch h)⟩
abbrev Sd := List (Option D)
def MOk (K : PySem.W.Frag) (H : Hp) (a : Addr) : MO → Prop
  | .lst ds => ∃ vs, H a = some (.lst vs) ∧ RepL K H ds vs
  | .dct kvs => ∃ us, H a = some (.dK us) ∧ us.map (·.1) = kvs.map (·.1) ∧ RepL K H (kvs.map (·.2)) (us.map (·.2))
  | .dcT kvs => ∃ us, H a = some (.dT us) ∧ us.map (·.1) = kvs.map (·.1) ∧ RepL K H (kvs.map (·.2)) (us.map (·.2))
  | .sset P w S n => H a = some (SetK P w a S n)
  | .oth u => H a = some u
  | .ins C fs => ∃ dx us, H a = some (.ins C dx us) ∧ us.map (·.1) = fs.map (·.1) ∧ RepL K H (fs.map (·.2)) (us.map (·.2))
def RM (K : PySem.W.Frag) (H : Hp) (m : Mu) : Prop := ∀ a o, m a = some o → MOk K H a o
structure RS (K : PySem.W.Frag) (H : Hp) (sd : Sd) (s : L2.St) : Prop where
  len : sd.length = s.length
  at_ : ∀ (i : Nat) (d : D), sd[i]? = some (some d) → ∃ v, s[i]? = some (some v) ∧ Rep K H d v
theorem RS.mono {K : PySem.W.Frag} {H H' : Hp} {sd : Sd} {s : L2.St} (r : RS K H sd s) (t : TX H H') : RS K H' sd s :=
  ⟨r.len, fun i d e => let ⟨v, h, q⟩ := r.at_ i d e; ⟨v, h, q.mono t⟩⟩
theorem RS.set {K : PySem.W.Frag} {H : Hp} {sd : Sd} {s : L2.St} (r : RS K H sd s) {d : D} {v : V} (q : Rep K H d v) (i : Nat) : RS K H (sd.set i (some d)) (s.set i (some v)) := by
  refine ⟨by rw [List.length_set, List.length_set]; exact r.len, fun j e h => ?_⟩
  rw [List.getElem?_set] at h
  rw [List.getElem?_set]
  by_cases hij : i = j
  · subst hij
    rw [if_pos rfl] at h ⊢
    by_cases hl : i < sd.length
    · rw [if_pos hl] at h
      cases h
      rw [if_pos (by rw [← r.len]; exact hl)]
      exact ⟨v, rfl, q⟩
    · rw [if_neg hl] at h; cases h
  · rw [if_neg hij] at h ⊢
    exact r.at_ j e h
theorem MOk.tx {K : PySem.W.Frag} {H H' : Hp} {a : Addr} {o : MO} (h : MOk K H a o) (t : TX H H') (k : ∀ u, H a = some u → H' a = some u) : MOk K H' a o := by
  cases o with
  | lst ds => obtain ⟨vs, e, r⟩ := h; exact ⟨vs, k _ e, r.mono t⟩
  | dct kvs => obtain ⟨us, e, e2, r⟩ := h; exact ⟨us, k _ e, e2, r.mono t⟩
  | dcT kvs => obtain ⟨us, e, e2, r⟩ := h; exact ⟨us, k _ e, e2, r.mono t⟩
  | ins C fs => obtain ⟨dx, us, e, e2, r⟩ := h; exact ⟨dx, us, k _ e, e2, r.mono t⟩
  | sset P w S n => exact k _ h
  | oth u => exact k _ h
theorem MOk.some {K : PySem.W.Frag} {H : Hp} {a : Addr} {o : MO} (h : MOk K H a o) : ∃ u, H a = some u := by
  cases o with
  | lst ds => obtain ⟨vs, e, r⟩ := h; exact ⟨_, e⟩
  | dct kvs => obtain ⟨us, e, _⟩ := h; exact ⟨_, e⟩
  | dcT kvs => obtain ⟨us, e, _⟩ := h; exact ⟨_, e⟩
  | ins C fs => obtain ⟨dx, us, e, _⟩ := h; exact ⟨_, e⟩
  | sset P w S n => exact ⟨_, h⟩
  | oth u => exact ⟨_, h⟩
/-- a new object that the store does not tell of -/
theorem RM.skip {K : PySem.W.Frag} {H : Hp} {m : Mu} {p : Addr} {u : HO} (r : RM K H m) (h : H p = none) : RM K (upd H p u) m := fun a o e => by
  refine (r a o e).tx (.new h) fun vs q => ?_
  rw [upd_ne (ne_of_none q h)]; exact q
theorem RM.fresh {K : PySem.W.Frag} {H : Hp} {m : Mu} {p : Addr} (r : RM K H m) (h : H p = none) : m p = none := by
  cases q : m p with
  | none => rfl
  | some o =>
    obtain ⟨u, e⟩ := (r p o q).some
    rw [h] at e; cases e
/-- a new list -/
theorem RM.newL {K : PySem.W.Frag} {H : Hp} {m : Mu} {p : Addr} {ds : List D} {vs : List V} (r : RM K H m) (h : H p = none) (q : RepL K H ds vs) : RM K (upd H p (.lst vs)) (mset m p (.lst ds)) := fun a o e => by
  by_cases ha : a = p
  · subst ha
    rw [mset_same] at e; cases e
    exact ⟨vs, upd_same, q.mono (.new h)⟩
  · rw [mset_ne ha] at e
    exact r.skip h a o e
/-- a list is changed -/
theorem RM.setL {K : PySem.W.Frag} {H : Hp} {m : Mu} {p : Addr} {ds : List D} {vs ws : List V} (r : RM K H m) (h : H p = some (.lst ws)) (q : RepL K H ds vs) : RM K (upd H p (.lst vs)) (mset m p (.lst ds)) := fun a o e => by
  by_cases ha : a = p
  · subst ha
    rw [mset_same] at e; cases e
    exact ⟨vs, upd_same, q.mono (.lst h)⟩
  · rw [mset_ne ha] at e
    refine (r a o e).tx (.lst h) fun us z => ?_
    rw [upd_ne ha]; exact z
/-- less is told -/
def Sub (m m' : Mu) : Prop := ∀ a o, m a = some o → m' a = some o
theorem Sub.refl (m : Mu) : Sub m m := fun _ _ h => h
theorem Sub.trans {m m1 m2 : Mu} (a : Sub m m1) (b : Sub m1 m2) : Sub m m2 := fun x o h => b x o (a x o h)
theorem Sub.new {m : Mu} {p : Addr} {o : MO} (h : m p = none) : Sub m (mset m p o) := fun a u e => mset_new h e
theorem Sub.new' {m m' : Mu} {p : Addr} {o : MO} (s : Sub m m') (h : m p = none) : Sub m (mset m' p o) := fun a u e => by
  rw [mset_ne (mne h e)]; exact s a u e
theorem Sub.free {m m' : Mu} {p : Addr} (s : Sub m m') (h : m' p = none) : m p = none := by
  cases q : m p with
  | none => rfl
  | some o => rw [s p o q] at h; cases h
theorem RM.sub {K : PySem.W.Frag} {H : Hp} {m m' : Mu} (r : RM K H m') (s : Sub m m') : RM K H m := fun a o e => r a o (s a o e)
abbrev DK := D → Mu → Prop
abbrev DE := Sd → Mu → DK → Prop
abbrev DT := Sd → Mu → (Bool → Mu → Prop) → Prop
abbrev DA := Sd → Mu → (List D → Mu → Prop) → Prop
structure DEnds where
  nx : Sd → Mu → Prop
  rt : DK
  bk : Sd → Mu → Prop := fun _ _ => False
  ct : Sd → Mu → Prop := fun _ _ => False
abbrev DS := DEnds → Sd → Mu → Prop
def LE (K : PySem.W.Frag) (t : TE) (d : DE) : Prop := ∀ s H sd m (Qd : DK) (Q : VK), RS K H sd s → RM K H m → d sd m Qd →
  (∀ v H' dv m', TX H H' → RM K H' m' → Rep K H' dv v → Qd dv m' → Q v H') → t s H Q
def LT (K : PySem.W.Frag) (t : TT) (d : DT) : Prop := ∀ s H sd m (Qd : Bool → Mu → Prop) (Q : Bool → Hp → Prop), RS K H sd s → RM K H m → d sd m Qd →
  (∀ b H' m', TX H H' → RM K H' m' → Qd b m' → Q b H') → t s H Q
def LA (K : PySem.W.Frag) (t : TA) (d : DA) : Prop := ∀ s H sd m (Qd : List D → Mu → Prop) (Q : List V → Hp → Prop), RS K H sd s → RM K H m → d sd m Qd →
  (∀ vs H' ds m', TX H H' → RM K H' m' → RepL K H' ds vs → Qd ds m' → Q vs H') → t s H Q
def LS (K : PySem.W.Frag) (t : TS) (d : DS) : Prop := ∀ s H sd m (Ed : DEnds) (E : Ends), RS K H sd s → RM K H m → d Ed sd m →
  (∀ s' H' sd' m', TX H H' → RS K H' sd' s' → RM K H' m' → Ed.nx sd' m' → E.nx s' H') →
  (∀ v H' dv m', TX H H' → RM K H' m' → Rep K H' dv v → Ed.rt dv m' → E.rt v H') →
  (∀ s' H' sd' m', TX H H' → RS K H' sd' s' → RM K H' m' → Ed.bk sd' m' → E.bk s' H') →
  (∀ s' H' sd' m', TX H H' → RS K H' sd' s' → RM K H' m' → Ed.ct sd' m' → E.ct s' H') → t E s H
def liftE (K : PySem.W.Frag) (d : DE) : TE := fun s H Q => ∃ sd m Qd, RS K H sd s ∧ RM K H m ∧ d sd m Qd ∧ ∀ v H' dv m', TX H H' → RM K H' m' → Rep K H' dv v → Qd dv m' → Q v H'
def liftT (K : PySem.W.Frag) (d : DT) : TT := fun s H Q => ∃ sd m Qd, RS K H sd s ∧ RM K H m ∧ d sd m Qd ∧ ∀ b H' m', TX H H' → RM K H' m' → Qd b m' → Q b H'
theorem liftE_le (K : PySem.W.Frag) (d : DE) : LE K (liftE K d) d := fun s H sd m Qd Q rs rm h k => ⟨sd, m, Qd, rs, rm, h, k⟩
theorem liftT_le (K : PySem.W.Frag) (d : DT) : LT K (liftT K d) d := fun s H sd m Qd Q rs rm h k => ⟨sd, m, Qd, rs, rm, h, k⟩
structure GE (X : Cx) (e : Expr) (d : DE) : Prop where
  mk ::
  pe : PE X e (liftE X.K d)
structure GT (X : Cx) (e : Expr) (d : DT) : Prop where
  mk ::
  pt : PT X e (liftT X.K d)
theorem GE.ex {X : Cx} {e : Expr} {d : DE} (h : GE X e d) : ∃ t, PE X e t ∧ LE X.K t d := ⟨_, h.pe, liftE_le _ _⟩
theorem GT.ex {X : Cx} {e : Expr} {d : DT} (h : GT X e d) : ∃ t, PT X e t ∧ LT X.K t d := ⟨_, h.pt, liftT_le _ _⟩
theorem GE.of {X : Cx} {e : Expr} {d : DE} (h : ∃ t, PE X e t ∧ LE X.K t d) : GE X e d :=
  let ⟨t, p, l⟩ := h
  ⟨⟨fun pz s τ H Q I ⟨sd, m, Qd, rs, rm, hd, k⟩ => p.run pz s τ H Q I (l τ H sd m Qd Q rs rm hd k)⟩⟩
theorem GT.of {X : Cx} {e : Expr} {d : DT} (h : ∃ t, PT X e t ∧ LT X.K t d) : GT X e d :=
  let ⟨t, p, l⟩ := h
  ⟨⟨fun pz s τ H Q I ⟨sd, m, Qd, rs, rm, hd, k⟩ => p.run pz s τ H Q I (l τ H sd m Qd Q rs rm hd k)⟩⟩
structure GW (X : Cx) (e : Expr) (d : DT) : Prop where
  ex : ∃ t, PW X e t ∧ LT X.K t d
structure GA (X : Cx) (es : List Expr) (d : DA) : Prop where
  ex : ∃ t, PA X es t ∧ LA X.K t d
structure GS (X : Cx) (st : Stmt) (d : DS) : Prop where
  ex : ∃ t, PS X st t ∧ LS X.K t d
structure GSs (X : Cx) (st : List Stmt) (d : DS) : Prop where
  ex : ∃ t, PSs X st t ∧ LS X.K t d
theorem GW.gt {X : Cx} {e : Expr} {d : DT} (h : GW X e d) : GT X e d := let ⟨t, p, l⟩ := h.ex; .of ⟨t, p.pt, l⟩
section
variable {X : Cx}
def dVar (i : Nat) : DE := fun s m Q => match s[i]? with | some (some d) => Q d m | _ => False
def dC (d : D) : DE := fun _ m Q => Q d m
theorem gv (i : Nat) {x : Str} {pos : Pos} (hN : X.N[i]? = some x := by rfl) (hv : Vis X.env.scope x := by first | exact Or.inl rfl | exact Or.inr (Or.inl rfl) | exact Or.inr (Or.inr rfl)) (hd : (x == ("__debug__" : Str)) = false := by decide)
    (hcd : (x == ("__classdict__" : Str)) = false := by decide) : GE X (.Name x pos) (dVar i) :=
  .of ⟨_, pv i hN hv hd hcd, fun s H sd m Qd Q rs rm h k => by
    unfold dVar at h
    split at h
    · rename_i d e
      obtain ⟨v, e2, r⟩ := rs.at_ i d e
      exact ⟨v, e2, k v H d m (.refl H) rm r h⟩
    · exact h.elim⟩
theorem ge_c {e : Expr} {v : V} {d : D} (p : PE X e (tC v)) (r : ∀ H, Rep X.K H d v) : GE X e (dC d) :=
  .of ⟨_, p, fun _ H _ m _ _ _ rm h k => k v H d m (.refl H) rm (r H) h⟩
theorem ge_int {i j pos} : GE X (.Constant (.int i) j pos) (dC (.int i)) := ge_c pe_int fun _ => .int i
theorem ge_str {x j pos} : GE X (.Constant (.str x) j pos) (dC (.str x)) := ge_c pe_str fun _ => .str x
theorem ge_bl {b j pos} : GE X (.Constant (.bool b) j pos) (dC (.bl b)) := ge_c pe_bl fun _ => .bl b
theorem ge_non {j pos} : GE X (.Constant .none j pos) (dC .non) := ge_c pe_non fun _ => .non
def dNil : DA := fun _ m Q => Q [] m
def dCons (a : DE) (r : DA) : DA := fun s m Q => a s m fun x m1 => r s m1 fun xs m2 => Q (x :: xs) m2
theorem ga_nil : GA X [] dNil := ⟨_, pa_nil, fun _ H _ m _ _ _ rm h k => k [] H [] m (.refl H) rm .nil h⟩
theorem ga_cons {e : Expr} {es : List Expr} {de : DE} {dr : DA} (ha : GE X e de) (hr : GA X es dr) (hs : starEach (e :: es) X.env = (false, eval e X.env) :: starEach es X.env := by rfl) : GA X (e :: es) (dCons de dr) := by
  obtain ⟨te, p, l⟩ := ha.ex
  obtain ⟨tr, q, l2⟩ := hr.ex
  refine ⟨_, pa_cons p q hs, fun s H sd m Qd Q rs rm h k => ?_⟩
  refine l s H sd m _ _ rs rm h fun v H1 dv m1 t1 rm1 r1 h1 => ?_
  exact l2 s H1 sd m1 _ _ (rs.mono t1) rm1 h1 fun vs H2 ds m2 t2 rm2 r2 h2 => k _ H2 _ m2 (t1.trans t2) rm2 (.cons (r1.mono t2) r2) h2
abbrev D2 := D → D → Mu → DK → Prop
def LR (K : PySem.W.Frag) (r : R2) (d : D2) : Prop := ∀ x y H dx dy m (Qd : DK) (Q : VK), RM K H m → Rep K H dx x → Rep K H dy y → d dx dy m Qd →
  (∀ v H' dv m', TX H H' → RM K H' m' → Rep K H' dv v → Qd dv m' → Q v H') → r x y H Q
def dOp (r : D2) (a b : DE) : DE := fun s m Q => a s m fun x m1 => b s m1 fun y m2 => r x y m2 Q
theorem LE.op {K : PySem.W.Frag} {ta tb : TE} {da db : DE} {r : R2} {d : D2} (l : LE K ta da) (l2 : LE K tb db) (lr : LR K r d) : LE K (tOp r ta tb) (dOp d da db) := fun s H sd m Qd Q rs rm h k => by
  refine l s H sd m _ _ rs rm h fun v H1 dv m1 t1 rm1 r1 h1 => ?_
  refine l2 s H1 sd m1 _ _ (rs.mono t1) rm1 h1 fun w H2 dw m2 t2 rm2 r2 h2 => ?_
  exact lr v w H2 dv dw m2 Qd Q rm2 (r1.mono t2) r2 h2 fun v' H' dv' m' t' a b c => k v' H' dv' m' (t1.trans (t2.trans t')) a b c
theorem ge_op {a b : Expr} {pos : Pos} {da db : DE} {op : Operator} {r : R2} {d : D2} (ho : OpR X (binaryOp op) r) (lr : LR X.K r d) (ha : GE X a da) (hb : GE X b db) : GE X (.BinOp a op b pos) (dOp d da db) := by
  obtain ⟨ta, p, l⟩ := ha.ex
  obtain ⟨tb, q, l2⟩ := hb.ex
  exact .of ⟨_, pe_op ho p q, l.op l2 lr⟩
theorem ge_cmpR {a b : Expr} {pos : Pos} {da db : DE} {op : CmpOp} {r : R2} {d : D2} (ho : OpR X (compareOp op) r) (lr : LR X.K r d) (ha : GE X a da) (hb : GE X b db) (hm : behindInMarks op b = false) : GE X (.Compare a [op] [b] pos) (dOp d da db) := by
  obtain ⟨ta, p, l⟩ := ha.ex
  obtain ⟨tb, q, l2⟩ := hb.ex
  exact .of ⟨_, pe_cmpR ho p q hm, l.op l2 lr⟩
def dTest (a : DE) : DT := fun s m Q => a s m fun x m1 => match x with | .bl b => Q b m1 | _ => False
theorem LE.test {K : PySem.W.Frag} {t : TE} {d : DE} (l : LE K t d) : LT K (tTest t) (dTest d) := fun s H sd m Qd Q rs rm h k => by
  refine l s H sd m _ _ rs rm h fun v H1 dv m1 t1 rm1 r1 h1 => ?_
  cases r1 with
  | bl b => exact ⟨b, rfl, k b H1 m1 t1 rm1 h1⟩
  | _ => exact h1.elim
theorem LE.testB {K : PySem.W.Frag} {t : TE} {d : DE} (l : LE K t d) : LT K (tB t) (dTest d) := fun s H sd m Qd Q rs rm h k => by
  refine l s H sd m _ _ rs rm h fun v H1 dv m1 t1 rm1 r1 h1 => ?_
  cases r1 with
  | bl b => exact ⟨b, rfl, k b H1 m1 t1 rm1 h1⟩
  | _ => exact h1.elim
theorem gt_cmpR {a b : Expr} {pos : Pos} {da db : DE} {op : CmpOp} {r : R2} {d : D2} (ho : OpR X (compareOp op) r) (lr : LR X.K r d) (ha : GE X a da) (hb : GE X b db) (hm : behindInMarks op b = false) : GT X (.Compare a [op] [b] pos) (dTest (dOp d da db)) := by
  obtain ⟨ta, p, l⟩ := ha.ex
  obtain ⟨tb, q, l2⟩ := hb.ex
  exact .of ⟨_, pt_cmpR ho p q hm, (l.op l2 lr).test⟩
theorem gt_val {e : Expr} {d : DE} (h : GE X e d) (he : ∀ whole, isTrue e X.env whole = (do let v ← whole; standAt e.pos; holding [v] (truthy v)) := by intro _; rfl) : GT X e (dTest d) := by
  obtain ⟨t, p, l⟩ := h.ex
  exact .of ⟨_, pt_val p he, l.testB⟩
end
end PD
namespace PD
open PySem PySem.Spec PyProof.Rows L2
def seqOf (m : Mu) : D → Option (List D)
  | .tup ds => some ds
  | .rol ds => some ds
  | .ref a => match m a with | some (.lst ds) => some ds | _ => none
  | _ => none
theorem seq_rep {K : PySem.W.Frag} {H : Hp} {m : Mu} {d : D} {v : V} {ds : List D} (rm : RM K H m) (r : Rep K H d v) (h : seqOf m d = some ds) :
    ∃ a vs, v = .ref a ∧ (SqL K H a vs ∨ SqT K H a vs) ∧ RepL K H ds vs := by
  cases r with
  | tup s q => unfold seqOf at h; cases h; exact ⟨_, _, rfl, .inr s, q⟩
  | rol s q => unfold seqOf at h; cases h; exact ⟨_, _, rfl, .inl s.sq, q⟩
  | ref a =>
    unfold seqOf at h
    cases e : m a with
    | none => simp only [e] at h; cases h
    | some o =>
      have q := rm a o e
      cases o with
      | lst es => simp only [e] at h; cases h; obtain ⟨vs, e2, r⟩ := q; exact ⟨a, vs, rfl, .inl (SqL.of e2), r⟩
      | _ => simp only [e] at h; cases h
  | _ => unfold seqOf at h; cases h
theorem ref_rep {K : PySem.W.Frag} {H : Hp} {m : Mu} {a : Addr} {ds : List D} (rm : RM K H m) (h : seqOf m (.ref a) = some ds) : ∃ vs, SqL K H a vs ∧ RepL K H ds vs := by
  unfold seqOf at h
  cases e : m a with
  | none => simp only [e] at h; cases h
  | some o =>
    have q := rm a o e
    cases o with
    | lst es => simp only [e] at h; cases h; obtain ⟨vs, e2, r⟩ := q; exact ⟨vs, SqL.of e2, r⟩
    | _ => simp only [e] at h; cases h
def lstOf (m : Mu) : D → Option (Addr × List D)
  | .ref a => match m a with | some (.lst ds) => some (a, ds) | _ => none
  | _ => none
theorem lst_rep {K : PySem.W.Frag} {H : Hp} {m : Mu} {d : D} {v : V} {a : Addr} {ds : List D} (rm : RM K H m) (r : Rep K H d v) (h : lstOf m d = some (a, ds)) :
    v = .ref a ∧ d = .ref a ∧ m a = some (.lst ds) ∧ ∃ vs, H a = some (.lst vs) ∧ RepL K H ds vs := by
  cases r with
  | ref b =>
    unfold lstOf at h
    cases e : m b with
    | none => simp only [e] at h; cases h
    | some o =>
      cases o with
      | lst es => simp only [e] at h; cases h; exact ⟨rfl, rfl, e, rm _ _ e⟩
      | _ => simp only [e] at h; cases h
  | _ => unfold lstOf at h; cases h
def flatD : D → Bool
  | .non => true
  | .bl _ => true
  | .int _ => true
  | .str _ => true
  | _ => false
def eqF : D → D → Bool
  | .non, .non => true
  | .bl a, .bl b => a == b
  | .bl a, .int b => (if a then 1 else 0) == b
  | .int a, .bl b => a == (if b then 1 else 0)
  | .int a, .int b => a == b
  | .str a, .str b => a == b
  | _, _ => false
theorem Rep.flat {K : PySem.W.Frag} {H : Hp} {d : D} {v : V} (r : Rep K H d v) (f : flatD d = true) : flatV v = true := by
  cases r <;> first | rfl | exact absurd f Bool.false_ne_true
theorem Rep.eqF {K : PySem.W.Frag} {H : Hp} {d e : D} {v u : V} (r : Rep K H d v) (q : Rep K H e u) (f : flatD d = true) (g : flatD e = true) : eqV v u = eqF d e := by
  cases r <;> first | exact absurd f Bool.false_ne_true | (cases q <;> first | exact absurd g Bool.false_ne_true | rfl)
theorem RepL.flat {K : PySem.W.Frag} {H : Hp} : ∀ {ds : List D} {vs : List V}, RepL K H ds vs → ds.all flatD = true → vs.all flatV = true
  | _, _, .nil, _ => rfl
  | _, _, .cons a b, f => by
    rw [List.all_cons, Bool.and_eq_true] at f
    rw [List.all_cons, a.flat f.1, RepL.flat b f.2]; rfl
theorem RepL.inV {K : PySem.W.Frag} {H : Hp} {d : D} {v : V} (r : Rep K H d v) (f : flatD d = true) : ∀ {ds : List D} {vs : List V}, RepL K H ds vs → ds.all flatD = true → inV v vs = ds.any fun y => PD.eqF y d
  | _, _, .nil, _ => rfl
  | _, _, .cons a b, g => by
    rw [List.all_cons, Bool.and_eq_true] at g
    have := RepL.inV r f b g.2
    unfold L2.inV at this ⊢
    rw [List.any_cons, List.any_cons, this, a.eqF r g.1 f]
mutual
def toP : D → Option PyData
  | .non => some .none
  | .bl b => some (.bool b)
  | .int i => some (.int i)
  | .str x => some (.str x)
  | .tup ds => (toPs ds).map .tuple
  | .ref _ => none
  | .rol ds => (toPs ds).map .list
  | .dic _ _ => none
  | .dicT _ _ => none
  | .obj _ _ _ => none
def toPs : List D → Option (List PyData)
  | [] => some []
  | d :: ds => match toP d, toPs ds with | some p, some ps => some (p :: ps) | _, _ => none
end
mutual
theorem Rep.dp {K : PySem.W.Frag} {H : Hp} : ∀ {d : D} {v : V} {p : PyData}, Rep K H d v → toP d = some p → Dp K H v p
  | _, _, _, .non, h => by unfold toP at h; cases h; exact .non
  | _, _, _, .bl b, h => by unfold toP at h; cases h; exact .bl b
  | _, _, _, .int i, h => by unfold toP at h; cases h; exact .int i
  | _, _, _, .str x, h => by unfold toP at h; cases h; exact .str x
  | _, _, _, .ref a, h => by unfold toP at h; cases h
  | .dic _ _, _, _, .dic _ _ _, h => by unfold toP at h; cases h
  | .dicT _ _, _, _, .dicT _ _ _, h => by unfold toP at h; cases h
  | .obj _ _ _, _, _, .obj _ _ _, h => by unfold toP at h; cases h
  | .rol ds, _, _, .rol s r, h => by
    unfold toP at h
    cases e : toPs ds with
    | none => rw [e] at h; cases h
    | some ps => rw [e] at h; cases h; exact .lst s.sq (RepL.dp r e)
  | .tup ds, _, _, .tup s r, h => by
    unfold toP at h
    cases e : toPs ds with
    | none => rw [e] at h; cases h
    | some ps => rw [e] at h; cases h; exact .tup s (RepL.dp r e)
theorem RepL.dp {K : PySem.W.Frag} {H : Hp} : ∀ {ds : List D} {vs : List V} {ps : List PyData}, RepL K H ds vs → toPs ds = some ps → DpAll K H vs ps
  | _, _, _, .nil, h => by unfold toPs at h; cases h; exact .nil
  | d :: ds, _, _, .cons a b, h => by
    unfold toPs at h
    cases e : toP d with
    | none => rw [e] at h; cases h
    | some p =>
      cases e2 : toPs ds with
      | none => rw [e, e2] at h; cases h
      | some ps => rw [e, e2] at h; cases h; exact .cons (Rep.dp a e) (RepL.dp b e2)
end
def toPm (m : Mu) : D → Option PyData
  | .ref a => match m a with | some (.lst ds) => (toPs ds).map .list | _ => none
  | d => toP d
theorem dpm {K : PySem.W.Frag} {H : Hp} {m : Mu} {d : D} {v : V} {p : PyData} (rm : RM K H m) (r : Rep K H d v) (h : toPm m d = some p) : Dp K H v p := by
  cases r with
  | ref a =>
    unfold toPm at h
    cases e : m a with
    | none => simp only [e] at h; cases h
    | some o =>
      have q := rm a o e
      cases o with
      | lst es =>
        simp only [e] at h
        obtain ⟨vs, e2, r⟩ := q
        cases e3 : toPs es with
        | none => rw [e3] at h; cases h
        | some ps => rw [e3] at h; cases h; exact .lst (SqL.of e2) (r.dp e3)
      | _ => simp only [e] at h; cases h
  | rol s r => exact Rep.dp (.rol s r) h
  | dic e n r => exact Rep.dp (.dic e n r) h
  | dicT e n r => exact Rep.dp (.dicT e n r) h
  | obj e n r => exact Rep.dp (.obj e n r) h
  | tup s r => exact Rep.dp (.tup s r) h
  | non => exact Rep.dp .non h
  | bl b => exact Rep.dp (.bl b) h
  | int i => exact Rep.dp (.int i) h
  | str x => exact Rep.dp (.str x) h
def isSeq (m : Mu) (d : D) : Bool := (seqOf m d).isSome
def eqK (m : Mu) (x y : D) : Option Bool :=
  if flatD x && flatD y then some (eqF x y)
  else if flatD x then (if isSeq m y then some false else none)
  else if flatD y then (if isSeq m x then some false else none)
  else match toPm m x, toPm m y with
    | some p, some q => if SeqAt.shaped p && SeqAt.shaped q then some (PyData.eqv p q) else none
    | _, _ => none
inductive EqS (K : PySem.W.Frag) (H : Hp) : V → V → Bool → Prop
  | flat {x y : V} : flatV x = true → flatV y = true → EqS K H x y (eqV x y)
  | fs {x : V} {a : Addr} {vs : List V} : flatV x = true → (SqL K H a vs ∨ SqT K H a vs) → EqS K H x (.ref a) false
  | sf {y : V} {a : Addr} {vs : List V} : flatV y = true → (SqL K H a vs ∨ SqT K H a vs) → EqS K H (.ref a) y false
  | dat {x y : V} {d e : PyData} : Dp K H x d → Dp K H y e → SeqAt.shaped d = true → SeqAt.shaped e = true → EqS K H x y (PyData.eqv d e)
theorem eqs_of {K : PySem.W.Frag} {H : Hp} {m : Mu} {dx dy : D} {x y : V} {b : Bool} (rm : RM K H m) (rx : Rep K H dx x) (ry : Rep K H dy y) (h : eqK m dx dy = some b) : EqS K H x y b := by
  unfold eqK at h
  split at h
  · rename_i c
    rw [Bool.and_eq_true] at c
    cases h
    rw [← rx.eqF ry c.1 c.2]
    exact .flat (rx.flat c.1) (ry.flat c.2)
  · split at h
    · rename_i c
      split at h
      · rename_i e
        cases h
        obtain ⟨ds, e2⟩ := Option.isSome_iff_exists.mp e
        obtain ⟨a, vs, rfl, s, _⟩ := seq_rep rm ry e2
        exact .fs (rx.flat c) s
      · cases h
    · split at h
      · rename_i c
        split at h
        · rename_i e
          cases h
          obtain ⟨ds, e2⟩ := Option.isSome_iff_exists.mp e
          obtain ⟨a, vs, rfl, s, _⟩ := seq_rep rm rx e2
          exact .sf (ry.flat c) s
        · cases h
      · split at h
        · rename_i p q e1 e2
          split at h
          · rename_i c
            rw [Bool.and_eq_true] at c
            cases h
            exact .dat (dpm rm rx e1) (dpm rm ry e2) c.1 c.2
          · cases h
        · cases h
section
variable {X : Cx}
theorem eqv_flat {A : Around} {s : Shared} {x y : V} {u v : Value} (rx : RelV x u) (ry : RelV y v) (fx : flatV x = true) (fy : flatV y = true) : SeqAt.RcAt A s u v (eqV x y) ∧ SeqAt.RcNeAt A s u v (!(eqV x y)) := by
  cases x with
  | non =>
    cases rx
    cases y with
    | non => cases ry; exact ⟨SeqAt.RcAt.none_none, SeqAt.RcNeAt.none_none⟩
    | bl b => cases ry; exact ⟨SeqAt.RcAt.none_bool b, SeqAt.RcNeAt.none_bool b⟩
    | int b => obtain ⟨t, rfl⟩ := ry; exact ⟨SeqAt.RcAt.none_int b t, SeqAt.RcNeAt.none_int b t⟩
    | str b => obtain ⟨t, rfl⟩ := ry; exact ⟨SeqAt.RcAt.none_str b t, SeqAt.RcNeAt.none_str b t⟩
    | _ => exact absurd fy Bool.false_ne_true
  | bl a =>
    cases rx
    cases y with
    | non => cases ry; exact ⟨SeqAt.RcAt.bool_none a, SeqAt.RcNeAt.bool_none a⟩
    | bl b => cases ry; exact ⟨SeqAt.RcAt.bool_bool a b, SeqAt.RcNeAt.bool_bool a b⟩
    | int b => obtain ⟨t, rfl⟩ := ry; exact ⟨SeqAt.RcAt.bool_int a b t, SeqAt.RcNeAt.bool_int a b t⟩
    | str b => obtain ⟨t, rfl⟩ := ry; exact ⟨SeqAt.RcAt.bool_str a b t, SeqAt.RcNeAt.bool_str a b t⟩
    | _ => exact absurd fy Bool.false_ne_true
  | int a =>
    obtain ⟨t', rfl⟩ := rx
    cases y with
    | non => cases ry; exact ⟨SeqAt.RcAt.int_none a t', SeqAt.RcNeAt.int_none a t'⟩
    | bl b => cases ry; exact ⟨SeqAt.RcAt.int_bool a t' b, SeqAt.RcNeAt.int_bool a t' b⟩
    | int b => obtain ⟨t, rfl⟩ := ry; exact ⟨SeqAt.RcAt.int_int a t' b t, SeqAt.RcNeAt.int_int a t' b t⟩
    | str b => obtain ⟨t, rfl⟩ := ry; exact ⟨SeqAt.RcAt.int_str a t' b t, SeqAt.RcNeAt.int_str a t' b t⟩
    | _ => exact absurd fy Bool.false_ne_true
  | str a =>
    obtain ⟨t', rfl⟩ := rx
    cases y with
    | non => cases ry; exact ⟨SeqAt.RcAt.str_none a t', SeqAt.RcNeAt.str_none a t'⟩
    | bl b => cases ry; exact ⟨SeqAt.RcAt.str_bool a t' b, SeqAt.RcNeAt.str_bool a t' b⟩
    | int b => obtain ⟨t, rfl⟩ := ry; exact ⟨SeqAt.RcAt.str_int a t' b t, SeqAt.RcNeAt.str_int a t' b t⟩
    | str b => obtain ⟨t, rfl⟩ := ry; exact ⟨SeqAt.RcAt.str_str a t' b t, SeqAt.RcNeAt.str_str a t' b t⟩
    | _ => exact absurd fy Bool.false_ne_true
  | _ => exact absurd fx Bool.false_ne_true
theorem rc_fs {A : Around} {s : Shared} {x : V} {u : Value} {a : Addr} {items : Array Value} (rx : RelV x u) (fx : flatV x = true) (h : s.heap.IsList a items ∨ s.heap.IsTuple a items) (hu : A.units < cLine) :
    (SeqAt.RcAt A s u (.ref a) false ∧ SeqAt.RcNeAt A s u (.ref a) true) ∧ SeqAt.RcAt A s (.ref a) u false ∧ SeqAt.RcNeAt A s (.ref a) u true := by
  rcases h with h | h
  · cases x with
    | non => cases rx; exact ⟨⟨SeqAt.RcAt.none_list h hu, SeqAt.RcNeAt.none_list h hu⟩, SeqAt.RcAt.list_none h hu, SeqAt.RcNeAt.list_none h hu⟩
    | bl b => cases rx; exact ⟨⟨SeqAt.RcAt.bool_list b h hu, SeqAt.RcNeAt.bool_list b h hu⟩, SeqAt.RcAt.list_bool b h hu, SeqAt.RcNeAt.list_bool b h hu⟩
    | int b => obtain ⟨t, rfl⟩ := rx; exact ⟨⟨SeqAt.RcAt.int_list b t h hu, SeqAt.RcNeAt.int_list b t h hu⟩, SeqAt.RcAt.list_int b t h hu, SeqAt.RcNeAt.list_int b t h hu⟩
    | str b => obtain ⟨t, rfl⟩ := rx; exact ⟨⟨SeqAt.RcAt.str_list b t h hu, SeqAt.RcNeAt.str_list b t h hu⟩, SeqAt.RcAt.list_str b t h hu, SeqAt.RcNeAt.list_str b t h hu⟩
    | _ => exact absurd fx Bool.false_ne_true
  · cases x with
    | non => cases rx; exact ⟨⟨SeqAt.RcAt.none_tuple h hu, SeqAt.RcNeAt.none_tuple h hu⟩, SeqAt.RcAt.tuple_none h hu, SeqAt.RcNeAt.tuple_none h hu⟩
    | bl b => cases rx; exact ⟨⟨SeqAt.RcAt.bool_tuple b h hu, SeqAt.RcNeAt.bool_tuple b h hu⟩, SeqAt.RcAt.tuple_bool b h hu, SeqAt.RcNeAt.tuple_bool b h hu⟩
    | int b => obtain ⟨t, rfl⟩ := rx; exact ⟨⟨SeqAt.RcAt.int_tuple b t h hu, SeqAt.RcNeAt.int_tuple b t h hu⟩, SeqAt.RcAt.tuple_int b t h hu, SeqAt.RcNeAt.tuple_int b t h hu⟩
    | str b => obtain ⟨t, rfl⟩ := rx; exact ⟨⟨SeqAt.RcAt.str_tuple b t h hu, SeqAt.RcNeAt.str_tuple b t h hu⟩, SeqAt.RcAt.tuple_str b t h hu, SeqAt.RcNeAt.tuple_str b t h hu⟩
    | _ => exact absurd fx Bool.false_ne_true
theorem seq_is {pz : List (Addr × Obj)} {τ : L2.St} {H : Hp} {s : Shared} {a : Addr} {vs : List V} (I : Inv X pz τ H s) (h : SqL X.K H a vs ∨ SqT X.K H a vs) : ∃ items, s.heap.IsList a items ∨ s.heap.IsTuple a items := by
  rcases h with h | h
  · obtain ⟨xs9, _, p, _⟩ := I.list h
    exact ⟨_, .inl p.isList⟩
  · obtain ⟨xs9, _, p, _⟩ := I.tuple h
    exact ⟨_, .inr p⟩
theorem eqs_run {pz : List (Addr × Obj)} {τ : L2.St} {H : Hp} {s : Shared} {x y : V} {u v : Value} {b : Bool} (I : Inv X pz τ H s) (hu : X.A.units + 64 < cLine) (rx : RelV x u) (ry : RelV y v) (h : EqS X.K H x y b) :
    SeqAt.RcAt X.A s u v b ∧ SeqAt.RcNeAt X.A s u v (!b) := by
  cases h with
  | flat f g => exact eqv_flat rx ry f g
  | fs f q =>
    cases ry
    obtain ⟨items, h⟩ := seq_is I q
    exact (rc_fs rx f h (by omega)).1
  | sf f q =>
    cases rx
    obtain ⟨items, h⟩ := seq_is I q
    exact (rc_fs ry f h (by omega)).2
  | dat p q tA tB =>
    obtain ⟨as, r1⟩ := Dp.reads I _ _ u p rx
    obtain ⟨bs, r2⟩ := Dp.reads I _ _ v q ry
    exact ⟨SeqAt.rcAt_reads r1 r2 (SeqAt.canLay_of_shaped tA) (SeqAt.canLay_of_shaped tB) (SeqAt.room_of_shaped tA hu), SeqAt.rcNeAt_reads r1 r2 (SeqAt.canLay_of_shaped tA) (SeqAt.canLay_of_shaped tB) (SeqAt.room_of_shaped tA hu)⟩
def rEqS (K : PySem.W.Frag) : R2 := fun x y H Q => ∃ b, EqS K H x y b ∧ Q (.bl b) H
def rNeS (K : PySem.W.Frag) : R2 := fun x y H Q => ∃ b, EqS K H x y b ∧ Q (.bl (!b)) H
theorem op_eqS (hu : X.A.units + 64 < cLine) : OpR X (compareOp .Eq) (rEqS X.K) := fun pz s τ H x y v u Q I rx ry ⟨b, h, q⟩ => (eqs_run I hu rx ry h).1 X.prog X.w _ _ ⟨.bl b, H, I, rfl, q⟩
theorem op_neS (hu : X.A.units + 64 < cLine) : OpR X (compareOp .NotEq) (rNeS X.K) := fun pz s τ H x y v u Q I rx ry ⟨b, h, q⟩ => (eqs_run I hu rx ry h).2 X.prog X.w _ _ ⟨.bl (!b), H, I, rfl, q⟩
def dEq : D2 := fun x y m Q => ∃ b, eqK m x y = some b ∧ Q (.bl b) m
def dNe : D2 := fun x y m Q => ∃ b, eqK m x y = some b ∧ Q (.bl (!b)) m
theorem lr_eq {K : PySem.W.Frag} : LR K (rEqS K) dEq := fun x y H dx dy m Qd Q rm rx ry ⟨b, h, q⟩ k => ⟨b, eqs_of rm rx ry h, k _ H _ m (.refl H) rm (.bl b) q⟩
theorem lr_ne {K : PySem.W.Frag} : LR K (rNeS K) dNe := fun x y H dx dy m Qd Q rm rx ry ⟨b, h, q⟩ k => ⟨b, eqs_of rm rx ry h, k _ H _ m (.refl H) rm (.bl _) q⟩
end
end PD
namespace PD
open PySem PySem.Spec PyProof.Rows L2
section
variable {X : Cx}
def dAdd : D2 := fun x y m Q => match x, y with
  | .int i, .int j => Q (.int (i + j)) m
  | .str i, .str j => i.length + j.length ≤ sizeLine ∧ Q (.str (i ++ j)) m
  | .tup a, .tup b => a.length + b.length ≤ sizeLine ∧ Q (.tup (a ++ b)) m
  | .ref a, .ref b => ∃ xs ys, m a = some (.lst xs) ∧ m b = some (.lst ys) ∧ xs.length + ys.length ≤ sizeLine ∧ ∀ p, m p = none → Q (.ref p) (mset m p (.lst (xs ++ ys)))
  | _, _ => False
def rAddU (K : PySem.W.Frag) : R2 := fun x y H Q => rI0 (fun i j => .int (i + j)) x y H Q ∨ (∃ i j, x = .str i ∧ y = .str j ∧ i.length + j.length ≤ sizeLine ∧ Q (.str (i ++ j)) H) ∨ rCatA K x y H Q ∨ rCat x y H Q
theorem op_addU : OpR X (binaryOp .Add) (rAddU X.K) := op_add.or (op_add_str.or (op_catA.or op_cat))
theorem lr_add {K : PySem.W.Frag} : LR K (rAddU K) dAdd := fun x y H dx dy m Qd Q rm rx ry h k => by
  cases rx with
  | int i =>
    cases ry with
    | int j => exact .inl ⟨i, j, rfl, rfl, k _ H _ m (.refl H) rm (.int _) h⟩
    | _ => exact h.elim
  | str i =>
    cases ry with
    | str j => exact .inr (.inl ⟨i, j, rfl, rfl, h.1, k _ H _ m (.refl H) rm (.str _) h.2⟩)
    | _ => exact h.elim
  | @tup ds a vs sa ra =>
    cases ry with
    | @tup es b ws sb rb =>
      obtain ⟨hs9, h⟩ := h
      refine .inr (.inr (.inl ⟨a, b, vs, ws, rfl, rfl, sa, sb, by rw [← ra.length, ← rb.length]; exact hs9, fun e => ?_, fun e1 e2 => ?_, fun e1 e2 p hp => ?_⟩))
      · have : ds = [] := ra.nil_iff.mpr e
        subst this
        exact k _ H _ m (.refl H) rm (.tup sb rb) h
      · have : es = [] := rb.nil_iff.mpr e2
        subst this
        rw [List.append_nil] at h
        exact k _ H _ m (.refl H) rm (.tup sa ra) h
      · exact k _ _ _ m (.new hp) (rm.skip hp) (.tup upd_same ((ra.append rb).mono (.new hp))) h
    | _ => exact h.elim
  | ref a =>
    cases ry with
    | ref b =>
      obtain ⟨xs, ys, h1, h2, hs9, h⟩ := h
      obtain ⟨vs, e1, r1⟩ := rm _ _ h1
      obtain ⟨ws, e2, r2⟩ := rm _ _ h2
      exact .inr (.inr (.inr ⟨a, b, vs, ws, rfl, rfl, e1, e2, by rw [← r1.length, ← r2.length]; exact hs9, fun p hp => k _ _ _ _ (.new hp) (rm.newL hp (r1.append r2)) (.ref p) (h p (rm.fresh hp))⟩))
    | _ => exact h.elim
  | _ => exact h.elim
def dInt2 (C : Int → Int → Prop) (g : Int → Int → Int) : D2 := fun x y m Q => match x, y with
  | .int i, .int j => C i j ∧ Q (.int (g i j)) m
  | _, _ => False
theorem lr_int2 {K : PySem.W.Frag} {C : Int → Int → Prop} {g : Int → Int → Int} : LR K (rI C fun i j => .int (g i j)) (dInt2 C g) := fun x y H dx dy m Qd Q rm rx ry h k => by
  cases rx with
  | int i =>
    cases ry with
    | int j => exact ⟨i, j, rfl, rfl, h.1, k _ H _ m (.refl H) rm (.int _) h.2⟩
    | _ => exact h.elim
  | _ => exact h.elim
def dSub : D2 := fun x y m Q => match x, y with
  | .int i, .int j => Q (.int (i - j)) m
  | _, _ => False
theorem lr_sub {K : PySem.W.Frag} : LR K (rI0 fun i j => .int (i - j)) dSub := fun x y H dx dy m Qd Q rm rx ry h k => by
  cases rx with
  | int i =>
    cases ry with
    | int j => exact ⟨i, j, rfl, rfl, k _ H _ m (.refl H) rm (.int _) h⟩
    | _ => exact h.elim
  | _ => exact h.elim
def repS (x : Str) (n : Nat) : Str := ⟨(List.replicate n x.cps).foldl (· ++ ·) #[]⟩
def rMulS : R2 := fun x y H Q => ∃ z n, x = .str z ∧ y = .int n ∧ 0 ≤ n ∧ n ≤ 1000 ∧ z.length ≤ 1000 ∧ Q (.str (repS z n.toNat)) H
theorem repS_zero (x : Str) : repS x 0 = Str.empty := rfl
theorem repS_one (x : Str) : repS x 1 = x := by
  unfold repS
  show (⟨#[] ++ x.cps⟩ : Str) = x
  rw [Array.empty_append]
theorem repS_nil (x : Str) (h : x.length = 0) : ∀ n, repS x n = x
  | 0 => by
    have e : x.cps = #[] := Array.size_eq_zero_iff.mp h
    show (⟨#[]⟩ : Str) = x
    rw [← e]
  | n + 1 => by
    have e : x.cps = #[] := Array.size_eq_zero_iff.mp h
    have ih := repS_nil x h n
    unfold repS at ih ⊢
    rw [List.replicate_succ, List.foldl_cons, e, Array.append_empty]
    rw [e] at ih
    exact ih
theorem rep_size (c : Array Nat) : ∀ (n : Nat) (acc : Array Nat), ((List.replicate n c).foldl (· ++ ·) acc).size = acc.size + n * c.size
  | 0, acc => by rw [Nat.zero_mul]; rfl
  | n + 1, acc => by
    rw [List.replicate_succ, List.foldl_cons, rep_size c n (acc ++ c), Array.size_append, Nat.succ_mul]
    omega
theorem repS_len (x : Str) (n : Nat) : (repS x n).length = n * x.length := by
  show ((List.replicate n x.cps).foldl (· ++ ·) #[]).size = _
  rw [rep_size]
  show 0 + n * x.cps.size = n * x.cps.size
  omega
theorem op_mulS : OpR X (binaryOp .Mult) rMulS := by
  intro pz s τ H x y v u Q I rx ry h
  obtain ⟨z, n, rfl, rfl, h0, h1, hs9, q⟩ := h
  obtain ⟨t, rfl⟩ := rx
  obtain ⟨t', rfl⟩ := ry
  have le9 : z.length * n.toNat ≤ 1000000 := Nat.mul_le_mul hs9 (show n.toNat ≤ 1000 by omega)
  refine PySem.P.mul_str ?_ ?_ ?_ ?_
  · rw [decide_eq_false (by omega), decide_eq_false (by omega)]; rfl
  · intro g _ hgt
    have g2 : (1000 : Int) ≤ (2 ^ 63 - 1) / n := by
      rw [Int.le_ediv_iff_mul_le (by omega)]
      omega
    omega
  · intro _ _
    unfold Builtin.Str.tooLong
    rw [decide_eq_false]
    rw [sizeLine_eq]
    omega
  · by_cases h2 : n < 1
    · rw [if_pos h2]
      have e : n.toNat = 0 := by omega
      rw [e] at q
      exact ⟨by decide, .str _, H, I.tok _, ⟨_, rfl⟩, q⟩
    · rw [if_neg h2]
      by_cases h3 : (n == 1 || z.length == 0) = true
      · rw [if_pos h3]
        have e : repS z n.toNat = z := by
          rw [Bool.or_eq_true, beq_iff_eq, beq_iff_eq] at h3
          rcases h3 with e | e
          · subst e; exact repS_one z
          · exact repS_nil z e _
        rw [e] at q
        exact ⟨.str _, H, I, ⟨_, rfl⟩, q⟩
      · rw [if_neg h3]
        refine ⟨?_, .str _, H, I.tok _, ⟨_, rfl⟩, q⟩
        show (repS z n.toNat).length ≤ sizeLine
        rw [repS_len, sizeLine_eq, Nat.mul_comm]
        omega
def rMulU : R2 := fun x y H Q => rI CMul (fun i j => .int (i * j)) x y H Q ∨ rMulS x y H Q
theorem op_mulU : OpR X (binaryOp .Mult) rMulU := op_mul.or op_mulS
end
end PD
namespace PD
open PySem PySem.Spec PyProof.Rows L2
section
variable {X : Cx}
def LU (K : PySem.W.Frag) (r : V → Hp → VK → Prop) (d : D → Mu → DK → Prop) : Prop := ∀ x H dx m (Qd : DK) (Q : VK), RM K H m → Rep K H dx x → d dx m Qd →
  (∀ v H' dv m', TX H H' → RM K H' m' → Rep K H' dv v → Qd dv m' → Q v H') → r x H Q
def dUn (r : D → Mu → DK → Prop) (a : DE) : DE := fun s m Q => a s m fun x m1 => r x m1 Q
theorem ge_un {a : Expr} {pos : Pos} {da : DE} {op : UnaryOp} {r : V → Hp → VK → Prop} {d : D → Mu → DK → Prop} (ho : UnR X (unaryOp op) r) (lr : LU X.K r d) (ha : GE X a da) : GE X (.UnaryOp op a pos) (dUn d da) := by
  obtain ⟨ta, p, l⟩ := ha.ex
  refine .of ⟨_, pe_un ho p, fun s H sd m Qd Q rs rm h k => ?_⟩
  refine l s H sd m _ _ rs rm h fun v H1 dv m1 t1 rm1 r1 h1 => ?_
  exact lr v H1 dv m1 Qd Q rm1 r1 h1 fun v' H' dv' m' t' a b c => k v' H' dv' m' (t1.trans t') a b c
def dNeg : D → Mu → DK → Prop := fun x m Q => match x with | .int i => Q (.int (-i)) m | _ => False
theorem lu_neg {K : PySem.W.Frag} : LU K (rU fun i => .int (-i)) dNeg := fun x H dx m Qd Q rm rx h k => by
  cases rx with
  | int i => exact ⟨i, rfl, k _ H _ m (.refl H) rm (.int _) h⟩
  | _ => exact h.elim
def dCmp (g : Int → Int → Bool) : D2 := fun x y m Q => match x, y with
  | .int i, .int j => Q (.bl (g i j)) m
  | _, _ => False
theorem lr_cmp {K : PySem.W.Frag} {g : Int → Int → Bool} : LR K (rI0 fun i j => .bl (g i j)) (dCmp g) := fun x y H dx dy m Qd Q rm rx ry h k => by
  cases rx with
  | int i =>
    cases ry with
    | int j => exact ⟨i, j, rfl, rfl, k _ H _ m (.refl H) rm (.bl _) h⟩
    | _ => exact h.elim
  | _ => exact h.elim
def isNon : D → Bool
  | .non => true
  | _ => false
def dIsN : D2 := fun x y m Q => match y with | .non => Q (.bl (isNon x)) m | _ => False
def dNotN : D2 := fun x y m Q => match y with | .non => Q (.bl (!isNon x)) m | _ => False
theorem Rep.isNon {K : PySem.W.Frag} {H : Hp} {d : D} {v : V} (r : Rep K H d v) : decide (v = .non) = isNon d := by
  cases r <;> first | rfl | exact decide_eq_false (fun z => nomatch z)
theorem lr_isN {K : PySem.W.Frag} : LR K (fun x y H Q => y = .non ∧ Q (.bl (decide (x = .non))) H) dIsN := fun x y H dx dy m Qd Q rm rx ry h k => by
  cases ry with
  | non => exact ⟨rfl, k _ H _ m (.refl H) rm (by rw [rx.isNon]; exact .bl _) h⟩
  | _ => exact h.elim
theorem lr_notN {K : PySem.W.Frag} : LR K (fun x y H Q => y = .non ∧ Q (.bl (!decide (x = .non))) H) dNotN := fun x y H dx dy m Qd Q rm rx ry h k => by
  cases ry with
  | non => exact ⟨rfl, k _ H _ m (.refl H) rm (by rw [rx.isNon]; exact .bl _) h⟩
  | _ => exact h.elim
def inF (x : D) (ds : List D) : Bool := ds.any fun y => eqF y x
def dInG (f : Bool → Bool) : D2 := fun x y m Q => match y with
  | .str z => match x with
    | .str w => Q (.bl (f (!(Builtin.Str.occurrences z w 0 z.length 1).isEmpty))) m
    | _ => False
  | y => ∃ ds, seqOf m y = some ds ∧ flatD x = true ∧ ds.all flatD = true ∧ Q (.bl (f (inF x ds))) m
abbrev dIn : D2 := dInG fun b => b
abbrev dNotIn : D2 := dInG fun b => !b
def rInU (K : PySem.W.Frag) : R2 := fun x y H Q => (∃ i j, x = .str i ∧ y = .str j ∧ Q (.bl (!(Builtin.Str.occurrences j i 0 j.length 1).isEmpty)) H) ∨ rIn K false x y H Q
def rNotInU (K : PySem.W.Frag) : R2 := fun x y H Q => (∃ i j, x = .str i ∧ y = .str j ∧ Q (.bl (!(!(Builtin.Str.occurrences j i 0 j.length 1).isEmpty))) H) ∨ rIn K true x y H Q
theorem op_inU : OpR X (compareOp .In) (rInU X.K) := op_in_str.or op_in_seq
theorem op_notInU : OpR X (compareOp .NotIn) (rNotInU X.K) := op_notIn_str.or op_notIn_seq
theorem in_seq {K : PySem.W.Frag} {f : Bool → Bool} {neg : Bool} (hf : ∀ b, f b = if neg then !b else b) {x y : V} {H : Hp} {dx dy : D} {m : Mu} {Qd : DK} {Q : VK} (rm : RM K H m) (rx : Rep K H dx x) (ry : Rep K H dy y)
    (h : ∃ ds, seqOf m dy = some ds ∧ flatD dx = true ∧ ds.all flatD = true ∧ Qd (.bl (f (inF dx ds))) m)
    (k : ∀ v H' dv m', TX H H' → RM K H' m' → Rep K H' dv v → Qd dv m' → Q v H') : rIn K neg x y H Q := by
  obtain ⟨ds, e, fx, g, q⟩ := h
  obtain ⟨a, vs, rfl, s, r⟩ := seq_rep rm ry e
  refine ⟨a, vs, rfl, s, rx.flat fx, r.flat g, ?_⟩
  rw [RepL.inV rx fx r g, ← hf]
  exact k _ H _ m (.refl H) rm (.bl _) q
theorem lr_in {K : PySem.W.Frag} : LR K (rInU K) dIn := fun x y H dx dy m Qd Q rm rx ry h k => by
  have hf : ∀ b : Bool, (fun b : Bool => b) b = if false then !b else b := fun b => rfl
  cases ry with
  | str z =>
    cases rx with
    | str w => exact .inl ⟨w, z, rfl, rfl, k _ H _ m (.refl H) rm (.bl _) h⟩
    | _ => exact h.elim
  | ref a => exact .inr (in_seq hf rm rx (.ref a) h k)
  | tup s r => exact .inr (in_seq hf rm rx (.tup s r) h k)
  | rol s r => exact .inr (in_seq hf rm rx (.rol s r) h k)
  | dic e n r => exact .inr (in_seq hf rm rx (.dic e n r) h k)
  | dicT e n r => exact .inr (in_seq hf rm rx (.dicT e n r) h k)
  | obj e n r => exact .inr (in_seq hf rm rx (.obj e n r) h k)
  | non => exact .inr (in_seq hf rm rx .non h k)
  | bl b => exact .inr (in_seq hf rm rx (.bl b) h k)
  | int b => exact .inr (in_seq hf rm rx (.int b) h k)
theorem lr_notIn {K : PySem.W.Frag} : LR K (rNotInU K) dNotIn := fun x y H dx dy m Qd Q rm rx ry h k => by
  have hf : ∀ b : Bool, (fun b : Bool => !b) b = if true then !b else b := fun b => rfl
  cases ry with
  | str z =>
    cases rx with
    | str w => exact .inl ⟨w, z, rfl, rfl, k _ H _ m (.refl H) rm (.bl _) h⟩
    | _ => exact h.elim
  | ref a => exact .inr (in_seq hf rm rx (.ref a) h k)
  | tup s r => exact .inr (in_seq hf rm rx (.tup s r) h k)
  | rol s r => exact .inr (in_seq hf rm rx (.rol s r) h k)
  | dic e n r => exact .inr (in_seq hf rm rx (.dic e n r) h k)
  | dicT e n r => exact .inr (in_seq hf rm rx (.dicT e n r) h k)
  | obj e n r => exact .inr (in_seq hf rm rx (.obj e n r) h k)
  | non => exact .inr (in_seq hf rm rx .non h k)
  | bl b => exact .inr (in_seq hf rm rx (.bl b) h k)
  | int b => exact .inr (in_seq hf rm rx (.int b) h k)
def dIx : D2 := fun x y m Q => match x with
  | .str z => match y with
    | .int i => z.length ≤ sizeLine ∧ ∃ c, atI z.cps.toList i = some c ∧ Q (.str ⟨#[c]⟩) m
    | _ => False
  | x => match y with
    | .int i => ∃ ds, seqOf m x = some ds ∧ ∃ d, atI ds i = some d ∧ Q d m
    | _ => False
theorem RepL.atI {K : PySem.W.Frag} {H : Hp} {ds : List D} {vs : List V} {i : Int} {d : D} (r : RepL K H ds vs) (h : L2.atI ds i = some d) : ∃ v, L2.atI vs i = some v ∧ Rep K H d v := by
  unfold L2.atI at h ⊢
  rw [← r.length]
  cases e : ixN ds.length i with
  | none => rw [e] at h; cases h
  | some j => rw [e] at h; exact r.get h
theorem ge_ix {a b : Expr} {pos : Pos} {da db : DE} (ha : GE X a da) (hb : GE X b db) (hs : PlainIx b := by exact fun _ _ => rfl) : GE X (.Subscript a b pos) (dOp dIx da db) := by
  obtain ⟨ta, p, l⟩ := ha.ex
  obtain ⟨tb, q, l2⟩ := hb.ex
  refine .of ⟨_, pe_ix ix_seq p q hs, l.op l2 fun x y H dx dy m Qd Q rm rx ry h k => ?_⟩
  have go : ∀ {dx : D} {i : Int}, Rep X.K H dx x → (∃ ds, seqOf m dx = some ds ∧ ∃ d, L2.atI ds i = some d ∧ Qd d m) → rIx X.K x (.int i) H Q := fun {dx i} rx h => by
    obtain ⟨ds, e, d, e2, q⟩ := h
    obtain ⟨a, vs, rfl, s, r⟩ := seq_rep rm rx e
    obtain ⟨v, e3, ra9⟩ := r.atI e2
    rcases s with s | s
    · exact .inl ⟨a, vs, i, v, rfl, rfl, s, e3, k v H d m (.refl H) rm ra9 q⟩
    · exact .inr (.inl ⟨a, vs, i, v, rfl, rfl, s, e3, k v H d m (.refl H) rm ra9 q⟩)
  cases ry with
  | int i =>
    cases rx with
    | str z =>
      obtain ⟨hs9, c, e, q⟩ := h
      exact .inr (.inr ⟨z, i, c, rfl, rfl, hs9, e, k _ H _ m (.refl H) rm (.str _) q⟩)
    | non => exact go .non h
    | bl b => exact go (.bl b) h
    | int b => exact go (.int b) h
    | ref a => exact go (.ref a) h
    | tup s r => exact go (.tup s r) h
    | rol s r => exact go (.rol s r) h
    | dic e n r => exact go (.dic e n r) h
    | dicT e n r => exact go (.dicT e n r) h
    | obj e n r => exact go (.obj e n r) h
  | _ => cases rx <;> exact h.elim
abbrev DO := Sd → Mu → (Option Int → Mu → Prop) → Prop
structure GO (X : Cx) (e : Option Expr) (d : DO) : Prop where
  ex : ∃ t, PO X e t ∧ ∀ s H sd m (Qd : Option Int → Mu → Prop) (Q : Option Int → Hp → Prop), RS X.K H sd s → RM X.K H m → d sd m Qd → (∀ o H' m', TX H H' → RM X.K H' m' → Qd o m' → Q o H') → t s H Q
def dNoPart : DO := fun _ m Q => Q none m
def dPart (d : DE) : DO := fun s m Q => d s m fun x m1 => match x with | .int i => Q (some i) m1 | _ => False
theorem go_none : GO X none dNoPart := ⟨_, po_none, fun _ H _ m _ _ _ rm h k => k none H m (.refl H) rm h⟩
theorem go_some {e : Expr} {d : DE} (h : GE X e d) : GO X (some e) (dPart d) := by
  obtain ⟨t, p, l⟩ := h.ex
  refine ⟨_, po_some p, fun s H sd m Qd Q rs rm h k => ?_⟩
  refine l s H sd m _ _ rs rm h fun v H1 dv m1 t1 rm1 r1 h1 => ?_
  cases r1 with
  | int i => exact ⟨i, rfl, k _ H1 m1 t1 rm1 h1⟩
  | _ => exact h1.elim
def cutD {α : Type} (xs : List α) (lo hi : Option Int) : List α := (xs.drop (HT.sIx xs.length 0 lo)).take (HT.sIx xs.length xs.length hi - HT.sIx xs.length 0 lo)
theorem RepL.cut {K : PySem.W.Frag} {H : Hp} {ds : List D} {vs : List V} (r : RepL K H ds vs) (lo hi : Option Int) : RepL K H (cutD ds lo hi) (cutV vs lo hi) := by
  unfold cutD cutV
  rw [r.length]
  exact (r.drop _).take _
end
end PD
namespace PySem
open Sem (wp)
open AutoSeq1 (wpAny_loadPart')
theorem pd_meets_enumT (l : Addr) (gs9 : Array Value) (n : Nat) (dc9 : Option Addr) (sl : Array (Option Value)) :
    Meets (Builtin.«enumerate.__new__» ⟨[.type "enumerate", .ref l], []⟩) (fun _ R s => s.heap.get? l = some { cls := .type "tuple", dict := dc9, data := .seq gs9 n, slots := sl } ∧
      R (.ok (.ret (.ref (s.heap.push { cls := .type "tuple_iterator", data := .fields #[.ref l, .int 0 0] }).objs.size)))
        { s with heap := (s.heap.push { cls := .type "tuple_iterator", data := .fields #[.ref l, .int 0 0] }).push { cls := .type "enumerate", data := .fields #[.none, .bool false, .ref s.heap.objs.size, rawInt 0, .none, .none] } }) :=
  .of_wp fun pg9 w A R s h => by
    obtain ⟨hp, g, d, tk9, os9⟩ := s; obtain ⟨ha9, h⟩ := h
    have hsub := sub_enumerate
    have hL : Heap.IsTuple (Shared.heap ⟨hp, g, d, tk9, os9⟩) l gs9 := ⟨_, ha9, rfl, n, rfl⟩
    wp_walk using wpAny_loadPart' ha9
    refine wpAny_stack_any fun st => wpAny_pure ?_
    split
    · rename_i c _ _ _ _ _
      cases (c == Value.type "enumerate")
      · wp_walk using wpAny_loadPart' ha9, wpAny_pyIter_tuple hL
        exact ⟨_, rfl, h⟩
      · wp_walk using wpAny_loadPart' ha9, wpAny_pyIter_tuple hL
        exact ⟨_, rfl, h⟩
    · wp_walk using wpAny_loadPart' ha9, wpAny_pyIter_tuple hL
      exact ⟨_, rfl, h⟩
section
variable {pg9 : Program} {w : World} {A : Around} {E : Value → Shared → Prop} {s : Shared}
theorem pd_call_enumT {l : Addr} {gs9 : Array Value} {Q : Value → Shared → Prop} (hL : s.heap.IsTuple l gs9)
    (h : ∀ h', IsEnum h' (s.heap.objs.size + 1) s.heap.objs.size 0 .none → h'.IsTupleIter s.heap.objs.size l 0 → h'.objs.size = s.heap.objs.size + 2 →
      (∀ b o, s.heap.get? b = some o → h'.get? b = some o) → Q (.ref (s.heap.objs.size + 1)) { s with heap := h' }) :
    wpAny (model pg9 w) A (call (.type "enumerate") [.ref l]) Q E s := by
  obtain ⟨⟨c, dc9, dt9, sl⟩, ha9, ca9, n, da9⟩ := hL
  replace ca9 : c = .type "tuple" := ca9
  replace da9 : dt9 = .seq gs9 n := da9
  subst ca9 da9
  refine callType_new F.called_enumerate (by decide) (F.typeCall_enumerate_1 _) (F.newCall_enumerate_1 _) (fun obj => F.args_object_init_2 obj _) F.entry_enumerate_new
    (pd_meets_enumT l gs9 n dc9 sl) ⟨ha9, ?_⟩
  have hs9 : (s.heap.push { cls := .type "tuple_iterator", data := .fields #[.ref l, .int 0 0] }).objs.size = s.heap.objs.size + 1 := Heap.size_push ..
  show _ ∧ _
  rw [hs9]
  have ea9 : IsEnum ((s.heap.push { cls := .type "tuple_iterator", data := .fields #[.ref l, .int 0 0] }).push
      { cls := .type "enumerate", data := .fields #[.none, .bool false, .ref s.heap.objs.size, rawInt 0, .none, .none] }) (s.heap.objs.size + 1) s.heap.objs.size 0 .none := by
    have := Heap.get?_push_size (s.heap.push { cls := .type "tuple_iterator", data := .fields #[.ref l, .int 0 0] })
      (o := { cls := .type "enumerate", data := .fields #[.none, .bool false, .ref s.heap.objs.size, rawInt 0, .none, .none] }) rfl
    rw [hs9] at this; exact this
  refine ⟨⟨_, ea9, rfl⟩, h _ ea9 ⟨_, Heap.get?_push_of_some _ (Heap.get?_push_size _ rfl), rfl, rfl⟩ (by rw [Heap.size_push, hs9]) fun b o x => Heap.get?_push_of_some _ (Heap.get?_push_of_some _ x)⟩
end
end PySem
namespace PD
open PySem PySem.Spec PyProof.Rows L2
def Itet (K : PySem.W.Frag) (a : Addr) : It :=
  ⟨fun i H => ∃ (xs : List V) (x : V), SqT K H a xs ∧ xs[i]? = some x, fun i H v H' => ∃ T x, v = .ref T ∧ H T = none ∧ H' = upd H T (.tup [.int (i : Nat), x]) ∧ ∀ xs, SqT K H a xs → xs[i]? = some x, fun i H => ∃ xs : List V, SqT K H a xs ∧ xs.length ≤ i⟩
theorem turn_enumT {P : Program} {w : World} {K : PySem.W.Frag} {elts : List Expr} {kk : Nat} {tpos : Pos} (a e jt9 : Addr) :
    Turn P w K (.Tuple elts kk tpos) (Itet K a) [e, jt9] e (fun i h => (∃ ol9, IsEnum h e jt9 ((i : Nat) : Int) ol9) ∧ h.IsTupleIter jt9 a i ∧ e ≠ jt9) where
  mem := by simp
  obj := fun i h st b hb => by
    obtain ⟨⟨ol9, ea9⟩, ⟨o, oa9, ca9, da9⟩, _⟩ := st
    have ee9 : b = e ∨ b = jt9 := by simpa using hb
    rcases ee9 with z | z
    · rw [z]; exact ⟨_, ea9, fun v q => nomatch q⟩
    · rw [z]; exact ⟨o, oa9, fun v q => by rw [da9] at q; cases q⟩
  keep := fun i h h' st k => let ⟨⟨ol9, ea9⟩, hi, na9⟩ := st; ⟨⟨ol9, k e (by simp) _ ea9⟩, hi.at fun o q => k jt9 (by simp) o q, na9⟩
  item := by
    intro X hP hw hK ca9 i pz s τ H E I fa9 st hg
    subst hP hw hK
    obtain ⟨⟨ol9, ea9⟩, ia9, na9⟩ := st
    obtain ⟨xs, x, hq, hx⟩ := hg
    obtain ⟨xs9, ra9, pp9, hs9⟩ := I.tuple hq
    obtain ⟨u, hu, ru⟩ := ra9.get hx
    have ka9 : e < s.heap.objs.size := Heap.lt_size ea9
    have la9 : jt9 < s.heap.objs.size := by obtain ⟨_, q, _⟩ := ia9; exact Heap.lt_size q
    have hta : a ≠ jt9 := fun z => by
      obtain ⟨o1, q1, c1, _⟩ := ia9
      obtain ⟨o2, q2, c2, _⟩ := id pp9
      rw [z, q1] at q2; cases q2
      rw [c1] at c2; exact absurd c2 (by decide)
    have hte : e ≠ a := fun z => by
      obtain ⟨o2, q2, c2, _⟩ := id pp9
      have he' : s.heap.get? e = some _ := ea9
      rw [z, q2] at he'; cases he'
      have c3 : Value.type "enumerate" = Value.type "tuple" := c2
      exact absurd c3 (by decide)
    have hd1 : X.A.in1.handled = none := I.ok.hd ca9
    have Dr := Draws.tuple (prog := X.prog) (w := X.w) (A := X.A.in1) hd1 jt9 a hta xs9.toArray
    refine wpAny_pyNext_enum_itemD Dr ea9 ⟨ia9, pp9⟩ (by have := (List.getElem?_eq_some_iff.mp hu).1; simpa using this) na9 (fun z => by
      have ee9 : e = jt9 ∨ e = a := by simpa using z
      rcases ee9 with q | q
      · exact na9 q
      · exact hte q) fun y h' tk9 hy oa9 st' hT za9 ga9 => ?_
    have hyu : y = u := by
      have hy' : xs9.toArray[i]? = some y := hy
      have hu' : xs9.toArray[i]? = some u := by simpa using hu
      rw [hu'] at hy'; cases hy'; rfl
    subst hyu
    obtain ⟨hit', hta'⟩ := st'
    refine ⟨_, rfl, wpAny_letOwnedTupleGo_enum (s := { s with heap := h', toks := tk9 + 1 }) oa9 fun h'' he' sb => ?_⟩
    have hT2 : h''.get? s.heap.objs.size = some { cls := .type "tuple", data := .seq #[.int i tk9, y] } := (sb.2 _ (Nat.ne_of_gt ka9)).trans hT
    have nw9 : ObjOk X.prog X.w (upd H s.heap.objs.size (.tup [.int (i : Nat), x])) h'' s.heap.objs.size (.tup [.int (i : Nat), x]) :=
      ⟨by show 2 ≤ sizeLine; decide, [.int i tk9, y], .cons ⟨_, rfl⟩ (.cons ru .nil), ⟨_, hT2, rfl, _, rfl⟩⟩
    have iA : Inv X pz τ (upd H s.heap.objs.size (.tup [.int (i : Nat), x])) { s with heap := h'', toks := tk9 + 1 } :=
      I.turnedNew (ch := [e, jt9]) (fun b ob hb q => (sb.2 b (fun z => hb (by simp [z]))).trans (ga9 b ob (fun z => hb (by simp [z])) (fun z => hb (by simp [z])) q)) fa9 (Nat.le_refl _) nw9
    refine ⟨.ref s.heap.objs.size, _, iA, rfl, ⟨_, x, rfl, I.hok.fresh (Nat.le_refl _), rfl, fun ys hy => by rw [I.tuple_inj hy hq]; exact hx⟩, ⟨⟨y, ?_⟩, hit'.at fun o q => (sb.2 jt9 (Ne.symm na9)).trans q, na9⟩, fun b hb => ?_⟩
    · have e1 : ((i + 1 : Nat) : Int) = (i : Int) + 1 := by omega
      rw [e1]; exact he'
    · have bb9 : b < s.heap.objs.size := by
        have ee9 : b = e ∨ b = jt9 := by simpa using hb
        rcases ee9 with z | z
        · rw [z]; exact ka9
        · rw [z]; exact la9
      rw [upd_ne (Nat.ne_of_lt bb9)]
      exact (fa9 b hb).1
  done := by
    intro X hP hw hK ca9 i pz s τ H E I fa9 st hg
    subst hP hw hK
    obtain ⟨⟨ol9, ea9⟩, ia9, na9⟩ := st
    obtain ⟨xs, hq, hx⟩ := hg
    obtain ⟨xs9, ra9, pp9, hs9⟩ := I.tuple hq
    obtain ⟨f0, f1, f2, f3, f4, f5⟩ := fa9 jt9 (by simp)
    have ha9 := ra9.length
    have hta : a ≠ jt9 := fun z => by
      obtain ⟨o1, q1, c1, _⟩ := ia9
      obtain ⟨o2, q2, c2, _⟩ := id pp9
      rw [z, q1] at q2; cases q2
      rw [c1] at c2; exact absurd c2 (by decide)
    have hd1 : X.A.in1.handled = none := I.ok.hd ca9
    unfold pyNext
    refine wpAny_bind (wpAny_attempt (wpAny_callSpecial?_slot (name := Str.ofString "__next__") ⟨_, ea9, rfl⟩ F.slot_enumerate_next
      (wpAny_call_entry F.slot_enumerate_next ⟨_, ea9, rfl⟩ F.entry_enumerate_next ?_ (F.args_enumerate_next_1 _))))
    show wpAny _ _ (field (.ref e) 2 >>= _) _ _ _
    refine wpAny_bind (wpAny_field ea9 rfl (x := .ref jt9) rfl ?_)
    refine wpAny_bind (wpAny_nextOf_tuple_end hd1 ia9 pp9 (by simp; omega) fun h' x he' hx' => ?_)
    obtain ⟨o, oa9, ca9⟩ := hx'
    refine wpAny_bind (wpAny_isInstance (T := "StopIteration") (b := true) ⟨o, oa9, ca9⟩ isSubtype_stop ?_)
    exact wpAny_pure ⟨rfl, I.turned (t' := s.toks) (fun b o hb q => he' b o hb q) f0 f1 f3 f4 f5⟩
  self := fun A i s Q E st h => let ⟨⟨_, ea9⟩, _⟩ := st; wpAny_pyIter_enum ea9 h
def iEnumT (K : PySem.W.Frag) (ta : TA) : TI := fun τ H R => ta τ H fun vs H1 => ∃ a, vs = [.ref a] ∧ ((∃ xs, SqL K H1 a xs ∧ R (Ite K a) H1) ∨ (∃ xs, SqT K H1 a xs ∧ R (Itet K a) H1))
theorem pi_enumT {X : Cx} {e : Expr} {ta : TA} {pp9 pos tpos : Pos} {elts : List Expr} {kk : Nat} (hg : Gl X "enumerate") (hm : X.mg "enumerate" = none) (ha : PA X [e] ta) (hs : starEach [e] X.env = [(false, eval e X.env)] := by rfl) :
    PI X (.Tuple elts kk tpos) (.Call (.Name "enumerate" pp9) [e] [] pos) (iEnumT X.K ta) := by
  refine ⟨fun pz s τ H R I h => ?_⟩
  refine Call_ (ld_blt I hg hm boot_enumerate (PyProof.Rows.callWith_type1 (thn (ha.run pos pz s τ H _ I h) fun us tA ⟨vs, H1, iA, r1, q1⟩ => ?_) hs rfl))
  obtain ⟨a, ex, q⟩ := q1
  subst ex
  cases r1 with
  | cons r rr =>
    cases rr
    cases r
    have fin : ∀ b ∈ [tA.heap.objs.size + 1, tA.heap.objs.size], FpOk X pz H1 b := fun b hb => by
      have ee9 : b = tA.heap.objs.size + 1 ∨ b = tA.heap.objs.size := by simpa using hb
      have le9 : tA.heap.objs.size ≤ b := by
        rcases ee9 with z | z
        · rw [z]; exact Nat.le_add_right _ _
        · rw [z]; exact Nat.le_refl _
      exact iA.fpOk le9 (iA.hok.fresh le9)
    rcases q with ⟨xs, hq, q⟩ | ⟨xs, hq, q⟩
    · obtain ⟨xs9, ra9, p', hs9⟩ := iA.list hq
      refine call_enumerate_list p'.isList fun h' ea9 ia9 za9 ga9 => wpAny_pyIter_enum ea9 ?_
      have iB : Inv X pz τ H1 { tA with heap := h' } := iA.kept (t' := tA.toks) ga9
      exact ⟨tA.heap.objs.size + 1, [tA.heap.objs.size + 1, tA.heap.objs.size], _, _, H1, rfl, iB, turn_enum a (tA.heap.objs.size + 1) tA.heap.objs.size, ⟨⟨.none, ea9⟩, ia9, Nat.succ_ne_self _⟩, fin, q⟩
    · obtain ⟨xs9, ra9, p', hs9⟩ := iA.tuple hq
      refine pd_call_enumT (show tA.heap.IsTuple a xs9.toArray from p') fun h' ea9 ia9 za9 ga9 => wpAny_pyIter_enum ea9 ?_
      have iB : Inv X pz τ H1 { tA with heap := h' } := iA.kept (t' := tA.toks) ga9
      exact ⟨tA.heap.objs.size + 1, [tA.heap.objs.size + 1, tA.heap.objs.size], _, _, H1, rfl, iB, turn_enumT a (tA.heap.objs.size + 1) tA.heap.objs.size, ⟨⟨.none, ea9⟩, ia9, Nat.succ_ne_self _⟩, fin, q⟩
def iSeq (K : PySem.W.Frag) (tl : TE) : TI := fun τ H R => tl τ H fun x H1 => ∃ a, x = .ref a ∧ ((∃ xs, SqL K H1 a xs ∧ R (Itl K a) H1) ∨ (∃ xs, SqT K H1 a xs ∧ R (Itt K a) H1))
theorem pi_seq {X : Cx} {tg l : Expr} {tl : TE} (ha9 : PE X l tl) : PI X tg l (iSeq X.K tl) := by
  refine ⟨fun pz s τ H R I h => ?_⟩
  refine thn (ha9.run pz s τ H _ I h) fun v tA ⟨x, H1, iA, r1, q1⟩ => ?_
  obtain ⟨a, e, q⟩ := q1
  subst e
  cases r1
  rcases q with ⟨xs, hq, q⟩ | ⟨xs, hq, q⟩
  · obtain ⟨xs9, ra9, pp9, hs9⟩ := iA.list hq
    refine wpAny_pyIter_list pp9.isList ?_
    refine ⟨tA.heap.objs.size, [tA.heap.objs.size], _, _, H1, rfl, iA.kept (t' := tA.toks) fun b o e => Heap.get?_push_of_some _ e, turn_list a _, ⟨_, Heap.get?_push_size _ rfl, rfl, rfl⟩, fun b hb => ?_, q⟩
    have e : b = tA.heap.objs.size := by simpa using hb
    subst e
    exact iA.fpOk (Nat.le_refl _) (iA.hok.fresh (Nat.le_refl _))
  · obtain ⟨xs9, ra9, pp9, hs9⟩ := iA.tuple hq
    refine wpAny_pyIter_tuple (show tA.heap.IsTuple a xs9.toArray from pp9) ?_
    refine ⟨tA.heap.objs.size, [tA.heap.objs.size], _, _, H1, rfl, iA.kept (t' := tA.toks) fun b o e => Heap.get?_push_of_some _ e, turn_tuple a _, ⟨_, Heap.get?_push_size _ rfl, rfl, rfl⟩, fun b hb => ?_, q⟩
    have e : b = tA.heap.objs.size := by simpa using hb
    subst e
    exact iA.fpOk (Nat.le_refl _) (iA.hok.fresh (Nat.le_refl _))
end PD
namespace PD
open PySem PySem.Spec PyProof.Rows L2
section
variable {X : Cx}
def dTup (a : DA) : DE := fun s m Q => a s m fun ds m1 => ds.length ≤ sizeLine ∧ Q (.tup ds) m1
def dLst (a : DA) : DE := fun s m Q => a s m fun ds m1 => ds.length ≤ sizeLine ∧ ∀ p, m1 p = none → Q (.ref p) (mset m1 p (.lst ds))
theorem ge_tup {es : List Expr} {pos : Pos} {x1} {da : DA} (h : GA X es da) : GE X (.Tuple es x1 pos) (dTup da) := by
  obtain ⟨ta, p, l⟩ := h.ex
  refine .of ⟨_, pe_tup p, fun s H sd m Qd Q rs rm h k => ?_⟩
  refine l s H sd m _ _ rs rm h fun vs H1 ds m1 t1 rm1 r1 h1 => ?_
  exact ⟨by rw [← r1.length]; exact h1.1, fun p hp => k _ _ _ m1 (t1.trans (.new hp)) (rm1.skip hp) (.tup upd_same (r1.mono (.new hp))) h1.2⟩
theorem ge_lst {es : List Expr} {pos : Pos} {da : DA} (h : GA X es da) : GE X (.List es pos) (dLst da) := by
  obtain ⟨ta, p, l⟩ := h.ex
  refine .of ⟨_, pe_lst p, fun s H sd m Qd Q rs rm h k => ?_⟩
  refine l s H sd m _ _ rs rm h fun vs H1 ds m1 t1 rm1 r1 h1 => ?_
  exact ⟨by rw [← r1.length]; exact h1.1, fun p hp => k _ _ _ _ (t1.trans (.new hp)) (rm1.newL hp r1) (.ref p) (h1.2 p (rm1.fresh hp))⟩
abbrev DC := List D → Mu → DK → Prop
def LC (K : PySem.W.Frag) (r : List V → Hp → VK → Prop) (d : DC) : Prop := ∀ vs H ds m (Qd : DK) (Q : VK), RM K H m → RepL K H ds vs → d ds m Qd →
  (∀ v H' dv m', TX H H' → RM K H' m' → Rep K H' dv v → Qd dv m' → Q v H') → r vs H Q
def dCB (d : DC) (a : DA) : DE := fun s m Q => a s m fun ds m1 => d ds m1 Q
theorem ge_callB {id : String} {x : Str} {p pos : Pos} {e : Expr} {es : List Expr} {r : List V → Hp → VK → Prop} {d : DC} {da : DA} (ca9 : CallR X (.builtin id) r) (lc : LC X.K r d) (hg : Gl X x) (ma9 : X.mg x = none) (hv : bootBuiltins x = some (.builtin id)) (ha : GA X (e :: es) da)
    (hn : x ≠ "__name__" := by decide) (hdb : (x == ("__debug__" : Str)) = false := by decide) (he : starEach (e :: es) X.env = (false, eval e X.env) :: starEach es X.env := by rfl) (hpl : (backTo pos (starEach es X.env)).any (·.1) = false := by rfl) :
    GE X (.Call (.Name x p) (e :: es) [] pos) (dCB d da) := by
  obtain ⟨ta, q, l⟩ := ha.ex
  refine .of ⟨_, pe_callB ca9 hg ma9 hv q hn hdb he hpl, fun s H sd m Qd Q rs rm h k => ?_⟩
  refine l s H sd m _ _ rs rm h fun vs H1 ds m1 t1 rm1 r1 h1 => ?_
  exact lc vs H1 ds m1 Qd Q rm1 r1 h1 fun v' H' dv' m' t' a b c => k v' H' dv' m' (t1.trans t') a b c
theorem ge_callTy {T : String} {x : Str} {p pos : Pos} {e : Expr} {es : List Expr} {r : List V → Hp → VK → Prop} {d : DC} {da : DA} (ca9 : CallR X (.type T) r) (lc : LC X.K r d) (hg : Gl X x) (ma9 : X.mg x = none) (hv : bootBuiltins x = some (.type T)) (ha : GA X (e :: es) da)
    (hn : x ≠ "__name__" := by decide) (hdb : (x == ("__debug__" : Str)) = false := by decide) (he : starEach (e :: es) X.env = (false, eval e X.env) :: starEach es X.env := by rfl) (hpl : (backTo pos (starEach es X.env)).any (·.1) = false := by rfl) :
    GE X (.Call (.Name x p) (e :: es) [] pos) (dCB d da) := by
  obtain ⟨ta, q, l⟩ := ha.ex
  refine .of ⟨_, pe_callTy ca9 hg ma9 hv q hn hdb he hpl, fun s H sd m Qd Q rs rm h k => ?_⟩
  refine l s H sd m _ _ rs rm h fun vs H1 ds m1 t1 rm1 r1 h1 => ?_
  exact lc vs H1 ds m1 Qd Q rm1 r1 h1 fun v' H' dv' m' t' a b c => k v' H' dv' m' (t1.trans t') a b c
theorem repL1 {K : PySem.W.Frag} {H : Hp} {d : D} {vs : List V} (r : RepL K H [d] vs) : ∃ v, vs = [v] ∧ Rep K H d v := by
  cases r with
  | cons a b => cases b; exact ⟨_, rfl, a⟩
theorem repL2 {K : PySem.W.Frag} {H : Hp} {d e : D} {vs : List V} (r : RepL K H [d, e] vs) : ∃ v u, vs = [v, u] ∧ Rep K H d v ∧ Rep K H e u := by
  cases r with
  | cons a b =>
    obtain ⟨u, rfl, q⟩ := repL1 b
    exact ⟨_, _, rfl, a, q⟩
def dLen : DC := fun ds m Q => match ds with
  | [.str z] => z.length ≤ sizeLine ∧ Q (.int z.length) m
  | [d] => ∃ es, seqOf m d = some es ∧ Q (.int es.length) m
  | _ => False
theorem call_lenU : CallR X (.builtin "len") (fun xs H Q => (∃ p ys, xs = [.ref p] ∧ (SqL X.K H p ys ∨ SqT X.K H p ys) ∧ Q (.int ys.length) H) ∨ ∃ z, xs = [.str z] ∧ z.length ≤ sizeLine ∧ Q (.int z.length) H) := call_len_seq.or call_len_str
theorem lc_len {K : PySem.W.Frag} : LC K (fun xs H Q => (∃ p ys, xs = [.ref p] ∧ (SqL K H p ys ∨ SqT K H p ys) ∧ Q (.int ys.length) H) ∨ ∃ z, xs = [.str z] ∧ z.length ≤ sizeLine ∧ Q (.int z.length) H) dLen := fun vs H ds m Qd Q rm r h k => by
  have go : ∀ {d : D}, RepL K H [d] vs → (∃ es, seqOf m d = some es ∧ Qd (.int es.length) m) → ∃ p ys, vs = [.ref p] ∧ (SqL K H p ys ∨ SqT K H p ys) ∧ Q (.int ys.length) H := fun {d} r h => by
    obtain ⟨es, e, q⟩ := h
    obtain ⟨v, rfl, ra9⟩ := repL1 r
    obtain ⟨a, ws, rfl, s, r2⟩ := seq_rep rm ra9 e
    exact ⟨a, ws, rfl, s, k _ H _ m (.refl H) rm (by rw [← r2.length]; exact .int _) q⟩
  match ds, r, h with
  | [.str z], r, h =>
    obtain ⟨v, rfl, ra9⟩ := repL1 r
    cases ra9
    exact .inr ⟨z, rfl, h.1, k _ H _ m (.refl H) rm (.int _) h.2⟩
  | [.non], r, h => exact .inl (go r h)
  | [.bl _], r, h => exact .inl (go r h)
  | [.int _], r, h => exact .inl (go r h)
  | [.ref _], r, h => exact .inl (go r h)
  | [.tup _], r, h => exact .inl (go r h)
  | [.rol _], r, h => exact .inl (go r h)
  | [.dic _ _], r, h => exact .inl (go r h)
  | [.dicT _ _], r, h => exact .inl (go r h)
  | [.obj _ _ _], r, h => exact .inl (go r h)
def dTuple : DC := fun ds m Q => match ds with
  | [d] => ∃ es, seqOf m d = some es ∧ Q (.tup es) m
  | _ => False
theorem lc_tuple {K : PySem.W.Frag} : LC K (fun xs H Q => ∃ p ys, xs = [.ref p] ∧ ((SqL K H p ys ∧ ∀ l, H l = none → Q (.ref l) (upd H l (.tup ys))) ∨ (SqT K H p ys ∧ Q (.ref p) H))) dTuple := fun vs H ds m Qd Q rm r h k => by
  match ds, r, h with
  | [d], r, h =>
    obtain ⟨es, e, q⟩ := h
    obtain ⟨v, rfl, ra9⟩ := repL1 r
    cases ra9 with
    | tup s r2 => cases e; exact ⟨_, _, rfl, .inr ⟨s.sq, k _ H _ m (.refl H) rm (.tup s r2) q⟩⟩
    | rol s r2 => cases e; exact ⟨_, _, rfl, .inl ⟨s.sq, fun l hl => k _ _ _ m (.new hl) (rm.skip hl) (.tup upd_same (r2.mono (.new hl))) q⟩⟩
    | ref a =>
      obtain ⟨ws, sl, r2⟩ := ref_rep rm e
      exact ⟨a, ws, rfl, .inl ⟨sl, fun l hl => k _ _ _ m (.new hl) (rm.skip hl) (.tup upd_same (r2.mono (.new hl))) q⟩⟩
    | _ => cases e
def dList : DC := fun ds m Q => match ds with
  | [d] => ∃ es, seqOf m d = some es ∧ ∀ p, m p = none → Q (.ref p) (mset m p (.lst es))
  | _ => False
theorem lc_list {K : PySem.W.Frag} : LC K (fun xs H Q => ∃ p ys, xs = [.ref p] ∧ (SqL K H p ys ∨ SqT K H p ys) ∧ ∀ l, H l = none → Q (.ref l) (upd H l (.lst ys))) dList := fun vs H ds m Qd Q rm r h k => by
  match ds, r, h with
  | [d], r, h =>
    obtain ⟨es, e, q⟩ := h
    obtain ⟨v, rfl, ra9⟩ := repL1 r
    obtain ⟨a, ws, rfl, s, r2⟩ := seq_rep rm ra9 e
    exact ⟨a, ws, rfl, s, fun l hl => k _ _ _ _ (.new hl) (rm.newL hl r2) (.ref l) (q l (rm.fresh hl))⟩
def dInt1 : DC := fun ds m Q => match ds with
  | [.int i] => Q (.int i) m
  | [.bl b] => Q (.int (if b then 1 else 0)) m
  | _ => False
theorem lc_int {K : PySem.W.Frag} : LC K (fun xs H Q => (∃ i, xs = [.int i] ∧ Q (.int i) H) ∨ ∃ k, xs = [.bl k] ∧ Q (.int (if k then 1 else 0)) H) dInt1 := fun vs H ds m Qd Q rm r h k => by
  match ds, r, h with
  | [.int i], r, h => obtain ⟨v, rfl, ra9⟩ := repL1 r; cases ra9; exact .inl ⟨i, rfl, k _ H _ m (.refl H) rm (.int _) h⟩
  | [.bl i], r, h => obtain ⟨v, rfl, ra9⟩ := repL1 r; cases ra9; exact .inr ⟨i, rfl, k _ H _ m (.refl H) rm (.int _) h⟩
def tyD (m : Mu) : D → Option String
  | .non => some "NoneType"
  | .bl _ => some "bool"
  | .int _ => some "int"
  | .str _ => some "str"
  | .tup _ => some "tuple"
  | .rol _ => some "list"
  | .dic _ _ => none
  | .dicT _ _ => none
  | .obj _ _ _ => none
  | .ref a => match m a with | some (.lst _) => some "list" | _ => none
def isT (a T : String) : Bool := a == T || (a == "bool" && T == "int")
def knownT (T : String) : Bool := T == "bool" || T == "int" || T == "str" || T == "tuple" || T == "list"
theorem kitB_known : (["NoneType", "bool", "int", "str", "tuple", "list"].all fun a => ["bool", "int", "str", "tuple", "list"].all fun T => kitB a T == some (isT a T)) = true := by decide +kernel
theorem kit_known {m : Mu} {d : D} {a T : String} (h : tyD m d = some a) (hT : knownT T = true) : kitB a T = some (isT a T) := by
  have ha : a ∈ ["NoneType", "bool", "int", "str", "tuple", "list"] := by
    unfold tyD at h
    split at h
    · cases h; simp
    · cases h; simp
    · cases h; simp
    · cases h; simp
    · cases h; simp
    · cases h; simp
    · cases h
    · cases h
    · cases h
    · split at h
      · cases h; simp
      · cases h
  have hT' : T ∈ ["bool", "int", "str", "tuple", "list"] := by
    unfold knownT at hT
    simp only [Bool.or_eq_true, beq_iff_eq] at hT
    simp only [List.mem_cons, List.not_mem_nil, or_false]
    rcases hT with (((h | h) | h) | h) | h <;> simp [h]
  have z := List.all_eq_true.mp (List.all_eq_true.mp kitB_known a ha) T hT'
  exact eq_of_beq z
theorem tyx_of {K : PySem.W.Frag} {H : Hp} {m : Mu} {d : D} {v : V} {a : String} (rm : RM K H m) (r : Rep K H d v) (h : tyD m d = some a) : TyX K H v (.type a) := by
  cases r with
  | non => cases h; exact .base .non
  | bl b => cases h; exact .base (.bl b)
  | int i => cases h; exact .base (.int i)
  | str x => cases h; exact .base (.str x)
  | @tup ds p vs s q =>
    cases h
    exact .base (.tup s)
  | rol s q =>
    cases h
    rcases s with ⟨o, s⟩ | ⟨o, xs9, n, s, c, _⟩
    · exact .base (.frz s)
    · exact .kList s c
  | dic _ _ _ => cases h
  | dicT _ _ _ => cases h
  | obj _ _ _ => cases h
  | ref p =>
    unfold tyD at h
    cases e : m p with
    | none => simp only [e] at h; cases h
    | some o =>
      have q := rm p o e
      cases o with
      | lst es => simp only [e] at h; cases h; obtain ⟨vs, e2, _⟩ := q; exact .base (.lst e2)
      | _ => simp only [e] at h; cases h
def dIsi (T : String) (de : DE) : DE := fun s m Q => de s m fun x m1 => ∃ a, tyD m1 x = some a ∧ Q (.bl (isT a T)) m1
theorem ge_isi {T : String} {p q pos : Pos} {e : Expr} {y : Str} {de : DE} (hT : knownT T = true) (hg : Gl X "isinstance") (ma9 : X.mg "isinstance" = none) (he : GE X e de) (hgy : Gl X y) (hmy : X.mg y = none) (hvy : bootBuiltins y = some (.type T))
    (hny : y ≠ "__name__" := by decide) (hdy : (y == ("__debug__" : Str)) = false := by decide)
    (hs1 : starEach [e, .Name y q] X.env = (false, eval e X.env) :: starEach [.Name y q] X.env := by rfl) (hs2 : starEach [.Name y q] X.env = (false, eval (.Name y q) X.env) :: starEach [] X.env := by rfl)
    (hpl : (backTo pos (starEach [.Name y q] X.env)).any (·.1) = false := by rfl) (hv : bootBuiltins "isinstance" = some (.builtin "isinstance") := by decide +kernel) :
    GE X (.Call (.Name "isinstance" p) [e, .Name y q] [] pos) (dIsi T de) := by
  obtain ⟨te, pt, l⟩ := he.ex
  refine .of ⟨_, pe_callB call_isi hg ma9 hv (pa_cons pt (pa_cons (pe_bltn (v := .ty T) hgy hmy hvy rfl hny hdy) pa_nil hs2) hs1) (by decide) (by decide) hs1 hpl, fun s H sd m Qd Q rs rm h k => ?_⟩
  refine l s H sd m _ _ rs rm h fun v H1 dv m1 t1 rm1 r1 h1 => ?_
  obtain ⟨a, e1, h2⟩ := h1
  exact ⟨v, .ty T, .type a, .type T, isT a T, rfl, .ty T, tyx_of rm1 r1 e1, kit_ty (kit_known e1 hT), k _ H1 _ m1 t1 rm1 (.bl _) h2⟩
end
end PD
namespace PD
open PySem PySem.Spec PyProof.Rows L2
section
variable {X : Cx}
abbrev DM := D → List D → Mu → DK → Prop
def LM (K : PySem.W.Frag) (r : V → List V → Hp → VK → Prop) (d : DM) : Prop := ∀ x vs H dx ds m (Qd : DK) (Q : VK), RM K H m → Rep K H dx x → RepL K H ds vs → d dx ds m Qd →
  (∀ v H' dv m', TX H H' → RM K H' m' → Rep K H' dv v → Qd dv m' → Q v H') → r x vs H Q
def dBM0 (d : DM) (a : DE) : DE := fun s m Q => a s m fun x m1 => (∃ a ds, lstOf m1 x = some (a, ds)) ∧ d x [] m1 Q
def dBM (d : DM) (a : DE) (b : DA) : DE := fun s m Q => a s m fun x m1 => (∃ a ds, lstOf m1 x = some (a, ds)) ∧ b s m1 fun ds m2 => d x ds m2 Q
theorem ty_lst {K : PySem.W.Frag} {H : Hp} {m : Mu} {d : D} {v : V} (rm : RM K H m) (r : Rep K H d v) (h : ∃ a ds, lstOf m d = some (a, ds)) : tyV K "list" v H := by
  obtain ⟨a, ds, e⟩ := h
  obtain ⟨rfl, _, _, vs, e2, _⟩ := lst_rep rm r e
  exact .inl ⟨rfl, _, SqL.of e2⟩
theorem ge_bm0 {o : Expr} {name : Str} {id : String} {apos cpos : Pos} {r : V → List V → Hp → VK → Prop} {d : DM} {da : DE} (slot : Slot "list" name id) (hty : typeOf (.builtin id) = pure (.type "method_descriptor")) (hm : MtR X id r) (lm : LM X.K r d) (ho : GE X o da)
    (base9 : attributeBase o name X.env (eval o X.env) = eval o X.env := by rfl) (line9 : (apos.endLine == cpos.line) = true := by rfl) : GE X (.Call (.Attribute o name apos) [] [] cpos) (dBM0 d da) := by
  obtain ⟨ta, p, l⟩ := ho.ex
  refine .of ⟨_, pe_bm0 PySem.F.plainAttrs_list slot hty hm p base9 line9, fun s H sd m Qd Q rs rm h k => ?_⟩
  refine l s H sd m _ _ rs rm h fun v H1 dv m1 t1 rm1 r1 h1 => ?_
  exact ⟨ty_lst rm1 r1 h1.1, lm v [] H1 dv [] m1 Qd Q rm1 r1 .nil h1.2 fun v' H' dv' m' t' a b c => k v' H' dv' m' (t1.trans t') a b c⟩
theorem ge_bm {o e : Expr} {es : List Expr} {name : Str} {id : String} {apos cpos : Pos} {r : V → List V → Hp → VK → Prop} {d : DM} {da : DE} {db : DA} (slot : Slot "list" name id) (hty : typeOf (.builtin id) = pure (.type "method_descriptor")) (hm : MtR X id r) (lm : LM X.K r d) (ho : GE X o da) (ha : GA X (e :: es) db)
    (base9 : attributeBase o name X.env (eval o X.env) = eval o X.env := by rfl)
    (few9 : ((backTo cpos (starEach (e :: es) X.env)).all (fun x => !x.1) && (backToKw cpos (keywordEach [] X.env)).all (fun x => x.1.isSome)
      && decide ((e :: es).length + ([] : List Keyword).length + (if ([] : List Keyword).isEmpty then 0 else 1) < 30)) = true := by rfl)
    (line9 : (apos.endLine == cpos.line) = true := by rfl) (hs : starEach (e :: es) X.env = (false, eval e X.env) :: starEach es X.env := by rfl) (plain9 : (backTo cpos (starEach es X.env)).any (·.1) = false := by rfl) :
    GE X (.Call (.Attribute o name apos) (e :: es) [] cpos) (dBM d da db) := by
  obtain ⟨ta, p, l⟩ := ho.ex
  obtain ⟨tb, q, l2⟩ := ha.ex
  refine .of ⟨_, pe_bm PySem.F.plainAttrs_list slot hty hm p q base9 few9 line9 hs plain9, fun s H sd m Qd Q rs rm h k => ?_⟩
  refine l s H sd m _ _ rs rm h fun v H1 dv m1 t1 rm1 r1 h1 => ?_
  refine ⟨ty_lst rm1 r1 h1.1, l2 s H1 sd m1 _ _ (rs.mono t1) rm1 h1.2 fun vs H2 ds m2 t2 rm2 r2 h2 => ?_⟩
  exact lm v vs H2 dv ds m2 Qd Q rm2 (r1.mono t2) r2 h2 fun v' H' dv' m' t' a b c => k v' H' dv' m' (t1.trans (t2.trans t')) a b c
def dAppend : DM := fun x ds m Q => match ds with
  | [d] => ∃ a es, lstOf m x = some (a, es) ∧ es.length < sizeLine ∧ Q .non (mset m a (.lst (es ++ [d])))
  | _ => False
theorem lm_append {K : PySem.W.Frag} : LM K rAppend dAppend := fun x vs H dx ds m Qd Q rm rx r h k => by
  match ds, r, h with
  | [d], r, h =>
    obtain ⟨a, es, e, hs9, q⟩ := h
    obtain ⟨rfl, rfl, _, ws, e2, r2⟩ := lst_rep rm rx e
    obtain ⟨v, rfl, ra9⟩ := repL1 r
    exact ⟨a, ws, v, rfl, rfl, e2, by rw [← r2.length]; exact hs9, k _ _ _ _ (.lst e2) (rm.setL e2 (r2.append (.cons ra9 .nil))) .non q⟩
def seqW (m : Mu) : D → Option (List D)
  | .tup ds => some ds
  | .ref a => match m a with | some (.lst ds) => some ds | _ => none
  | _ => none
def dExtend : DM := fun x ds m Q => match ds with
  | [d] => ∃ a es zs, lstOf m x = some (a, es) ∧ seqW m d = some zs ∧ es.length + zs.length ≤ sizeLine ∧ Q .non (mset m a (.lst (es ++ zs)))
  | _ => False
def dPop : DM := fun x ds m Q => match ds with
  | [] => ∃ a es d, lstOf m x = some (a, es) ∧ es[es.length - 1]? = some d ∧ Q d (mset m a (.lst es.dropLast))
  | [.int i] => ∃ a es, lstOf m x = some (a, es) ∧ -(2 ^ 63) ≤ i ∧ i < 2 ^ 63 ∧ ∃ k, seqIndex? i es.length = some k ∧ ∃ d, es[k]? = some d ∧ Q d (mset m a (.lst (es.eraseIdx k)))
  | _ => False
theorem mt_popU : MtM X "list.pop" (fun x xs H Q => rPop x xs H Q ∨ rPopAt x xs H Q) := fun pz s τ H x xs v us Q I rx ra9 h => by
  rcases h with h | h
  · exact mt_pop pz s τ H x xs v us Q I rx ra9 h
  · exact mt_popAt pz s τ H x xs v us Q I rx ra9 h
theorem lm_pop {K : PySem.W.Frag} : LM K (fun x xs H Q => rPop x xs H Q ∨ rPopAt x xs H Q) dPop := fun x vs H dx ds m Qd Q rm rx r h k => by
  match ds, r, h with
  | [], r, h =>
    obtain ⟨a, es, d, e, e1, q⟩ := h
    obtain ⟨rfl, rfl, _, ws, e2, r2⟩ := lst_rep rm rx e
    cases r
    obtain ⟨v, e3, ra9⟩ := r2.get e1
    rw [r2.length] at e3
    exact .inl ⟨a, ws, v, rfl, rfl, e2, e3, k _ _ _ _ (.lst e2) (rm.setL e2 r2.dropLast) (ra9.mono (.lst e2)) q⟩
  | [.int i], r, h =>
    obtain ⟨a, es, e, h1, h2, j, e3, d, e4, q⟩ := h
    obtain ⟨rfl, rfl, _, ws, e2, r2⟩ := lst_rep rm rx e
    obtain ⟨v, rfl, ra9⟩ := repL1 r
    cases ra9
    obtain ⟨u, e5, ru⟩ := r2.get e4
    rw [r2.length] at e3
    exact .inr ⟨a, ws, i, j, u, rfl, rfl, e2, h1, h2, e3, e5, k _ _ _ _ (.lst e2) (rm.setL e2 (r2.erase j)) (ru.mono (.lst e2)) q⟩
abbrev SpD := List D → Mu → DK → Prop
def spL (K : PySem.W.Frag) (n : Nat) (sd : SpD) : Sp := fun vs H Q _ => ∃ ds m Qd, RepL K H ds vs ∧ RM K H m ∧ (ds.length = n ∧ sd ds m Qd) ∧ ∀ v H' dv m', TX H H' → RM K H' m' → Rep K H' dv v → Qd dv m' → Q v H'
def dCall (n : Nat) (sd : SpD) (a : DA) : DE := fun s m Q => a s m fun ds m1 => ds.length = n ∧ sd ds m1 Q
theorem ge_call {k n : Nat} {f : Addr} {fd : FuncData} {ps : List Str} {sd : SpD} {x : Str} {p pos : Pos} {e : Expr} {es : List Expr} {da : DA} (F : FnOk X.prog X.w X.K X.mg X.base CX0 k f fd ps (spL X.K n sd)) (hr : Room k X.A) (hg : Gl X x) (hm : X.mg x = some (.ref f)) (hk : PySem.W.keepIn X.K (.ref f) = true) (hb : Binds X.K fd ps [])
    (ha : GA X (e :: es) da) (hdb : (x == ("__debug__" : Str)) = false := by decide) (he : starEach (e :: es) X.env = (false, eval e X.env) :: starEach es X.env := by rfl) (hpl : (backTo pos (starEach es X.env)).any (·.1) = false := by rfl) :
    GE X (.Call (.Name x p) (e :: es) [] pos) (dCall n sd da) := by
  obtain ⟨ta, q, l⟩ := ha.ex
  refine .of ⟨_, pe_call F hr hg hm hk hb .nil pass0 q hdb he hpl, fun s H sd' m Qd Q rs rm h k => ?_⟩
  refine l s H sd' m _ _ rs rm h fun vs H1 ds m1 t1 rm1 r1 h1 => ?_
  show spL X.K n sd (vs ++ []) H1 Q E0
  rw [List.append_nil]
  exact ⟨ds, m1, Qd, r1, rm1, h1, fun v' H' dv' m' t' a b c => k v' H' dv' m' (t1.trans t') a b c⟩
def GK (X : Cx) (kws : List Keyword) (d : DA) : Prop := ∃ t, PK X kws t ∧ LA X.K t d
theorem gk_nil : GK X [] dNil := ⟨_, pk_nil, fun _ H _ m _ _ _ rm h k => k [] H [] m (.refl H) rm .nil h⟩
theorem gk_cons {nm : Option Str} {e : Expr} {kpos : Pos} {kws : List Keyword} {de : DE} {dr : DA} (ha : GE X e de) (hr : GK X kws dr) : GK X (⟨nm, e, kpos⟩ :: kws) (dCons de dr) := by
  obtain ⟨te, p, l⟩ := ha.ex
  obtain ⟨tr, q, l2⟩ := hr
  refine ⟨_, pk_cons p q, fun s H sd m Qd Q rs rm h k => ?_⟩
  refine l s H sd m _ _ rs rm h fun v H1 dv m1 t1 rm1 r1 h1 => ?_
  exact l2 s H1 sd m1 _ _ (rs.mono t1) rm1 h1 fun vs H2 ds m2 t2 rm2 r2 h2 => k _ H2 _ m2 (t1.trans t2) rm2 (.cons (r1.mono t2) r2) h2
/-- keywords ks alone bind to the parameters ps in their order -/
def gK (n : Nat) (us ws : List Value) : List Value := if us.isEmpty = true then ws else List.replicate (n + 1) Value.none
def gKV (n : Nat) (vs zs : List V) : List V := if vs.isEmpty = true then zs else List.replicate (n + 1) V.non
def KwAll (K : PySem.W.Frag) (fd : FuncData) (ps ks : List Str) : Prop := KBinds K fd ps ks (gK ps.length) (gKV ps.length)
theorem ge_callK {k n : Nat} {f : Addr} {fd : FuncData} {ps ks : List Str} {sd : SpD} {x : Str} {p pos : Pos} {kws : List Keyword} {dk : DA} (F : FnOk X.prog X.w X.K X.mg X.base CX0 k f fd ps (spL X.K n sd)) (hr : Room k X.A) (hg : Gl X x) (hm : X.mg x = some (.ref f)) (hk : PySem.W.keepIn X.K (.ref f) = true) (hb : KwAll X.K fd ps ks)
    (hkw : GK X kws dk) (hall : (backToKw pos (keywordEach kws X.env)).all (·.1.isSome) = true := by rfl) (hks : (backToKw pos (keywordEach kws X.env)).filterMap (·.1) = ks := by rfl)
    (hdb : (x == ("__debug__" : Str)) = false := by decide) (hpl : ((backTo pos (starEach [] X.env)).any (·.1) || (backToKw pos (keywordEach kws X.env)).any (·.1.isNone)) = false := by rfl) :
    GE X (.Call (.Name x p) [] kws pos) (dCall n sd dk) := by
  obtain ⟨tk, q, l⟩ := hkw
  have P : PE X (.Call (.Name x p) [] kws pos) (fun τ H Q => tk τ H fun zs H2 => spL X.K n sd zs H2 Q E0) := by
    refine ⟨fun pz s τ H Q I h => ?_⟩
    refine wpAny_Call_Name_kw (ld_glob I hg hm ?_ hdb)
    refine PySem.W.callWith_KW0 (h₀ := X.base) I.ok.mod.kin hk hall (thn (q.run pos pz s τ H _ I h) fun ws tB ⟨zs, H2, iB, rz, q2⟩ => ⟨iB.kIn, ?_⟩) hpl
    rw [hks]
    exact run_fnk (us := []) (vs := []) F hr hb pass0 iB .nil rz q2
  refine .of ⟨_, P, fun s H sd' m Qd Q rs rm h k => ?_⟩
  refine l s H sd' m _ _ rs rm h fun vs H1 ds m1 t1 rm1 r1 h1 => ?_
  exact ⟨ds, m1, Qd, r1, rm1, h1, fun v' H' dv' m' t' a b c => k v' H' dv' m' (t1.trans t') a b c⟩
def dAnd (t u : DT) : DT := fun s m Q => t s m fun c m1 => if c = true then u s m1 Q else Q false m1
def dOr (t u : DT) : DT := fun s m Q => t s m fun c m1 => if c = true then Q true m1 else u s m1 Q
def dNot (t : DT) : DT := fun s m Q => t s m fun c m1 => Q (!c) m1
theorem LT.and {K : PySem.W.Frag} {t u : TT} {dt du : DT} (l : LT K t dt) (l2 : LT K u du) : LT K (tAnd t u) (dAnd dt du) := fun s H sd m Qd Q rs rm h k => by
  refine l s H sd m _ _ rs rm h fun b H1 m1 t1 rm1 h1 => ?_
  cases b with
  | true => exact l2 s H1 sd m1 _ _ (rs.mono t1) rm1 h1 fun b H2 m2 t2 rm2 h2 => k b H2 m2 (t1.trans t2) rm2 h2
  | false => exact k false H1 m1 t1 rm1 h1
theorem LT.or {K : PySem.W.Frag} {t u : TT} {dt du : DT} (l : LT K t dt) (l2 : LT K u du) : LT K (tOr t u) (dOr dt du) := fun s H sd m Qd Q rs rm h k => by
  refine l s H sd m _ _ rs rm h fun b H1 m1 t1 rm1 h1 => ?_
  cases b with
  | true => exact k true H1 m1 t1 rm1 h1
  | false => exact l2 s H1 sd m1 _ _ (rs.mono t1) rm1 h1 fun b H2 m2 t2 rm2 h2 => k b H2 m2 (t1.trans t2) rm2 h2
theorem gw_and1 {a : Expr} {pos : Pos} {d : DT} (h : GT X a d) : GW X (.BoolOp .And [a] pos) d := let ⟨t, p, l⟩ := h.ex; ⟨_, pw_and1 p, l⟩
theorem gw_or1 {a : Expr} {pos : Pos} {d : DT} (h : GT X a d) : GW X (.BoolOp .Or [a] pos) d := let ⟨t, p, l⟩ := h.ex; ⟨_, pw_or1 p, l⟩
theorem gw_and {a b : Expr} {rest : List Expr} {pos : Pos} {d d2 : DT} (h : GT X a d) (h2 : GW X (.BoolOp .And (b :: rest) pos) d2) : GW X (.BoolOp .And (a :: b :: rest) pos) (dAnd d d2) := by
  obtain ⟨t, p, l⟩ := h.ex
  obtain ⟨u, q, l2⟩ := h2.ex
  exact ⟨_, pw_and p q, l.and l2⟩
theorem gw_or {a b : Expr} {rest : List Expr} {pos : Pos} {d d2 : DT} (h : GT X a d) (h2 : GW X (.BoolOp .Or (b :: rest) pos) d2) : GW X (.BoolOp .Or (a :: b :: rest) pos) (dOr d d2) := by
  obtain ⟨t, p, l⟩ := h.ex
  obtain ⟨u, q, l2⟩ := h2.ex
  exact ⟨_, pw_or p q, l.or l2⟩
theorem gt_not {a : Expr} {pos : Pos} {d : DT} (h : GT X a d) : GT X (.UnaryOp .Not a pos) (dNot d) := by
  obtain ⟨t, p, l⟩ := h.ex
  exact .of ⟨_, pt_not p, fun s H sd m Qd Q rs rm h k => l s H sd m _ _ rs rm h fun b H1 m1 t1 rm1 h1 => k (!b) H1 m1 t1 rm1 h1⟩
def dAndV (a b : DE) : DE := fun s m Q => a s m fun x m1 => match x with | .bl c => if c = true then b s m1 Q else Q (.bl false) m1 | _ => False
def dOrV (a b : DE) : DE := fun s m Q => a s m fun x m1 => match x with | .bl c => if c = true then Q (.bl true) m1 else b s m1 Q | _ => False
def dNotV (a : DE) : DE := fun s m Q => a s m fun x m1 => match x with | .bl c => Q (.bl (!c)) m1 | _ => False
theorem ge_one {op} {a : Expr} {pos : Pos} {d : DE} (h : GE X a d) : GE X (.BoolOp op [a] pos) d := let ⟨t, p, l⟩ := h.ex; .of ⟨_, pe_one p, l⟩
theorem ge_and {a b : Expr} {rest : List Expr} {pos : Pos} {d d2 : DE} (h : GE X a d) (h2 : GE X (.BoolOp .And (b :: rest) pos) d2) : GE X (.BoolOp .And (a :: b :: rest) pos) (dAndV d d2) := by
  obtain ⟨t, p, l⟩ := h.ex
  obtain ⟨u, q, l2⟩ := h2.ex
  refine .of ⟨_, pe_and p q, fun s H sd m Qd Q rs rm h k => ?_⟩
  refine l s H sd m _ _ rs rm h fun v H1 dv m1 t1 rm1 r1 h1 => ?_
  cases r1 with
  | bl c =>
    refine ⟨c, rfl, ?_⟩
    cases c with
    | true => exact l2 s H1 sd m1 _ _ (rs.mono t1) rm1 h1 fun b H2 dv m2 t2 rm2 r2 h2 => k b H2 dv m2 (t1.trans t2) rm2 r2 h2
    | false => exact k _ H1 _ m1 t1 rm1 (.bl _) h1
  | _ => exact h1.elim
theorem ge_or {a b : Expr} {rest : List Expr} {pos : Pos} {d d2 : DE} (h : GE X a d) (h2 : GE X (.BoolOp .Or (b :: rest) pos) d2) : GE X (.BoolOp .Or (a :: b :: rest) pos) (dOrV d d2) := by
  obtain ⟨t, p, l⟩ := h.ex
  obtain ⟨u, q, l2⟩ := h2.ex
  refine .of ⟨_, pe_or p q, fun s H sd m Qd Q rs rm h k => ?_⟩
  refine l s H sd m _ _ rs rm h fun v H1 dv m1 t1 rm1 r1 h1 => ?_
  cases r1 with
  | bl c =>
    refine ⟨c, rfl, ?_⟩
    cases c with
    | true => exact k _ H1 _ m1 t1 rm1 (.bl _) h1
    | false => exact l2 s H1 sd m1 _ _ (rs.mono t1) rm1 h1 fun b H2 dv m2 t2 rm2 r2 h2 => k b H2 dv m2 (t1.trans t2) rm2 r2 h2
  | _ => exact h1.elim
theorem ge_not {a : Expr} {pos : Pos} {d : DE} (h : GE X a d) : GE X (.UnaryOp .Not a pos) (dNotV d) := by
  obtain ⟨t, p, l⟩ := h.ex
  refine .of ⟨_, pe_not p, fun s H sd m Qd Q rs rm h k => ?_⟩
  refine l s H sd m _ _ rs rm h fun v H1 dv m1 t1 rm1 r1 h1 => ?_
  cases r1 with
  | bl c => exact ⟨c, rfl, k _ H1 _ m1 t1 rm1 (.bl _) h1⟩
  | _ => exact h1.elim
def dIfE (t : DT) (a b : DE) : DE := fun s m Q => t s m fun c m1 => if c = true then a s m1 Q else b s m1 Q
theorem ge_ifE {c a b : Expr} {pos : Pos} {t : DT} {da db : DE} (h : GT X c t) (ha : GE X a da) (hb : GE X b db) : GE X (.IfExp c a b pos) (dIfE t da db) := by
  obtain ⟨tt, p, l⟩ := h.ex
  obtain ⟨ta, q, l2⟩ := ha.ex
  obtain ⟨tb, q2, l3⟩ := hb.ex
  refine .of ⟨_, pe_ifExp p q q2, fun s H sd m Qd Q rs rm h k => ?_⟩
  refine l s H sd m _ _ rs rm h fun b H1 m1 t1 rm1 h1 => ?_
  cases b with
  | true => exact l2 s H1 sd m1 _ _ (rs.mono t1) rm1 h1 fun b H2 dv m2 t2 rm2 r2 h2 => k b H2 dv m2 (t1.trans t2) rm2 r2 h2
  | false => exact l3 s H1 sd m1 _ _ (rs.mono t1) rm1 h1 fun b H2 dv m2 t2 rm2 r2 h2 => k b H2 dv m2 (t1.trans t2) rm2 r2 h2
def truD (m : Mu) : D → Option Bool
  | .non => some false
  | .bl b => some b
  | .int i => some (i != 0)
  | d => (seqOf m d).map fun ds => !ds.isEmpty
def dTru (a : DE) : DT := fun s m Q => a s m fun x m1 => ∃ b, truD m1 x = some b ∧ Q b m1
end
end PD
namespace PD
open PySem PySem.Spec PyProof.Rows L2 HT
section
variable {pg9 : Program} {w : World} {A : Around} {E : Value → Shared → Prop} {s : Shared}
theorem rev_places (n : Nat) : Builtin.Slice.slicePlaces ((n : Int) - 1) (-1) (-1) = n := by
  unfold Builtin.Slice.slicePlaces
  rw [if_neg (by omega)]
  by_cases h : (n : Int) - 1 > -1
  · rw [if_pos h, show -(-1 : Int) = 1 from rfl, Int.ediv_one]; omega
  · rw [if_neg h]; omega
theorem sliceApplied_rev {sc9 : Addr} {vl vu vs : Value} {n : Nat} {Q : Int × Int × Nat → Shared → Prop} (hs : s.heap.IsSliceOf sc9 vl vu vs) (pl : IsPart vl none) (pu : IsPart vu none) (ps : IsPart vs (some (-1)))
    (h : Q ((n : Int) - 1, -1, n) s) : wpAny (model pg9 w) A (Builtin.Slice.sliceApplied (.ref sc9) (pure (n : Int))) Q E s := by
  obtain ⟨os, uos, ucs, uds⟩ := id hs
  unfold Builtin.Slice.sliceApplied Builtin.Slice.sliceFields
  refine wpAny_bind (wpAny_bind (wpAny_field uos uds (x := vl) rfl (wpAny_bind (wpAny_field uos uds (x := vu) rfl (wpAny_bind (wpAny_field uos uds (x := vs) rfl (wpAny_pure ?_)))))))
  refine wpAny_bind (slicePart_ ps ?_)
  show wpAny _ _ (if ((-1 : Int) == 0) = true then _ else _) _ _ s
  rw [if_neg (by decide)]
  refine wpAny_bind (slicePart_ pl (wpAny_bind (slicePart_ pu (wpAny_bind (wpAny_pure ?_)))))
  show wpAny _ _ (match Builtin.Slice.sliceAdjust none none (-1) (n : Int) with | (lo, hi) => pure (lo, (-1 : Int), Builtin.Slice.slicePlaces lo hi (-1))) _ _ s
  have e : Builtin.Slice.sliceAdjust none none (-1) (n : Int) = ((n : Int) - 1, -1) := rfl
  rw [e]
  show wpAny _ _ (pure ((n : Int) - 1, (-1 : Int), Builtin.Slice.slicePlaces ((n : Int) - 1) (-1) (-1))) _ _ s
  rw [rev_places]
  exact wpAny_pure h
theorem fm_congr {α β : Type} {f g : α → Option β} : ∀ {l : List α}, (∀ x ∈ l, f x = g x) → l.filterMap f = l.filterMap g
  | [], _ => rfl
  | x :: l, h => by
    rw [List.filterMap_cons, List.filterMap_cons, h x (List.mem_cons_self ..), fm_congr fun y hy => h y (List.mem_cons_of_mem _ hy)]
theorem fm_get {α : Type} (l : List α) : (List.range l.length).filterMap (fun (m : Nat) => l[m]?) = l := by
  have h1 : (List.range l.length).map (fun (m : Nat) => l[m]?) = l.map some := by
    apply List.ext_getElem?
    intro j
    rw [List.getElem?_map, List.getElem?_map]
    by_cases hj : j < l.length
    · rw [List.getElem?_eq_getElem (by rw [List.length_range]; exact hj), List.getElem_range]
      show some l[j]? = Option.map some l[j]?
      rw [List.getElem?_eq_getElem hj]; rfl
    · rw [List.getElem?_eq_none (by rw [List.length_range]; omega), List.getElem?_eq_none (by omega)]; rfl
  have h2 : (List.range l.length).filterMap (fun (m : Nat) => l[m]?) = ((List.range l.length).map (fun (m : Nat) => l[m]?)).filterMap id := by
    rw [List.filterMap_map]; rfl
  rw [h2, h1, List.filterMap_map]
  show l.filterMap some = l
  exact List.filterMap_some
theorem pick_rev (xs : Array Value) : ((List.range xs.size).filterMap fun (m : Nat) => xs[(((xs.size : Int) - 1) + (m : Int) * (-1)).toNat]?).toArray = xs.toList.reverse.toArray := by
  congr 1
  have e : ∀ (m : Nat), m ∈ List.range xs.size → xs[(((xs.size : Int) - 1) + (m : Int) * (-1)).toNat]? = xs.toList.reverse[m]? := fun m hm => by
    have hm' : m < xs.size := List.mem_range.mp hm
    have : (((xs.size : Int) - 1) + (m : Int) * (-1)).toNat = xs.size - 1 - m := by omega
    rw [this, List.getElem?_reverse (by rw [Array.length_toList]; exact hm'), Array.getElem?_toList, Array.length_toList]
  rw [fm_congr e]
  have hl : xs.toList.reverse.length = xs.size := by rw [List.length_reverse, Array.length_toList]
  have z := fm_get xs.toList.reverse
  rw [hl] at z
  exact z
theorem getItem_tuple_rev {t sc9 : Addr} {gs9 : Array Value} {vl vu vs : Value} {Q : Value → Shared → Prop} (th9 : IsTup s.heap t gs9) (hs : s.heap.IsSliceOf sc9 vl vu vs) (pl : IsPart vl none) (pu : IsPart vu none) (ps : IsPart vs (some (-1)))
    (h : Q (.ref s.heap.objs.size) { s with heap := s.heap.push { cls := .type "tuple", data := .seq gs9.toList.reverse.toArray } })
    (sz9 : gs9.size ≤ sizeLine) : wpAny (model pg9 w) A (getItem (.ref t) (.ref sc9)) Q E s := by
  have take9 : sizeOk (.seq gs9.toList.reverse.toArray) := by
    show gs9.toList.reverse.toArray.size ≤ sizeLine
    rw [List.size_toArray, List.length_reverse, Array.length_toList]
    exact sz9
  obtain ⟨os, uos, ucs, uds⟩ := id hs
  have uTs : s.TypeIs (.ref sc9) "slice" := ⟨os, uos, ucs⟩
  unfold getItem
  try with_reducible refine wpAny_holding ?_
  first | refine wpAny_bind (wpAny_pure ?_) | skip
  refine wpAny_bind (wpAny_sequenceKey th9.typeIs (by decide) ?_)
  refine wpAny_bind (wpAny_callSpecial?_slot (name := Str.ofString "__getitem__") th9.typeIs PyProof.Rows.slot_tuple_getitem
    (wpAny_call_entry PyProof.Rows.slot_tuple_getitem th9.typeIs entry_tuple_getitem ?_ (args_tuple_getitem _ _)))
  show wpAny _ _ (Builtin.Tuple.tupleItemsOf (.ref t) >>= _) _ _ s
  refine wpAny_bind (tupleItemsOf_ th9 ?_)
  refine wpAny_bind (wpAny_typeOf uTs ?_)
  rw [if_pos (by decide)]
  refine wpAny_bind (sliceApplied_rev hs pl pu ps ?_)
  have hno : ¬ (((((gs9.size : Nat) : Int) - 1) == 0 && (-1 : Int) == 1 && gs9.size == gs9.size) = true) := by
    intro q
    rw [Bool.and_eq_true, Bool.and_eq_true] at q
    exact absurd (eq_of_beq q.1.2) (by decide)
  show wpAny _ _ (if ((((gs9.size : Nat) : Int) - 1) == 0 && (-1 : Int) == 1 && gs9.size == gs9.size) = true then _ else _) _ _ s
  rw [if_neg hno, pick_rev]
  first
    | exact wpAny_bind (m := Builtin.Tuple.tupleExact _) (wpAny_newObj_type (wpAny_pure ⟨_, rfl, wpAny_pure h⟩) take9)
    | exact wpAny_bind (m := Builtin.Tuple.tupleExact _) (wpAny_newObj_type (wpAny_bind (wpAny_pure (wpAny_pure ⟨_, rfl, wpAny_pure h⟩))) take9)
    | exact wpAny_bind (wpAny_bind (m := Builtin.Tuple.tupleExact _) (wpAny_newObj_type (wpAny_pure (wpAny_pure ⟨_, rfl, wpAny_pure h⟩)) take9))
    | exact wpAny_bind (wpAny_bind (m := Builtin.Tuple.tupleExact _) (wpAny_newObj_type (wpAny_pure ⟨_, rfl, wpAny_pure h⟩) take9))
end
section
variable {X : Cx}
def tRevS (K : PySem.W.Frag) (te : TE) : TE := fun τ H Q => te τ H fun x H1 => ∃ a xs, x = .ref a ∧ ((SqL K H1 a xs ∧ ∀ p, H1 p = none → Q (.ref p) (upd H1 p (.lst xs.reverse))) ∨ (SqT K H1 a xs ∧ ∀ p, H1 p = none → Q (.ref p) (upd H1 p (.tup xs.reverse))))
theorem pe_revS {e : Expr} {te : TE} {k : Nat} {p1 p2 p3 pos : Pos} (he : PE X e te) : PE X (.Subscript e (.Slice none none (some (.UnaryOp .USub (.Constant (.int 1) k p1) p2)) p3) pos) (tRevS X.K te) := by
  refine ⟨fun pz s τ H Q I h => ?_⟩
  refine Subscript_ (thn (he.run pz s τ H _ I h) fun v tA ⟨x, H1, iA, r1, q1⟩ => ?_)
  obtain ⟨a, xs, ex, q⟩ := q1
  subst ex
  cases r1
  have st9 : PO X (some (.UnaryOp .USub (.Constant (.int 1) k p1) p2)) (tPart (tUn (rU fun i => .int (-i)) (tC (.int 1)))) := po_some (pe_un un_neg pe_int)
  refine wpAny_Slice (thn (po_none.run pz tA τ H1 (fun o H2 => o = none ∧ H2 = H1) iA ⟨rfl, rfl⟩) fun vl tB ⟨l, H2, iB, pl, el, e2⟩ => ?_)
  subst el e2
  refine thn (po_none.run pz tB τ H2 (fun o H3 => o = none ∧ H3 = H2) iB ⟨rfl, rfl⟩) fun vu tC ⟨u, H3, iC, pu, eu, e3⟩ => ?_
  subst eu e3
  refine thn (st9.run pz tC τ H3 (fun o H4 => o = some (-1) ∧ H4 = H3) iC ⟨1, rfl, -1, rfl, rfl, rfl⟩) fun vs tD ⟨o, H4, iD, ps, eo, e4⟩ => ?_
  subst eo e4
  have iE : Inv X pz τ H4 { tD with heap := tD.heap.push { cls := .type "slice", data := .fields #[vl, vu, vs] } } := iD.kept (t' := tD.toks) fun b ob q => Heap.get?_push_of_some _ q
  show wpAny (model X.prog X.w) X.A (subscriptTail e (.Slice none none (some (.UnaryOp .USub (.Constant (.int 1) k p1) p2)) p3) (.ref a) (.ref tD.heap.objs.size)) (EP X pz τ Q) X.xe { tD with heap := tD.heap.push { cls := .type "slice", data := .fields #[vl, vu, vs] } }
  rcases q with ⟨hx, q⟩ | ⟨hx, q⟩
  · obtain ⟨xs9, r, th9, hs9⟩ := iE.list hx
    have hlen := r.length
    refine tail_any (ops := [.ref a, .ref tD.heap.objs.size]) th9.isList.typeIs (PySem.slot_list_getitem.lookup) ?_ (by with_unfolding_all rfl)
    refine wpAny_getItem_list_slice th9.isList (Heap.IsSliceOf.new _ vl vu vs) pl pu ps (by decide) ?_ (by rw [List.size_toArray]; omega)
    rw [PySem.W.krv_pick]
    refine ⟨.ref _, _, iE.laid (t' := tD.toks) (o := .lst xs.reverse) (fun b ob q => Heap.get?_push_of_some _ q) (Nat.le_refl _) ?_, rfl, q _ (iE.hok.fresh (Nat.le_refl _))⟩
    exact ⟨by rw [List.length_reverse]; exact hs9, _, 0, r.reverse, Heap.get?_push_size _ rfl⟩
  · obtain ⟨xs9, r, th9, hs9⟩ := iE.tuple hx
    have hlen := r.length
    refine tail_any (ops := [.ref a, .ref tD.heap.objs.size]) th9.typeIs (PyProof.Rows.slot_tuple_getitem.lookup) ?_ (by with_unfolding_all rfl)
    refine getItem_tuple_rev th9 (Heap.IsSliceOf.new _ vl vu vs) pl pu ps ?_ (by rw [List.size_toArray]; omega)
    refine ⟨.ref _, _, iE.laid (t' := tD.toks) (o := .tup xs.reverse) (fun b ob q => Heap.get?_push_of_some _ q) (Nat.le_refl _) ?_, rfl, q _ (iE.hok.fresh (Nat.le_refl _))⟩
    exact ⟨by rw [List.length_reverse]; exact hs9, _, r.reverse, ⟨_, Heap.get?_push_size _ rfl, rfl, _, rfl⟩⟩
def dRev (de : DE) : DE := fun s m Q => de s m fun x m1 => match x with
  | .tup ds => Q (.tup ds.reverse) m1
  | .ref a => ∃ ds, seqOf m1 (.ref a) = some ds ∧ ∀ p, m1 p = none → Q (.ref p) (mset m1 p (.lst ds.reverse))
  | _ => False
theorem ge_rev {e : Expr} {de : DE} {k : Nat} {p1 p2 p3 pos : Pos} (he : GE X e de) : GE X (.Subscript e (.Slice none none (some (.UnaryOp .USub (.Constant (.int 1) k p1) p2)) p3) pos) (dRev de) := by
  obtain ⟨te, p, l⟩ := he.ex
  refine .of ⟨_, pe_revS p, fun s H sd m Qd Q rs rm h k => ?_⟩
  refine l s H sd m _ _ rs rm h fun v H1 dv m1 t1 rm1 r1 h1 => ?_
  cases r1 with
  | @tup ds a vs sa ra => exact ⟨a, vs, rfl, .inr ⟨sa, fun p hp => k _ _ _ m1 (t1.trans (.new hp)) (rm1.skip hp) (.tup upd_same (ra.rev.mono (.new hp))) h1⟩⟩
  | ref a =>
    obtain ⟨ds, e, q⟩ := h1
    obtain ⟨vs, sc9, r⟩ := ref_rep rm1 e
    exact ⟨a, vs, rfl, .inl ⟨sc9, fun p hp => k _ _ _ _ (t1.trans (.new hp)) (rm1.newL hp r.rev) (.ref p) (q p (rm1.fresh hp))⟩⟩
  | _ => exact h1.elim
def rExtendU (K : PySem.W.Frag) : V → List V → Hp → VK → Prop := fun x vs H Q => ∃ l b xs zs, x = .ref l ∧ vs = [.ref b] ∧ H l = some (.lst xs) ∧ (H b = some (.lst zs) ∨ SqT K H b zs) ∧ xs.length + zs.length ≤ sizeLine ∧ Q .non (upd H l (.lst (xs ++ zs)))
theorem pd_extend_tuple (l : Addr) (gs9 : Array Value) (n : Nat) (b : Addr) (gt9 : Array Value) (n2 : Nat) (dd : Option Addr) (sc9 : Array (Option Value)) (hs0 : ¬(!gs9.isEmpty && Builtin.List.listTooLong (gs9.size + gt9.size)) = true) (hs1 : gs9.size ≤ sizeLine) (hs2 : gs9.size + gt9.size ≤ sizeLine + 1) :
    Meets (Builtin.«list.extend» ⟨[.ref l, .ref b], []⟩) (fun _ R s => s.heap.get? l = some { cls := .type "list", dict := none, data := .seq gs9 n, slots := #[] } ∧ s.heap.get? b = some { cls := .type "tuple", dict := dd, data := .seq gt9 n2, slots := sc9 } ∧ R (.ok (.ret Value.none)) { s with heap := s.heap.update l (Obj.mapSeq fun x => x ++ gt9) }) :=
  .of_wp fun pg9 w A R s h => by
    obtain ⟨hp, g, d, tk, os⟩ := s; obtain ⟨hl, hb, h⟩ := h; have f1 := AutoSeq1.idx_int; have f2 := sub_tuple_tuple; have f3 := sub_list_list; have f4 := sub_tuple_list; have f5 := sub_list_tuple;
    have hz' : (gs9 ++ gt9).size ≤ sizeLine + 1 := by rw [Array.size_append]; exact hs2
    wp_walk using (wpAny_updateSeq hl rfl (hz := hs1) (_hz' := hz')), AutoSeq1.wpAny_loadPart' hl, AutoSeq1.wpAny_loadPart' hb; exact ⟨_, rfl, h⟩
theorem mt_extendU : MtM X "list.extend" (rExtendU X.K) := by
  intro pz s τ H x vs v us Q I rx ra9 h
  obtain ⟨l, b, xs, zs, rfl, rfl, hH, hB, hs9, q⟩ := h
  rcases hB with hB | hB
  · exact mt_extend pz s τ H _ _ v us Q I rx ra9 ⟨l, b, xs, zs, rfl, rfl, hH, hB, hs9, q⟩
  · cases rx
    obtain ⟨u, rfl, ru⟩ := ra9.one
    cases ru
    obtain ⟨z, xs9, n, r, hl, e⟩ := I.lstM hH
    obtain ⟨ys9, r2, p2, hl2⟩ := I.tuple hB
    obtain ⟨⟨c2, dd2, dt2, sl2⟩, e2, hc2, n2, hd2⟩ := id p2
    replace hc2 : c2 = .type "tuple" := hc2
    replace hd2 : dt2 = .seq ys9.toArray n2 := hd2
    subst hc2 hd2
    have le9 := r2.length
    have sz9 : xs9.toArray.size + ys9.toArray.size ≤ sizeLine := by rw [List.size_toArray, List.size_toArray]; omega
    have hlong : ¬ (!xs9.toArray.isEmpty && Builtin.List.listTooLong (xs9.toArray.size + ys9.toArray.size)) = true := by
      rw [notLongL sz9, Bool.and_false]
      exact Bool.false_ne_true
    refine call_meets F.slot_list_extend ⟨_, e, rfl⟩ F.entry_list_extend (F.args_list_extend_2 _ _)
      (pd_extend_tuple l xs9.toArray n b ys9.toArray n2 dd2 sl2 hlong (by rw [List.size_toArray]; omega) (by omega)) ⟨e, e2, ?_⟩
    refine ⟨.non, _, I.lset (its' := xs9 ++ ys9) hH e (by simp) (r.append r2) ?_, rfl, q⟩
    rw [List.length_append]
    omega
theorem lm_extend {K : PySem.W.Frag} : LM K (rExtendU K) dExtend := fun x vs H dx ds m Qd Q rm rx r h k => by
  match ds, r, h with
  | [.tup zs], r, h =>
    obtain ⟨a, es, zs', e, e1, hs9, q⟩ := h
    cases e1
    obtain ⟨rfl, rfl, _, ws, e2, r2⟩ := lst_rep rm rx e
    obtain ⟨v, rfl, ra9⟩ := repL1 r
    cases ra9 with
    | @tup _ b us sb rb => exact ⟨a, b, ws, us, rfl, rfl, e2, .inr sb, by rw [← r2.length, ← rb.length]; exact hs9, k _ _ _ _ (.lst e2) (rm.setL e2 (r2.append rb)) .non q⟩
  | [.ref b], r, h =>
    obtain ⟨a, es, zs, e, e1, hs9, q⟩ := h
    obtain ⟨rfl, rfl, _, ws, e2, r2⟩ := lst_rep rm rx e
    obtain ⟨v, rfl, ra9⟩ := repL1 r
    cases ra9
    unfold seqW at e1
    cases e3 : m b with
    | none => simp only [e3] at e1; cases e1
    | some o =>
      have z := rm b o e3
      cases o with
      | lst ys =>
        simp only [e3] at e1; cases e1
        obtain ⟨us, e4, rb⟩ := z
        exact ⟨a, b, ws, us, rfl, rfl, e2, .inl e4, by rw [← r2.length, ← rb.length]; exact hs9, k _ _ _ _ (.lst e2) (rm.setL e2 (r2.append rb)) .non q⟩
      | _ => simp only [e3] at e1; cases e1
  | [.non], _, h => obtain ⟨_, _, _, _, e, _⟩ := h; cases e
  | [.bl _], _, h => obtain ⟨_, _, _, _, e, _⟩ := h; cases e
  | [.int _], _, h => obtain ⟨_, _, _, _, e, _⟩ := h; cases e
  | [.str _], _, h => obtain ⟨_, _, _, _, e, _⟩ := h; cases e
  | [.rol _], _, h => obtain ⟨_, _, _, _, e, _⟩ := h; cases e
  | [.dic _ _], _, h => obtain ⟨_, _, _, _, e, _⟩ := h; cases e
  | [.dicT _ _], _, h => obtain ⟨_, _, _, _, e, _⟩ := h; cases e
  | [.obj _ _ _], _, h => obtain ⟨_, _, _, _, e, _⟩ := h; cases e
end
end PD
namespace PD
open PySem PySem.Spec PyProof.Rows L2
section
variable {X : Cx}
theorem isEmptyL {K : PySem.W.Frag} {H : Hp} {ds : List D} {vs : List V} (r : RepL K H ds vs) : ds.isEmpty = vs.isEmpty := by
  cases r <;> rfl
theorem gt_tru {a : Expr} {da : DE} (ha : GE X a da) (he : ∀ whole, isTrue a X.env whole = (do let v ← whole; standAt a.pos; holding [v] (truthy v)) := by intro _; rfl) : GT X a (dTru da) := by
  obtain ⟨ta, p, l⟩ := ha.ex
  refine .of ⟨_, pt_truth p he, fun s H sd m Qd Q rs rm h k => ?_⟩
  refine l s H sd m _ _ rs rm h fun v H1 dv m1 t1 rm1 r1 h1 => ?_
  obtain ⟨b, e, q⟩ := h1
  refine ⟨b, ?_, k b H1 m1 t1 rm1 q⟩
  cases r1 with
  | non => cases e; rfl
  | bl c => cases e; rfl
  | int i => cases e; rfl
  | str z => cases e
  | @tup ds a vs sa ra =>
    cases e
    exact .inr (.inl ⟨vs, sa, by rw [← isEmptyL ra]⟩)
  | dic _ _ _ => cases e
  | dicT _ _ _ => cases e
  | obj _ _ _ => cases e
  | rol s r =>
    cases e
    exact .inl ⟨_, s.sq, by rw [← isEmptyL r]⟩
  | ref a =>
    have e : (seqOf m1 (.ref a)).map (fun ds => !ds.isEmpty) = some b := e
    cases e2 : seqOf m1 (.ref a) with
    | none => rw [e2] at e; cases e
    | some ds =>
      rw [e2] at e; cases e
      obtain ⟨vs, sl, r⟩ := ref_rep rm1 e2
      exact .inl ⟨vs, sl, by rw [← isEmptyL r]⟩
def dNext : DS := fun E s m => E.nx s m
def dSeq (t u : DS) : DS := fun E s m => t { E with nx := u E } s m
theorem gss_nil : GSs X [] dNext := ⟨_, pss_nil, fun s H sd m Ed E rs rm h k1 _ _ _ => k1 s H sd m (.refl H) rs rm h⟩
theorem LS.seq {K : PySem.W.Frag} {t u : TS} {d e : DS} (l : LS K t d) (l2 : LS K u e) : LS K (tSeq t u) (dSeq d e) := fun s H sd m Ed E rs rm h k1 k2 k3 k4 => by
  refine l s H sd m { Ed with nx := e Ed } { E with nx := u E } rs rm h (fun s' H' sd' m' t1 rs1 rm1 h1 => ?_) k2 k3 k4
  exact l2 s' H' sd' m' Ed E rs1 rm1 h1 (fun tB H2 sd2 m2 t2 a b c => k1 tB H2 sd2 m2 (t1.trans t2) a b c) (fun v H2 dv m2 t2 a b c => k2 v H2 dv m2 (t1.trans t2) a b c)
    (fun tB H2 sd2 m2 t2 a b c => k3 tB H2 sd2 m2 (t1.trans t2) a b c) (fun tB H2 sd2 m2 t2 a b c => k4 tB H2 sd2 m2 (t1.trans t2) a b c)
theorem gss_cons {st : Stmt} {rest : List Stmt} {d e : DS} (h1 : GS X st d) (h2 : GSs X rest e) : GSs X (st :: rest) (dSeq d e) := by
  obtain ⟨t, p, l⟩ := h1.ex
  obtain ⟨u, q, l2⟩ := h2.ex
  exact ⟨_, pss_cons p q, l.seq l2⟩
theorem gss_one {st : Stmt} {d : DS} (h1 : GS X st d) : GSs X [st] d := by
  obtain ⟨t, p, l⟩ := h1.ex
  exact ⟨_, pss_one p, l⟩
def dDrop (a : DE) : DS := fun E s m => a s m fun _ m1 => E.nx s m1
theorem gs_expr {e : Expr} {pos : Pos} {d : DE} (he : GE X e d) (hs : swapsWith e none pos.line X.env = pure false := by rfl) : GS X (.Expr e pos) (dDrop d) := by
  obtain ⟨t, p, l⟩ := he.ex
  exact ⟨_, ps_expr p hs, fun s H sd m Ed E rs rm h k1 _ _ _ => l s H sd m _ _ rs rm h fun v H1 dv m1 t1 rm1 r1 h1 => k1 s H1 sd m1 t1 (rs.mono t1) rm1 h1⟩
def dRet (a : DE) : DS := fun E s m => a s m E.rt
theorem gs_ret {e : Expr} {pos : Pos} {d : DE} (he : GE X e d) : GS X (.Return (some e) pos) (dRet d) := by
  obtain ⟨t, p, l⟩ := he.ex
  exact ⟨_, ps_ret p, fun s H sd m Ed E rs rm h _ k2 _ _ => l s H sd m _ _ rs rm h fun v H1 dv m1 t1 rm1 r1 h1 => k2 v H1 dv m1 t1 rm1 r1 h1⟩
def dRetN : DS := fun E _ m => E.rt .non m
def dIfS (c : DT) (t u : DS) : DS := fun E s m => c s m fun b m1 => if b = true then t E s m1 else u E s m1
theorem gs_if {c : Expr} {a b : List Stmt} {pos : Pos} {dc : DT} {t u : DS} (hc : GT X c dc) (ha : GSs X a t) (hb : GSs X b u) : GS X (.If c a b pos) (dIfS dc t u) := by
  obtain ⟨tc, p, l⟩ := hc.ex
  obtain ⟨ta, q, l2⟩ := ha.ex
  obtain ⟨tb, q2, l3⟩ := hb.ex
  refine ⟨_, ps_if p q q2, fun s H sd m Ed E rs rm h k1 k2 k3 k4 => ?_⟩
  refine l s H sd m _ _ rs rm h fun b H1 m1 t1 rm1 h1 => ?_
  have c1 : ∀ tB H2 sd2 m2, TX H1 H2 → RS X.K H2 sd2 tB → RM X.K H2 m2 → Ed.nx sd2 m2 → E.nx tB H2 := fun tB H2 sd2 m2 t2 a b c => k1 tB H2 sd2 m2 (t1.trans t2) a b c
  have c2 : ∀ v H2 dv m2, TX H1 H2 → RM X.K H2 m2 → Rep X.K H2 dv v → Ed.rt dv m2 → E.rt v H2 := fun v H2 dv m2 t2 a b c => k2 v H2 dv m2 (t1.trans t2) a b c
  have c3 : ∀ tB H2 sd2 m2, TX H1 H2 → RS X.K H2 sd2 tB → RM X.K H2 m2 → Ed.bk sd2 m2 → E.bk tB H2 := fun tB H2 sd2 m2 t2 a b c => k3 tB H2 sd2 m2 (t1.trans t2) a b c
  have c4 : ∀ tB H2 sd2 m2, TX H1 H2 → RS X.K H2 sd2 tB → RM X.K H2 m2 → Ed.ct sd2 m2 → E.ct tB H2 := fun tB H2 sd2 m2 t2 a b c => k4 tB H2 sd2 m2 (t1.trans t2) a b c
  cases b with
  | true =>
    show ta E s H1
    exact l2 s H1 sd m1 Ed E (rs.mono t1) rm1 h1 c1 c2 c3 c4
  | false =>
    show tb E s H1
    exact l3 s H1 sd m1 Ed E (rs.mono t1) rm1 h1 c1 c2 c3 c4
abbrev DG := D → Sd → Mu → (Sd → Mu → Prop) → Prop
abbrev DGs := List D → Sd → Mu → (Sd → Mu → Prop) → Prop
/-- js: the slots that may be set -/
def Own (js : List Nat) (s tB : L2.St) : Prop := ∀ vs : List Nat, (∀ j ∈ js, j ∈ vs) → wipe tB vs = wipe s vs
def LG (K : PySem.W.Frag) (g : TG) (dg : DG) (js : List Nat) : Prop := ∀ x dx s H sd m (Qd : Sd → Mu → Prop) (Q : L2.St → Hp → Prop), Rep K H dx x → RS K H sd s → RM K H m → dg dx sd m Qd →
  (∀ s' H' sd' m', TX H H' → RS K H' sd' s' → RM K H' m' → Qd sd' m' → Own js s s' → Q s' H') → g x s H Q
def LGs (K : PySem.W.Frag) (g : TGs) (dg : DGs) (js : List Nat) : Prop := ∀ xs dxs s H sd m (Qd : Sd → Mu → Prop) (Q : L2.St → Hp → Prop), RepL K H dxs xs → RS K H sd s → RM K H m → dg dxs sd m Qd →
  (∀ s' H' sd' m', TX H H' → RS K H' sd' s' → RM K H' m' → Qd sd' m' → Own js s s' → Q s' H') → g xs s H Q
def liftG (K : PySem.W.Frag) (dg : DG) (js : List Nat) : TG := fun x s H Q => ∃ dx sd m Qd, Rep K H dx x ∧ RS K H sd s ∧ RM K H m ∧ dg dx sd m Qd ∧ ∀ s' H' sd' m', TX H H' → RS K H' sd' s' → RM K H' m' → Qd sd' m' → Own js s s' → Q s' H'
theorem liftG_le (K : PySem.W.Frag) (dg : DG) (js : List Nat) : LG K (liftG K dg js) dg js := fun x dx s H sd m Qd Q rx rs rm h k => ⟨dx, sd, m, Qd, rx, rs, rm, h, k⟩
structure GG (X : Cx) (tg : Expr) (dg : DG) (js : List Nat) : Prop where
  mk ::
  pg : PG X tg (liftG X.K dg js)
theorem GG.of {X : Cx} {tg : Expr} {g : TG} {dg : DG} {js : List Nat} (p : PG X tg g) (l : LG X.K g dg js) : GG X tg dg js :=
  ⟨⟨fun pz s τ H v u Q I r ⟨dx, sd, m, Qd, rx, rs, rm, h, k⟩ => p.run pz s τ H v u Q I r (l v dx τ H sd m Qd Q rx rs rm h k)⟩⟩
theorem GG.lg {X : Cx} {tg : Expr} {dg : DG} {js : List Nat} (h : GG X tg dg js) : LG X.K (liftG X.K dg js) dg js := liftG_le _ _ _
structure GGs (X : Cx) (ts : List Expr) (dg : DGs) (js : List Nat) : Prop where
  ex : ∃ g, PGs X ts g ∧ LGs X.K g dg js
theorem wipe_set {v : Option V} {j : Nat} : ∀ {vs : List Nat} {s : L2.St}, j ∈ vs → wipe (s.set j v) vs = wipe s vs
  | [], _, h => by cases h
  | i :: vs, s, h => by
    unfold wipe
    by_cases e : j = i
    · subst e
      by_cases h2 : j ∈ vs
      · rw [wipe_set h2]
      · have : ∀ {ws : List Nat} {s : L2.St}, j ∉ ws → wipe (s.set j v) ws = (wipe s ws).set j v := fun {ws} {s} => by
          induction ws with
          | nil => intro _; rfl
          | cons w ws ih =>
            intro hn
            unfold wipe
            rw [ih fun z => hn (List.mem_cons_of_mem _ z)]
            rw [List.set_comm _ _ (fun z => hn (by rw [z]; exact List.mem_cons_self ..))]
        rw [this h2, List.set_set]
    · rw [wipe_set (by rcases List.mem_cons.mp h with z | z; exact absurd z e; exact z)]
def dgN (j : Nat) : DG := fun d s m Q => Q (s.set j (some d)) m
theorem gg_name {pos : Pos} {i : Nat} {x : Str} (hN : X.N.Nodup) (hi : X.N[i]? = some x) (hx : Loc X.env.scope x) (hf : X.fn x = true ∨ X.env.scope.names.lookup x = some .local := by first | exact .inl rfl | exact .inr rfl | assumption) : GG X (.Name x pos) (dgN i) [i] :=
  .of (pg_name hN hi hx hf) fun x dx s H sd m Qd Q rx rs rm h k => k _ H _ m (.refl H) (rs.set rx i) rm h fun vs hv => wipe_set (hv i (List.mem_singleton.mpr rfl))
def dgNil : DGs := fun ds s m Q => match ds with | [] => Q s m | _ => False
def dgCons (g : DG) (r : DGs) : DGs := fun ds s m Q => match ds with | d :: ds => g d s m fun tA m1 => r ds tA m1 Q | [] => False
theorem ggs_nil : GGs X [] dgNil [] :=
  ⟨_, pgs_nil, fun xs dxs s H sd m Qd Q rx rs rm h k => by
    cases rx with
    | nil => exact ⟨rfl, k s H sd m (.refl H) rs rm h fun _ _ => rfl⟩
    | cons a b => exact h.elim⟩
theorem ggs_cons {e : Expr} {es : List Expr} {dg : DG} {dgs : DGs} {js ks : List Nat} (h1 : GG X e dg js) (h2 : GGs X es dgs ks) (hs : (assignEach (e :: es) X.env).map (·.2) = assign e X.env :: (assignEach es X.env).map (·.2) := by rfl) : GGs X (e :: es) (dgCons dg dgs) (js ++ ks) := by
  obtain ⟨gs, p2, l2⟩ := h2.ex
  exact ⟨_, pgs_cons h1.pg p2 hs, fun xs dxs s H sd m Qd Q rx rs rm h k => by
    cases rx with
    | nil => exact h.elim
    | cons a b =>
      refine ⟨_, _, rfl, h1.lg _ _ s H sd m _ _ a rs rm h fun tA H1 sd1 m1 t1 rs1 rm1 q1 o1 => ?_⟩
      exact l2 _ _ tA H1 sd1 m1 _ _ (b.mono t1) rs1 rm1 q1 fun tB H2 sd2 m2 t2 rs2 rm2 q2 o2 => k tB H2 sd2 m2 (t1.trans t2) rs2 rm2 q2 fun vs hv =>
        (o2 vs fun j hj => hv j (List.mem_append_right _ hj)).trans (o1 vs fun j hj => hv j (List.mem_append_left _ hj))⟩
def dgTup (n : Nat) (g : DGs) : DG := fun d s m Q => match d with | .tup ds => ds.length = n ∧ g ds s m Q | _ => False
theorem gg_tup {es : List Expr} {k n : Nat} {pos : Pos} {dg : DGs} {js : List Nat} (hc : X.calm = true) (h : GGs X es dg js) (hn : (assignEach es X.env).length = n := by rfl) (hst : (assignEach es X.env).findIdx? (·.1) = none := by rfl) : GG X (.Tuple es k pos) (dgTup n dg) js := by
  obtain ⟨g, p, l⟩ := h.ex
  exact .of (pg_tup hc p hn hst) fun x dx s H sd m Qd Q rx rs rm hh k => by
    cases rx with
    | @tup ds a vs sa ra => exact ⟨a, vs, rfl, sa, by rw [← ra.length]; exact hh.1, l _ _ s H sd m Qd Q ra rs rm hh.2 k⟩
    | _ => exact hh.elim
def dAsg (e : DE) (g : DG) : DS := fun E s m => e s m fun x m1 => g x s m1 E.nx
theorem gs_asg {tg e : Expr} {pos : Pos} {de : DE} {dg : DG} {js : List Nat} (he : GE X e de) (hg : GG X tg dg js) (hs : swapsWithSole [tg] e pos.line X.env = pure false := by rfl) (hw : swappedStores [tg] e X.env = pure none := by rfl) (h1 : (assignEach [tg] X.env).map (·.2) = [assign tg X.env] := by rfl) : GS X (.Assign [tg] e pos) (dAsg de dg) := by
  obtain ⟨t, p, l⟩ := he.ex
  refine ⟨_, ps_asg p hg.pg hs hw h1, fun s H sd m Ed E rs rm h k1 _ _ _ => ?_⟩
  refine l s H sd m _ _ rs rm h fun v H1 dv m1 t1 rm1 r1 h1 => ?_
  exact hg.lg v dv s H1 sd m1 _ _ r1 (rs.mono t1) rm1 h1 fun tB H2 sd2 m2 t2 rs2 rm2 q2 _ => k1 tB H2 sd2 m2 (t1.trans t2) rs2 rm2 q2
def dSet (i : Nat) (e : DE) : DS := dAsg e (dgN i)
theorem gs_set {i : Nat} {x : Str} {e : Expr} {pos pos' : Pos} {de : DE} (hN : X.N.Nodup) (hi : X.N[i]? = some x) (hx : Loc X.env.scope x) (he : GE X e de) (hs : swapsWith e (some (.Name x pos')) pos.line X.env = pure false := by rfl) (hf : X.fn x = true ∨ X.env.scope.names.lookup x = some .local := by first | exact .inl rfl | exact .inr rfl | assumption) :
    GS X (.Assign [.Name x pos'] e pos) (dSet i de) := by
  obtain ⟨t, p, l⟩ := he.ex
  refine ⟨_, ps_set hN hi hx p hs hf, fun s H sd m Ed E rs rm h k1 _ _ _ => ?_⟩
  exact l s H sd m _ _ rs rm h fun v H1 dv m1 t1 rm1 r1 h1 => k1 _ H1 _ m1 t1 ((rs.mono t1).set r1 i) rm1 h1
def dSub3 : D → D → D → Mu → (Mu → Prop) → Prop := fun o i v m Q => match i with
  | .int k => ∃ a es, lstOf m o = some (a, es) ∧ ∃ j, ixN es.length k = some j ∧ Q (mset m a (.lst (es.set j v)))
  | _ => False
def dgSub (o i : DE) : DG := fun v s m Q => o s m fun ov9 m1 => i s m1 fun iv m2 => dSub3 ov9 iv v m2 fun m3 => Q s m3
theorem gg_sub {o i : Expr} {pos : Pos} {d1 d2 : DE} (ho : GE X o d1) (hi : GE X i d2) (ha : ∀ v, assign (.Subscript o i pos) X.env v = (do
      let ov9 ← holding [v] (eval o X.env)
      let iv ← holding [v, ov9] (eval i X.env)
      standAt pos
      holding [v, ov9, iv] (setItem ov9 iv v)
      release [v, ov9, iv] []) := by intro _; rfl) : GG X (.Subscript o i pos) (dgSub d1 d2) [] :=
  .of (pg_sub ho.pe hi.pe set_list ha) fun x dx s H sd m Qd Q rx rs rm h k => by
    refine liftE_le _ d1 s H sd m _ _ rs rm h fun v H1 dv m1 t1 rm1 r1 h1 => ?_
    refine liftE_le _ d2 s H1 sd m1 _ _ (rs.mono t1) rm1 h1 fun u H2 du m2 t2 rm2 r2 h2 => ?_
    cases r2 with
    | int z =>
      obtain ⟨a, es, e, j, e2, q⟩ := h2
      obtain ⟨rfl, rfl, _, ws, e3, r3⟩ := lst_rep rm2 (r1.mono t2) e
      have t12 := t1.trans t2
      exact ⟨a, ws, z, j, rfl, rfl, e3, by rw [← r3.length]; exact e2, k s _ sd _ (t12.trans (.lst e3)) (rs.mono (t12.trans (.lst e3))) (rm2.setL e3 (RepL.set (rx.mono t12) j r3)) q fun _ _ => rfl⟩
    | _ => exact h2.elim
def dAug (i : Nat) (e : DE) (r : D2) : DS := fun E s m => match s[i]? with | some (some x) => e s m fun y m1 => r x y m1 fun z m2 => E.nx (s.set i (some z)) m2 | _ => False
theorem gs_aug {i : Nat} {x : Str} {e : Expr} {pos pos' : Pos} {op : Operator} {ti : TIp} {r : D2} {de : DE} (hN : X.N.Nodup) (hi : X.N[i]? = some x) (hx : Loc X.env.scope x) (he : GE X e de) (ho : PIp X op ti) (lr : LR X.K ti r) (hf : X.fn x = true ∨ X.env.scope.names.lookup x = some .local := by first | exact .inl rfl | exact .inr rfl | assumption) :
    GS X (.AugAssign (.Name x pos') op e pos) (dAug i de r) := by
  obtain ⟨t, p, l⟩ := he.ex
  refine ⟨_, ps_aug hN hi hx p ho hf, fun s H sd m Ed E rs rm h k1 _ _ _ => ?_⟩
  unfold dAug at h
  split at h
  · rename_i d e1
    obtain ⟨v, e2, ra9⟩ := rs.at_ i d e1
    refine ⟨v, e2, l s H sd m _ _ rs rm h fun u H1 du m1 t1 rm1 r1 h1 => ?_⟩
    exact lr v u H1 d du m1 _ _ rm1 (ra9.mono t1) r1 h1 fun z H2 dz m2 t2 rm2 r2 h2 => k1 _ H2 _ m2 (t1.trans t2) ((rs.mono (t1.trans t2)).set r2 i) rm2 h2
  · exact h.elim
end
end PD
namespace PD
open PySem PySem.Spec PyProof.Rows L2
abbrev DI := Sd → Mu → (List D → (Mu → Prop) → Mu → Prop) → Prop
structure JOk (K : PySem.W.Frag) (J : It) (es : List D) (st : Mu → Prop) (H1 : Hp) : Prop where
  go : ∀ i H m, TX H1 H → RM K H m → st m → i < es.length → J.go i H
  yld : ∀ i H x H' m, TX H1 H → RM K H m → st m → i < es.length → J.yld i H x H' → ∃ d, es[i]? = some d ∧ TX H H' ∧ RM K H' m ∧ Rep K H' d x
  stop : ∀ i H m, TX H1 H → RM K H m → st m → es.length ≤ i → J.stop i H
def LI (K : PySem.W.Frag) (wi : TI) (di : DI) : Prop := ∀ s H sd m (Rd : List D → (Mu → Prop) → Mu → Prop) (R : It → Hp → Prop), RS K H sd s → RM K H m → di sd m Rd →
  (∀ J H1 es st m1, TX H H1 → RM K H1 m1 → JOk K J es st H1 → Rd es st m1 → R J H1) → wi s H R
structure GI (X : Cx) (tg iter : Expr) (wi : TI) (di : DI) : Prop where
  pi : PI X tg iter wi
  li : LI X.K wi di
def GIE (X : Cx) (tg iter : Expr) (di : DI) : Prop := ∃ wi, GI X tg iter wi di
/-- es walked -/
def dLoop (st : Mu → Prop) (g : DG) (tb : DS) (E : DEnds) : List D → Sd → Mu → Prop
  | [] => fun s m => st m ∧ E.nx s m
  | d :: es => fun s m => st m ∧ g d s m fun s2 m2 => tb { E with nx := dLoop st g tb E es, ct := dLoop st g tb E es, bk := E.nx } s2 m2
def dFor (di : DI) (g : DG) (tb : DS) : DS := fun E s m => di s m fun es st m1 => dLoop st g tb E es s m1
section
variable {X : Cx}
theorem gs_for {tg iter : Expr} {body : List Stmt} {pos : Pos} {di : DI} {dg : DG} {js : List Nat} {d : DS} (hp : PassesOwn (model X.prog X.w) X.A X.env X.xe) (hc : X.calm = true) (hi : GIE X tg iter di) (hg : GG X tg dg js) (hb : GSs X body d) (hs : ∀ x, foldedSetIterable iter X.env x = pure x := by intro _; rfl) :
    GS X (.For tg iter body [] pos) (dFor di dg d) := by
  obtain ⟨wi, hi⟩ := hi
  obtain ⟨tb, p, l⟩ := hb.ex
  refine ⟨_, ps_for hp hc hi.pi hg.pg p hs, fun s H sd m Ed E rs rm h k1 k2 k3 k4 => ?_⟩
  refine hi.li s H sd m _ _ rs rm h fun J H1 es st m1 t1 rm1 jo h1 => ?_
  refine ⟨fun i n s' H' => i ≤ es.length ∧ n = es.length - i ∧ ∃ sd' m', TX H1 H' ∧ RS X.K H' sd' s' ∧ RM X.K H' m' ∧ dLoop st dg d Ed (es.drop i) sd' m', ⟨es.length, Nat.zero_le _, by omega, sd, m1, .refl _, rs.mono t1, rm1, h1⟩, ?_⟩
  rintro i n s' H' ⟨hle, rfl, sd', m', t2, rs2, rm2, q⟩
  by_cases hlt : i < es.length
  · rw [List.drop_eq_getElem_cons hlt] at q
    obtain ⟨hst, q⟩ := q
    refine .inr ⟨jo.go i H' m' t2 rm2 hst hlt, fun s2 H2 => ∃ sd2 m2, TX H1 H2 ∧ RS X.K H2 sd2 s2 ∧ RM X.K H2 m2 ∧ dLoop st dg d Ed (es.drop (i + 1)) sd2 m2, fun s2 H2 ⟨sd2, m2, a, b, c, e⟩ => ⟨es.length - (i + 1), by omega, hlt, rfl, sd2, m2, a, b, c, e⟩, fun x H3 hy => ?_⟩
    obtain ⟨dx, e, t3, rm3, rx⟩ := jo.yld i H' x H3 m' t2 rm2 hst hlt hy
    rw [List.getElem?_eq_getElem hlt] at e
    cases e
    refine hg.lg x _ s' H3 sd' m' _ _ rx (rs2.mono t3) rm3 q fun s4 H4 sd4 m4 t4 rs4 rm4 q4 _ => ?_
    have t14 : TX H1 H4 := t2.trans (t3.trans t4)
    refine l s4 H4 sd4 m4 _ _ rs4 rm4 q4 (fun s5 H5 sd5 m5 t5 a b c => ⟨sd5, m5, t14.trans t5, a, b, c⟩) (fun v H5 dv m5 t5 a b c => k2 v H5 dv m5 (t1.trans (t14.trans t5)) a b c)
      (fun s5 H5 sd5 m5 t5 a b c => k1 s5 H5 sd5 m5 (t1.trans (t14.trans t5)) a b c) (fun s5 H5 sd5 m5 t5 a b c => ⟨sd5, m5, t14.trans t5, a, b, c⟩)
  · have e : i = es.length := by omega
    subst e
    rw [List.drop_length] at q
    exact .inl ⟨jo.stop _ H' m' t2 rm2 q.1 (Nat.le_refl _), k1 s' H' sd' m' (t1.trans t2) rs2 rm2 q.2⟩
def dISeq (a : DE) : DI := fun s m R => a s m fun x m1 => match x with
  | .tup ds => R ds (fun _ => True) m1
  | .rol ds => R ds (fun _ => True) m1
  | .ref p => ∃ ds, seqOf m1 (.ref p) = some ds ∧ R ds (fun m' => seqOf m' (.ref p) = some ds) m1
  | _ => False
theorem gi_seq {tg l : Expr} {a : DE} (h : GE X l a) : GIE X tg l (dISeq a) :=
  ⟨iSeq X.K (liftE X.K a), pi_seq h.pe, fun s H sd m Rd R rs rm hh k => by
    refine liftE_le _ a s H sd m _ _ rs rm hh fun v H1 dv m1 t1 rm1 r1 h1 => ?_
    cases r1 with
    | @tup ds p vs sa ra =>
      refine ⟨p, rfl, .inr ⟨vs, sa, k _ H1 ds (fun _ => True) m1 t1 rm1 ⟨fun i H' m' t' _ _ hi => ?_, fun i H' x H2 m' t' rm' _ _ hy => ?_, fun i H' m' t' _ _ hi => ?_⟩ h1⟩⟩
      · have hi' : i < vs.length := by rw [← ra.length]; exact hi
        exact ⟨vs, vs[i], t'.sqT sa, List.getElem?_eq_getElem hi'⟩
      · obtain ⟨rfl, f⟩ := hy
        obtain ⟨d, e, q⟩ := ra.getV (f _ (t'.sqT sa))
        exact ⟨d, e, .refl _, rm', q.mono t'⟩
      · exact ⟨vs, t'.sqT sa, by rw [← ra.length]; exact hi⟩
    | @rol ds p vs sa ra =>
      refine ⟨p, rfl, .inl ⟨vs, sa.sq, k _ H1 ds (fun _ => True) m1 t1 rm1 ⟨fun i H' m' t' _ _ hi => ?_, fun i H' x H2 m' t' rm' _ _ hy => ?_, fun i H' m' t' _ _ hi => ?_⟩ h1⟩⟩
      · have hi' : i < vs.length := by rw [← ra.length]; exact hi
        exact ⟨vs, vs[i], (t'.ro sa).sq, List.getElem?_eq_getElem hi'⟩
      · obtain ⟨rfl, f⟩ := hy
        obtain ⟨d, e, q⟩ := ra.getV (f _ (t'.ro sa).sq)
        exact ⟨d, e, .refl _, rm', q.mono t'⟩
      · exact ⟨vs, (t'.ro sa).sq, by rw [← ra.length]; exact hi⟩
    | ref p =>
      obtain ⟨ds, e, q⟩ := h1
      obtain ⟨vs, sl, r⟩ := ref_rep rm1 e
      refine ⟨p, rfl, .inl ⟨vs, sl, k _ H1 ds (fun m' => seqOf m' (.ref p) = some ds) m1 t1 rm1 ⟨fun i H' m' t' rm' st hi => ?_, fun i H' x H2 m' t' rm' st _ hy => ?_, fun i H' m' t' rm' st hi => ?_⟩ q⟩⟩
      · obtain ⟨ws, sl', r'⟩ := ref_rep rm' st
        have hi' : i < ws.length := by rw [← r'.length]; exact hi
        exact ⟨ws, ws[i], sl', List.getElem?_eq_getElem hi'⟩
      · obtain ⟨rfl, f⟩ := hy
        obtain ⟨ws, sl', r'⟩ := ref_rep rm' st
        obtain ⟨d, e, q⟩ := r'.getV (f _ sl')
        exact ⟨d, e, .refl _, rm', q⟩
      · obtain ⟨ws, sl', r'⟩ := ref_rep rm' st
        exact ⟨ws, sl', by rw [← r'.length]; exact hi⟩
    | _ => exact h1.elim⟩
def rangeD (lo : Int) (n : Nat) : List D := (List.range n).map fun (i : Nat) => .int (lo + (i : Int))
theorem jo_range {K : PySem.W.Frag} {lo : Int} {n : Nat} {H1 : Hp} : JOk K (Itr lo n) (rangeD lo n) (fun _ => True) H1 := by
  have hl : (rangeD lo n).length = n := by unfold rangeD; rw [List.length_map, List.length_range]
  refine ⟨fun i H m _ _ _ h => ?_, fun i H x H' m _ rm _ h hy => ?_, fun i H m _ _ _ h => ?_⟩
  · rw [hl] at h; exact h
  · obtain ⟨rfl, rfl⟩ := hy
    rw [hl] at h
    exact ⟨.int (lo + (i : Int)), by unfold rangeD; rw [List.getElem?_map, List.getElem?_range h]; rfl, .refl _, rm, .int _⟩
  · rw [hl] at h; exact h
def dIRng1 (a : DA) : DI := fun s m R => a s m fun ds m1 => match ds with
  | [.int j] => -(2 ^ 62) ≤ j ∧ j < 2 ^ 62 ∧ R (rangeD 0 j.toNat) (fun _ => True) m1
  | _ => False
def dIRng2 (a : DA) : DI := fun s m R => a s m fun ds m1 => match ds with
  | [.int i, .int j] => (-(2 ^ 62) ≤ i ∧ i < 2 ^ 62 ∧ -(2 ^ 62) ≤ j ∧ j < 2 ^ 62) ∧ R (rangeD i (j - i).toNat) (fun _ => True) m1
  | _ => False
theorem gi_rng1 {tg a : Expr} {p pos : Pos} {da : DA} (hg : Gl X "range") (hm : X.mg "range" = none) (ha : GA X [a] da) (hs : starEach [a] X.env = [(false, eval a X.env)] := by rfl) :
    GIE X tg (.Call (.Name "range" p) [a] [] pos) (dIRng1 da) := by
  obtain ⟨ta, q, l⟩ := ha.ex
  refine ⟨_, pi_range1 hg hm q hs, fun s H sd m Rd R rs rm h k => ?_⟩
  refine l s H sd m _ _ rs rm h fun vs H1 ds m1 t1 rm1 r1 h1 => ?_
  match ds, r1, h1 with
  | [.int j], r1, h1 =>
    obtain ⟨v, rfl, rv⟩ := repL1 r1
    cases rv
    exact ⟨j, rfl, h1.1, h1.2.1, k _ H1 _ _ m1 t1 rm1 jo_range h1.2.2⟩
def enumD (i : Nat) : List D → List D
  | [] => []
  | d :: ds => .tup [.int (i : Int), d] :: enumD (i + 1) ds
theorem enumD_len : ∀ (ds : List D) (i : Nat), (enumD i ds).length = ds.length
  | [], _ => rfl
  | d :: ds, i => by unfold enumD; rw [List.length_cons, List.length_cons, enumD_len ds]
theorem enumD_get : ∀ (ds : List D) (i j : Nat) {d : D}, ds[j]? = some d → (enumD i ds)[j]? = some (.tup [.int ((i + j : Nat) : Int), d])
  | [], _, _, _, h => by simp at h
  | d :: ds, i, 0, _, h => by
    have e := Option.some.inj h
    subst e; rfl
  | d :: ds, i, j + 1, e, h => by
    have z := enumD_get ds (i + 1) j (d := e) (by simpa using h)
    unfold enumD
    rw [List.getElem?_cons_succ, z]
    rw [show i + 1 + j = i + (j + 1) by omega]
def dIEnum (a : DA) : DI := fun s m R => a s m fun ds m1 => match ds with
  | [.tup es] => R (enumD 0 es) (fun _ => True) m1
  | [.ref p] => ∃ es, seqOf m1 (.ref p) = some es ∧ R (enumD 0 es) (fun m' => seqOf m' (.ref p) = some es) m1
  | _ => False
theorem enum_item {K : PySem.W.Frag} {i : Nat} {x : V} {d : D} {H : Hp} {T : Addr} {m : Mu} {es : List D} (rm : RM K H m) (hT : H T = none) (e : es[i]? = some d) (r : Rep K H d x) :
    ∃ d', (enumD 0 es)[i]? = some d' ∧ TX H (upd H T (.tup [.int (i : Nat), x])) ∧ RM K (upd H T (.tup [.int (i : Nat), x])) m ∧ Rep K (upd H T (.tup [.int (i : Nat), x])) d' (.ref T) := by
  refine ⟨_, enumD_get es 0 i e, .new hT, rm.skip hT, ?_⟩
  rw [Nat.zero_add]
  exact .tup upd_same (.cons (.int _) (.cons (r.mono (.new hT)) .nil))
theorem gi_enum {e : Expr} {p pos tpos : Pos} {elts : List Expr} {kk : Nat} {da : DA} (hg : Gl X "enumerate") (hm : X.mg "enumerate" = none) (ha : GA X [e] da) (hs : starEach [e] X.env = [(false, eval e X.env)] := by rfl) :
    GIE X (.Tuple elts kk tpos) (.Call (.Name "enumerate" p) [e] [] pos) (dIEnum da) := by
  obtain ⟨ta, q, l⟩ := ha.ex
  refine ⟨_, pi_enumT hg hm q hs, fun s H sd m Rd R rs rm h k => ?_⟩
  refine l s H sd m _ _ rs rm h fun vs H1 ds m1 t1 rm1 r1 h1 => ?_
  match ds, r1, h1 with
  | [.tup es], r1, h1 =>
    obtain ⟨v, rfl, rv⟩ := repL1 r1
    cases rv with
    | @tup _ a ws sa ra =>
      refine ⟨a, rfl, .inr ⟨ws, sa, k _ H1 _ (fun _ => True) m1 t1 rm1 ⟨fun i H' m' t' _ _ hi => ?_, fun i H' x H2 m' t' rm' _ _ hy => ?_, fun i H' m' t' _ _ hi => ?_⟩ h1⟩⟩
      · rw [enumD_len] at hi
        have hi' : i < ws.length := by rw [← ra.length]; exact hi
        exact ⟨ws, ws[i], t'.sqT sa, List.getElem?_eq_getElem hi'⟩
      · obtain ⟨T, y, rfl, hT, rfl, f⟩ := hy
        obtain ⟨d, e, q⟩ := ra.getV (f _ (t'.sqT sa))
        exact enum_item rm' hT e (q.mono t')
      · rw [enumD_len] at hi
        exact ⟨ws, t'.sqT sa, by rw [← ra.length]; exact hi⟩
  | [.ref p], r1, h1 =>
    obtain ⟨es, e, q⟩ := h1
    obtain ⟨v, rfl, rv⟩ := repL1 r1
    cases rv
    obtain ⟨ws, sl, r⟩ := ref_rep rm1 e
    refine ⟨p, rfl, .inl ⟨ws, sl, k _ H1 _ (fun m' => seqOf m' (.ref p) = some es) m1 t1 rm1 ⟨fun i H' m' t' rm' st hi => ?_, fun i H' x H2 m' t' rm' st _ hy => ?_, fun i H' m' t' rm' st hi => ?_⟩ q⟩⟩
    · rw [enumD_len] at hi
      obtain ⟨us, sl', r'⟩ := ref_rep rm' st
      have hi' : i < us.length := by rw [← r'.length]; exact hi
      exact ⟨us, us[i], sl', List.getElem?_eq_getElem hi'⟩
    · obtain ⟨T, y, rfl, hT, rfl, f⟩ := hy
      obtain ⟨us, sl', r'⟩ := ref_rep rm' st
      obtain ⟨d, e, q⟩ := r'.getV (f _ sl')
      exact enum_item rm' hT e q
    · rw [enumD_len] at hi
      obtain ⟨us, sl', r'⟩ := ref_rep rm' st
      exact ⟨us, sl', by rw [← r'.length]; exact hi⟩
def dWhile (c : DT) (tb : DS) : DS := fun E s m => ∃ W : Nat → Sd → Mu → Prop, (∃ n, W n s m) ∧ ∀ n s m, W n s m →
  c s m fun b m1 => if b = true then tb { E with nx := fun s' m' => ∃ n', n' < n ∧ W n' s' m', ct := fun s' m' => ∃ n', n' < n ∧ W n' s' m', bk := E.nx } s m1 else E.nx s m1
theorem gs_while {c : Expr} {body : List Stmt} {pos : Pos} {dc : DT} {d : DS} (hp : PassesOwn (model X.prog X.w) X.A X.env X.xe) (hc : GT X c dc) (hb : GSs X body d) : GS X (.While c body [] pos) (dWhile dc d) := by
  obtain ⟨tc, p, l⟩ := hc.ex
  obtain ⟨tb, q, l2⟩ := hb.ex
  refine ⟨_, ps_while hp p q, fun s H sd m Ed E rs rm h k1 k2 k3 k4 => ?_⟩
  obtain ⟨W, ⟨n0, w0⟩, turn⟩ := h
  refine ⟨fun n s' H' => ∃ sd' m', TX H H' ∧ RS X.K H' sd' s' ∧ RM X.K H' m' ∧ W n sd' m', ⟨n0, sd, m, .refl _, rs, rm, w0⟩, ?_⟩
  rintro n s' H' ⟨sd', m', t1, rs1, rm1, w⟩
  refine l s' H' sd' m' _ _ rs1 rm1 (turn n sd' m' w) fun b H2 m2 t2 rm2 h2 => ?_
  have t12 : TX H H2 := t1.trans t2
  cases b with
  | true =>
    refine ⟨fun s3 H3 => ∃ n', n' < n ∧ ∃ sd3 m3, TX H H3 ∧ RS X.K H3 sd3 s3 ∧ RM X.K H3 m3 ∧ W n' sd3 m3, fun s3 H3 ⟨n', a, b⟩ => ⟨n', a, b⟩, ?_⟩
    exact l2 s' H2 sd' m2 _ _ (rs1.mono t2) rm2 h2 (fun s5 H5 sd5 m5 t5 a b ⟨n', c, e⟩ => ⟨n', c, sd5, m5, t12.trans t5, a, b, e⟩) (fun v H5 dv m5 t5 a b c => k2 v H5 dv m5 (t12.trans t5) a b c)
      (fun s5 H5 sd5 m5 t5 a b c => k1 s5 H5 sd5 m5 (t12.trans t5) a b c) (fun s5 H5 sd5 m5 t5 a b ⟨n', c, e⟩ => ⟨n', c, sd5, m5, t12.trans t5, a, b, e⟩)
  | false => exact k1 s' H2 sd' m2 t12 (rs1.mono t2) rm2 h2
def wipeD (s : Sd) : List Nat → Sd
  | [] => s
  | v :: vs => (wipeD s vs).set v none
theorem RS.wipe {K : PySem.W.Frag} {H : Hp} {sd : Sd} {s : L2.St} (r : RS K H sd s) : ∀ vs : List Nat, RS K H (wipeD sd vs) (wipe s vs)
  | [] => r
  | v :: vs => by
    have ih := RS.wipe r vs
    unfold wipeD L2.wipe
    refine ⟨by rw [List.length_set, List.length_set]; exact ih.len, fun i d e => ?_⟩
    rw [List.getElem?_set] at e
    rw [List.getElem?_set]
    by_cases hv : v = i
    · rw [if_pos hv] at e
      split at e
      · cases e
      · cases e
    · rw [if_neg hv] at e ⊢
      exact ih.at_ i d e
theorem wipe_wipe (s : L2.St) (vs : List Nat) : wipe (wipe s vs) vs = wipe s vs := by
  have go : ∀ ws : List Nat, (∀ w ∈ ws, w ∈ vs) → wipe (wipe s ws) vs = wipe s vs := fun ws => by
    induction ws with
    | nil => intro _; rfl
    | cons w ws ih =>
      intro h
      show wipe ((wipe s ws).set w none) vs = wipe s vs
      rw [wipe_set (h w (List.mem_cons_self ..)), ih fun x hx => h x (List.mem_cons_of_mem _ hx)]
  exact go vs fun _ h => h
def dYes : DT := fun _ m Q => Q true m
structure GTs (X : Cx) (ifs : List Expr) (d : DT) : Prop where
  mk ::
  pts : PTs X ifs (liftT X.K d)
theorem gts_nil : GTs X [] dYes := ⟨⟨fun pins s σ H Q I ⟨sd, m, Qd, rs, rm, h, k⟩ => pts_nil.run pins s σ H Q I (k true H m (.refl H) rm h)⟩⟩
theorem gts_one {c : Expr} {d : DT} (h : GT X c d) : GTs X [c] d := ⟨pts_one h.pt⟩
def dComp (st : Mu → Prop) (g : DG) (t : DT) (e : DE) (p : Addr) (s : Sd) (Q : DK) : List D → List D → Mu → Prop
  | [], acc => fun m => st m ∧ m p = some (.lst acc) ∧ Q (.ref p) m
  | d :: es, acc => fun m => st m ∧ g d s m fun s2 m2 => t s2 m2 fun b m3 =>
      if b = true then e s2 m3 fun y m4 => m4 p = some (.lst acc) ∧ acc.length < sizeLine ∧ dComp st g t e p s Q es (acc ++ [y]) (mset m4 p (.lst (acc ++ [y]))) else dComp st g t e p s Q es acc m3
def dLc (di : DI) (g : DG) (t : DT) (e : DE) (vs : List Nat) : DE := fun s m Q => di s m fun es st m1 => ∀ p, m1 p = none → dComp st g t e p (wipeD s vs) Q es [] (mset m1 p (.lst []))
theorem le_lc {s : L2.St} {H : Hp} {Q : VK} {sd : Sd} {m : Mu} {Qd : DK} {tg iter : Expr} {vs : List Nat} {wi : TI} {di : DI} {g : TG} {dg : DG} {js : List Nat} {dt : DT} {de : DE} (hi : GI X tg iter wi di) (lg : LG X.K g dg js) (hj : ∀ j ∈ js, j ∈ vs)
    (rs : RS X.K H sd s) (rm : RM X.K H m) (h : dLc di dg dt de vs sd m Qd) (k : ∀ v H' dv m', TX H H' → RM X.K H' m' → Rep X.K H' dv v → Qd dv m' → Q v H') : tLc wi g (liftT X.K dt) (liftE X.K de) vs s H Q := by
  refine hi.li s H sd m _ _ rs rm h fun J H1 es st m1 t1 rm1 jo h1 => ?_
  intro p hp
  have h2 := h1 p (rm1.fresh hp)
  have tn : TX H1 (upd H1 p (.lst [])) := .new hp
  refine ⟨fun i n H' => i ≤ es.length ∧ n = es.length - i ∧ ∃ m' acc, TX H1 H' ∧ RM X.K H' m' ∧ dComp st dg dt de p (wipeD sd vs) Qd (es.drop i) acc m', ⟨es.length, Nat.zero_le _, by omega, _, [], tn, rm1.newL hp .nil, h2⟩, ?_⟩
  rintro i n H' ⟨hle, rfl, m', acc, t2, rm2, q⟩
  by_cases hlt : i < es.length
  · rw [List.drop_eq_getElem_cons hlt] at q
    obtain ⟨hst, q⟩ := q
    refine .inr ⟨jo.go i H' m' t2 rm2 hst hlt, fun H2 => ∃ m2 acc, TX H1 H2 ∧ RM X.K H2 m2 ∧ dComp st dg dt de p (wipeD sd vs) Qd (es.drop (i + 1)) acc m2, fun H2 ⟨m2, acc, a, b, e⟩ => ⟨es.length - (i + 1), by omega, hlt, rfl, m2, acc, a, b, e⟩, fun x H3 hy => ?_⟩
    obtain ⟨dx, e, t3, rm3, rx⟩ := jo.yld i H' x H3 m' t2 rm2 hst hlt hy
    rw [List.getElem?_eq_getElem hlt] at e
    cases e
    refine lg x _ (wipe s vs) H3 (wipeD sd vs) m' _ _ rx ((rs.mono (t1.trans (t2.trans t3))).wipe _) rm3 q fun s4 H4 sd4 m4 t4 rs4 rm4 q4 ow => ?_
    refine ⟨by rw [ow _ hj, wipe_wipe], ?_⟩
    have t14 : TX H1 H4 := t2.trans (t3.trans t4)
    refine liftT_le _ dt s4 H4 sd4 m4 _ _ rs4 rm4 q4 fun b H5 m5 t5 rm5 q5 => ?_
    cases b with
    | true =>
      show liftE X.K de s4 H5 _
      refine liftE_le _ de s4 H5 sd4 m5 _ _ (rs4.mono t5) rm5 q5 fun y H6 dy m6 t6 rm6 ry q6 => ?_
      obtain ⟨e6, hz, q6⟩ := q6
      obtain ⟨ws, e7, r7⟩ := rm6 p _ e6
      exact ⟨ws, e7, by rw [← r7.length]; exact hz, _, acc ++ [dy], t14.trans (t5.trans (t6.trans (.lst e7))), rm6.setL e7 (r7.append (.cons ry .nil)), q6⟩
    | false =>
      exact ⟨m5, acc, t14.trans t5, rm5, q5⟩
  · have e : i = es.length := by omega
    subst e
    rw [List.drop_length] at q
    exact .inl ⟨jo.stop _ H' m' t2 rm2 q.1 (Nat.le_refl _), k _ H' _ m' (t1.trans t2) rm2 (.ref p) q.2.2⟩
theorem ge_lc {elt tg iter : Expr} {ifs : List Expr} {scope : Scope} {own : List (Str × Nat)} {pos : Pos} {di : DI} {dg : DG} {js : List Nat} {dt : DT} {de : DE} (hc : X.calm = true) (hN : X.N.Nodup) (hi : GIE X tg iter di) (ok : BlkOk X.N X.env.scope scope own)
    (hg : ∀ (s : Shared) (H : Hp) (C : Addr) (cl : List (Str × Addr)) (fp : List Addr), GG (X.blk s H scope (compEnvC scope cl C X.env) fp) tg dg js) (ht : ∀ (s : Shared) (H : Hp) (C : Addr) (cl : List (Str × Addr)) (fp : List Addr), GTs (X.blk s H scope (compEnvC scope cl C X.env) fp) ifs dt)
    (he : ∀ (s : Shared) (H : Hp) (C : Addr) (cl : List (Str × Addr)) (fp : List Addr), GE (X.blk s H scope (compEnvC scope cl C X.env) fp) elt de) (hj : ∀ j ∈ js, j ∈ own.map (·.2)) (hs : ∀ x, foldedSetIterable iter X.env x = pure x := by intro _; rfl) :
    GE X (.ListComp elt [⟨tg, iter, ifs, 0⟩] scope pos) (dLc di dg dt de (own.map (·.2))) := by
  obtain ⟨wi, hi⟩ := hi
  refine ⟨⟨fun pins s0 s H Q I ⟨sd, m, Qd, rs, rm, h, k⟩ => (pe_lc (g := liftG X.K dg js) (tt := liftT X.K dt) (te := liftE X.K de) hc hN hi.pi ok (fun s H C cl fp => (hg s H C cl fp).pg) (fun s H C cl fp => (ht s H C cl fp).pts) (fun s H C cl fp => (he s H C cl fp).pe) hs).run pins s0 s H Q I ?_⟩⟩
  exact le_lc hi (hg s0 H 0 [] []).lg hj rs rm h k
theorem gs_setLc {i : Nat} {y : Str} {py spos : Pos} {elt tg iter : Expr} {ifs : List Expr} {scope : Scope} {own : List (Str × Nat)} {pos : Pos} {di : DI} {dg : DG} {js : List Nat} {dt : DT} {de : DE} (hc : X.calm = true) (hN : X.N.Nodup) (hy : X.N[i]? = some y) (hyl : X.env.scope.names.lookup y = some .local)
    (hsw : swapsWith (.ListComp elt [⟨tg, iter, ifs, 0⟩] scope pos) (some (.Name y py)) spos.line X.env = pure true) (hi : GIE X tg iter di) (ok : BlkOk X.N X.env.scope scope own)
    (hg : ∀ (s : Shared) (H : Hp) (C : Addr) (cl : List (Str × Addr)) (fp : List Addr), GG (X.blk s H scope (compEnvC scope cl C X.env) fp) tg dg js) (ht : ∀ (s : Shared) (H : Hp) (C : Addr) (cl : List (Str × Addr)) (fp : List Addr), GTs (X.blk s H scope (compEnvC scope cl C X.env) fp) ifs dt)
    (he : ∀ (s : Shared) (H : Hp) (C : Addr) (cl : List (Str × Addr)) (fp : List Addr), GE (X.blk s H scope (compEnvC scope cl C X.env) fp) elt de) (hj : ∀ j ∈ js, j ∈ own.map (·.2)) (hs : ∀ x, foldedSetIterable iter X.env x = pure x := by intro _; rfl) :
    GS X (.Assign [.Name y py] (.ListComp elt [⟨tg, iter, ifs, 0⟩] scope pos) spos) (dSet i (dLc di dg dt de (own.map (·.2)))) := by
  obtain ⟨wi, hi⟩ := hi
  have P : PS X (.Assign [.Name y py] (.ListComp elt [⟨tg, iter, ifs, 0⟩] scope pos) spos) (fun E s H => ∃ sd m Ed, RS X.K H sd s ∧ RM X.K H m ∧ dSet i (dLc di dg dt de (own.map (·.2))) Ed sd m ∧
      ∀ s' H' sd' m', TX H H' → RS X.K H' sd' s' → RM X.K H' m' → Ed.nx sd' m' → E.nx s' H') :=
    ⟨fun pins s0 s H E I ⟨sd, m, Ed, rs, rm, h, k⟩ => (ps_setLc (g := liftG X.K dg js) (tt := liftT X.K dt) (te := liftE X.K de) hc hN hy hyl hsw hi.pi ok (fun s H C cl fp => (hg s H C cl fp).pg) (fun s H C cl fp => (ht s H C cl fp).pts) (fun s H C cl fp => (he s H C cl fp).pe) hs).run pins s0 s H E I
      (le_lc (Qd := fun x m1 => Ed.nx (sd.set i (some x)) m1) hi (hg s0 H 0 [] []).lg hj rs rm h fun v H' dv m' t rm' rv q => k _ H' _ m' t ((rs.mono t).set rv i) rm' q)⟩
  exact ⟨_, P, fun s H sd m Ed E rs rm h k1 _ _ _ => ⟨sd, m, Ed, rs, rm, h, k1⟩⟩
theorem lr_ip {K : PySem.W.Frag} {f : Int → Int → Int} : LR K (ipI f) (dInt2 (fun _ _ => True) f) := fun x y H dx dy m Qd Q rm rx ry h k => by
  cases rx with
  | int i =>
    cases ry with
    | int j => exact ⟨i, j, rfl, rfl, k _ H _ m (.refl H) rm (.int _) h.2⟩
    | _ => exact h.elim
  | _ => exact h.elim
end
end PD
namespace PD
open PySem PySem.Spec PyProof.Rows L2
def startD (N : List Str) (ds : List D) : Sd := ds.map some ++ List.replicate (N.length - ds.length) none
def endsOf (Qd : DK) : DEnds := { nx := fun _ m' => ∃ m'', Sub m'' m' ∧ Qd .non m'', rt := fun v m' => ∃ m'', Sub m'' m' ∧ Qd v m'' }
theorem rs_start {K : PySem.W.Frag} {H : Hp} {N : List Str} {ds : List D} {vs : List V} (r : RepL K H ds vs) : RS K H (startD N ds) (L2.start N vs) := by
  refine ⟨by unfold startD L2.start; simp [r.length], fun i d e => ?_⟩
  unfold startD at e
  unfold L2.start
  have hl := r.length
  by_cases h : i < ds.length
  · rw [List.getElem?_append_left (by rw [List.length_map]; exact h), List.getElem?_map, List.getElem?_eq_getElem h] at e
    cases e
    obtain ⟨v, e2, q⟩ := r.get (List.getElem?_eq_getElem h)
    refine ⟨v, ?_, q⟩
    rw [List.getElem?_append_left (by rw [List.length_map]; omega), List.getElem?_map, e2]
    rfl
  · rw [List.getElem?_append_right (by rw [List.length_map]; omega), List.getElem?_replicate] at e
    split at e
    · cases e
    · cases e
section
variable {P : Program} {w : World} {K : PySem.W.Frag} {mg : Str → Option Value} {base : Heap}
theorem fn_ok {x qual : Str} {st : Stmt} {f : Addr} {fd : FuncData} {N ps : List Str} {k : Nat} {sd : SpD} {d : DS} (F : Fun K x qual st f fd) (S : FnScope N ps (defScope st))
    (hb : ∀ (cdv : Value) (A : Around) (outer : List Env) (s : Shared) (H : Hp) (E : XK), Room k (A.deeper (envOfC qual (defScope st) s.heap.objs.size f cdv)) →
      GSs (cxOf CX0 P w K mg base N qual (defScope st) f cdv A outer s H E).nox (defBody st) d)
    (hd : ∀ ds m Qd, sd ds m Qd → d (endsOf Qd) (startD N ds) m) : FnOk P w K mg base CX0 (k + 1) f fd ps (spL K ps.length sd) := by
  refine F.ok S (fun vs H Q E ⟨ds, m, Qd, r, rm, h, _⟩ => by rw [← r.length]; exact h.1) fun cdv A outer s H vs Q E hr ⟨ds, m, Qd, r, rm, ⟨_, h⟩, kq⟩ => ?_
  obtain ⟨t, p, l⟩ := (hb cdv A outer s H E hr).ex
  refine ⟨t, p, ?_⟩
  refine l (L2.start N vs) H (startD N ds) m (endsOf Qd) _ (rs_start r) rm (hd ds m Qd h) ?_ ?_ ?_ ?_
  · intro s' H' sd' m' t' rs' rm' ⟨m'', sb, q⟩
    exact kq .non H' .non m'' t' (rm'.sub sb) .non q
  · intro v H' dv m' t' rm' rv ⟨m'', sb, q⟩
    exact kq v H' dv m'' t' (rm'.sub sb) rv q
  · intro _ _ _ _ _ _ _ h; exact h.elim
  · intro _ _ _ _ _ _ _ h; exact h.elim
/-- any function whose keywords are its parameters in their order -/
theorem kw_all {x qual : Str} {st : Stmt} {f : Addr} {fd : FuncData} {ps : List Str} (F : Fun K x qual st f fd)
    (h : ∀ (kV doc pm : Value) (an : Option Addr) (cdv ct : Value) (ws : List Value), ws.length = ps.length → bindArgs (PySem.W.fnOf x qual (defArgs st) (defBody st) (defScope st) .none kV doc pm an cdv ct) ⟨[], ps.zip ws⟩ = pure (ps.zip ws)) : KwAll K fd ps ps := by
  obtain ⟨oc, od, kV, doc, pm, an, cdv, ct, osl, rfl, lk, hcd⟩ := F.ex
  refine ⟨fun s us ws hK hl => ?_, fun {vs us zs ws} r rz => ?_⟩
  · cases us with
    | nil => exact .of_eq (h kV doc pm an cdv ct ws hl)
    | cons u us =>
      have e : gK ps.length (u :: us) ws = List.replicate (ps.length + 1) Value.none := rfl
      rw [e, List.length_replicate] at hl
      exact absurd hl (Nat.succ_ne_self _)
  · cases r with
    | nil => exact rz
    | cons a b =>
      show Vals (List.replicate (ps.length + 1) V.non) (List.replicate (ps.length + 1) Value.none)
      generalize ps.length + 1 = n
      induction n with
      | zero => exact .nil
      | succ n ih => exact .cons rfl ih
end
end PD
namespace PD
open PySem PySem.Spec PyProof.Rows L2
section
variable {m : Mu} {a b : Str} {i j : Int} {p q : Bool} {xs ys : List D} {x y z u v : D} {A : Addr}
theorem seqOf_tup : seqOf m (.tup xs) = some xs := rfl
theorem seqOf_rol : seqOf m (.rol xs) = some xs := rfl
theorem seqOf_ref (h : m A = some (.lst xs)) : seqOf m (.ref A) = some xs := by unfold seqOf; simp only [h]
theorem seqW_tup : seqW m (.tup xs) = some xs := rfl
theorem seqW_ref (h : m A = some (.lst xs)) : seqW m (.ref A) = some xs := by unfold seqW; simp only [h]
theorem lstOf_ref (h : m A = some (.lst xs)) : lstOf m (.ref A) = some (A, xs) := by unfold lstOf; simp only [h]
theorem eqK_ss : eqK m (.str a) (.str b) = some (a == b) := rfl
theorem eqK_ii : eqK m (.int i) (.int j) = some (i == j) := rfl
theorem eqK_bb : eqK m (.bl p) (.bl q) = some (p == q) := rfl
theorem eqK_nn : eqK m .non .non = some true := rfl
theorem eqK_ts : eqK m (.tup xs) (.str b) = some false := rfl
theorem eqK_st : eqK m (.str b) (.tup xs) = some false := rfl
theorem eqK_ti : eqK m (.tup xs) (.int i) = some false := rfl
theorem eqK_is : eqK m (.int i) (.str b) = some false := rfl
theorem eqK_ns : eqK m .non (.str b) = some false := rfl
theorem flatD_str : flatD (.str a) = true := rfl
theorem flatD_int : flatD (.int i) = true := rfl
theorem flatD_bl : flatD (.bl p) = true := rfl
theorem flatD_non : flatD .non = true := rfl
theorem isNon_non : isNon .non = true := rfl
theorem isNon_bl : isNon (.bl p) = false := rfl
theorem isNon_int : isNon (.int i) = false := rfl
theorem isNon_str : isNon (.str a) = false := rfl
theorem isNon_tup : isNon (.tup xs) = false := rfl
theorem tyD_non : tyD m .non = some "NoneType" := rfl
theorem tyD_bl : tyD m (.bl p) = some "bool" := rfl
theorem tyD_int : tyD m (.int i) = some "int" := rfl
theorem tyD_str : tyD m (.str a) = some "str" := rfl
theorem tyD_tup : tyD m (.tup xs) = some "tuple" := rfl
theorem truD_bl : truD m (.bl p) = some p := rfl
theorem truD_int : truD m (.int i) = some (i != 0) := rfl
theorem truD_tup : truD m (.tup xs) = some (!xs.isEmpty) := rfl
theorem truD_ref (h : m A = some (.lst xs)) : truD m (.ref A) = some (!xs.isEmpty) := by
  show (seqOf m (.ref A)).map _ = _
  rw [seqOf_ref h]; rfl
theorem atI_0 {α : Type} {x : α} {xs : List α} : atI (x :: xs) 0 = some x := atI_nat (j := 0) rfl
theorem atI_1 {α : Type} {x y : α} {xs : List α} : atI (x :: y :: xs) 1 = some y := atI_nat (j := 1) rfl
theorem atI_2 {α : Type} {x y z : α} {xs : List α} : atI (x :: y :: z :: xs) 2 = some z := atI_nat (j := 2) rfl
theorem atI_3 {α : Type} {x y z u : α} {xs : List α} : atI (x :: y :: z :: u :: xs) 3 = some u := atI_nat (j := 3) rfl
theorem atI_4 {α : Type} {x y z u v : α} {xs : List α} : atI (x :: y :: z :: u :: v :: xs) 4 = some v := atI_nat (j := 4) rfl
theorem atI_m1 {α : Type} {x : α} : atI [x] (-1) = some x := atI_last [] x
theorem atI_m2 {α : Type} {x y : α} : atI [x, y] (-1) = some y := atI_last [x] y
theorem atI_m3 {α : Type} {x y z : α} : atI [x, y, z] (-1) = some z := atI_last [x, y] z
theorem ixN_0 {n : Nat} : ixN (n + 1) 0 = some 0 := by unfold ixN; rw [if_pos (by omega), if_pos (by omega)]; rfl
theorem ixN_40 : ixN 4 0 = some 0 := rfl
theorem ixN_41 : ixN 4 1 = some 1 := rfl
theorem ixN_42 : ixN 4 2 = some 2 := rfl
theorem ixN_43 : ixN 4 3 = some 3 := rfl
theorem seqI_0 {n : Nat} : seqIndex? 0 (n + 1) = some 0 := (ixN_seq ixN_0).1
theorem mset_skip {m : Mu} {a b : Addr} {o o' : MO} (h : b ≠ a) (e : m b = some o) : mset m a o' b = some o := by rw [mset_ne h]; exact e
section
variable {Q : DK} {s : Sd} {B : Addr}
theorem dSub_i : dSub (.int i) (.int j) m Q = Q (.int (i - j)) m := rfl
theorem dInt2_i {C : Int → Int → Prop} {g : Int → Int → Int} : dInt2 C g (.int i) (.int j) m Q = (C i j ∧ Q (.int (g i j)) m) := rfl
theorem dNeg_i : dNeg (.int i) m Q = Q (.int (-i)) m := rfl
theorem dCmp_i {g : Int → Int → Bool} : dCmp g (.int i) (.int j) m Q = Q (.bl (g i j)) m := rfl
theorem dIsN_n : dIsN x .non m Q = Q (.bl (isNon x)) m := rfl
theorem dNotN_n : dNotN x .non m Q = Q (.bl (!isNon x)) m := rfl
theorem dInG_t {f : Bool → Bool} : dInG f x (.tup xs) m Q = (flatD x = true ∧ xs.all flatD = true ∧ Q (.bl (f (inF x xs))) m) := propext ⟨fun ⟨_, e, h⟩ => by cases e; exact h, fun h => ⟨_, rfl, h⟩⟩
theorem dInG_r {f : Bool → Bool} : dInG f x (.ref A) m Q = ∃ ds, seqOf m (.ref A) = some ds ∧ flatD x = true ∧ ds.all flatD = true ∧ Q (.bl (f (inF x ds))) m := rfl
theorem dIx_s : dIx (.str a) (.int i) m Q = (a.length ≤ sizeLine ∧ ∃ c, atI a.cps.toList i = some c ∧ Q (.str ⟨#[c]⟩) m) := rfl
theorem dIx_t : dIx (.tup xs) (.int i) m Q = ∃ d, atI xs i = some d ∧ Q d m := propext ⟨fun ⟨_, e, h⟩ => by cases e; exact h, fun h => ⟨_, rfl, h⟩⟩
theorem dIx_r : dIx (.ref A) (.int i) m Q = ∃ ds, seqOf m (.ref A) = some ds ∧ ∃ d, atI ds i = some d ∧ Q d m := rfl
theorem dLen_s : dLen [.str a] m Q = (a.length ≤ sizeLine ∧ Q (.int a.length) m) := rfl
theorem dLen_t : dLen [.tup xs] m Q = Q (.int xs.length) m := propext ⟨fun ⟨_, e, h⟩ => by cases e; exact h, fun h => ⟨_, rfl, h⟩⟩
theorem dLen_r : dLen [.ref A] m Q = ∃ es, seqOf m (.ref A) = some es ∧ Q (.int es.length) m := rfl
theorem dTuple_1 : dTuple [x] m Q = ∃ es, seqOf m x = some es ∧ Q (.tup es) m := rfl
theorem dList_1 : dList [x] m Q = ∃ es, seqOf m x = some es ∧ ∀ p, m p = none → Q (.ref p) (mset m p (.lst es)) := rfl
theorem dInt1_i : dInt1 [.int i] m Q = Q (.int i) m := rfl
def dRevV (x : D) (m1 : Mu) (Q : DK) : Prop := match x with
  | .tup ds => Q (.tup ds.reverse) m1
  | .ref a => ∃ ds, seqOf m1 (.ref a) = some ds ∧ ∀ p, m1 p = none → Q (.ref p) (mset m1 p (.lst ds.reverse))
  | _ => False
theorem dRev_v {de : DE} : dRev de s m Q = de s m fun x m1 => dRevV x m1 Q := rfl
theorem dRevV_t : dRevV (.tup xs) m Q = Q (.tup xs.reverse) m := rfl
theorem dRevV_r : dRevV (.ref A) m Q = ∃ ds, seqOf m (.ref A) = some ds ∧ ∀ p, m p = none → Q (.ref p) (mset m p (.lst ds.reverse)) := rfl
variable {R : List D → (Mu → Prop) → Mu → Prop}
def dISeqV (x : D) (m1 : Mu) (R : List D → (Mu → Prop) → Mu → Prop) : Prop := match x with
  | .tup ds => R ds (fun _ => True) m1
  | .rol ds => R ds (fun _ => True) m1
  | .ref p => ∃ ds, seqOf m1 (.ref p) = some ds ∧ R ds (fun m' => seqOf m' (.ref p) = some ds) m1
  | _ => False
theorem dISeq_v {de : DE} : dISeq de s m R = de s m fun x m1 => dISeqV x m1 R := rfl
theorem dISeqV_t : dISeqV (.tup xs) m R = R xs (fun _ => True) m := rfl
theorem dISeqV_l : dISeqV (.rol xs) m R = R xs (fun _ => True) m := rfl
theorem dISeqV_r : dISeqV (.ref A) m R = ∃ ds, seqOf m (.ref A) = some ds ∧ R ds (fun m' => seqOf m' (.ref A) = some ds) m := rfl
def dIEnumV (ds : List D) (m1 : Mu) (R : List D → (Mu → Prop) → Mu → Prop) : Prop := match ds with
  | [.tup es] => R (enumD 0 es) (fun _ => True) m1
  | [.ref p] => ∃ es, seqOf m1 (.ref p) = some es ∧ R (enumD 0 es) (fun m' => seqOf m' (.ref p) = some es) m1
  | _ => False
theorem dIEnum_v {da : DA} : dIEnum da s m R = da s m fun ds m1 => dIEnumV ds m1 R := rfl
theorem dIEnumV_t : dIEnumV [.tup xs] m R = R (enumD 0 xs) (fun _ => True) m := rfl
theorem dIEnumV_r : dIEnumV [.ref A] m R = ∃ es, seqOf m (.ref A) = some es ∧ R (enumD 0 es) (fun m' => seqOf m' (.ref A) = some es) m := rfl
theorem dPop_0 : dPop x [] m Q = ∃ a es d, lstOf m x = some (a, es) ∧ es[es.length - 1]? = some d ∧ Q d (mset m a (.lst es.dropLast)) := rfl
theorem dPop_i : dPop x [.int i] m Q = ∃ a es, lstOf m x = some (a, es) ∧ -(2 ^ 63) ≤ i ∧ i < 2 ^ 63 ∧ ∃ k, seqIndex? i es.length = some k ∧ ∃ d, es[k]? = some d ∧ Q d (mset m a (.lst (es.eraseIdx k))) := rfl
theorem dAppend_1 : dAppend x [y] m Q = ∃ a es, lstOf m x = some (a, es) ∧ es.length < sizeLine ∧ Q .non (mset m a (.lst (es ++ [y]))) := rfl
theorem dExtend_1 : dExtend x [y] m Q = ∃ a es zs, lstOf m x = some (a, es) ∧ seqW m y = some zs ∧ es.length + zs.length ≤ sizeLine ∧ Q .non (mset m a (.lst (es ++ zs))) := rfl
theorem dSub3_i {v : D} {R : Mu → Prop} : dSub3 x (.int i) v m R = ∃ a es, lstOf m x = some (a, es) ∧ ∃ j, ixN es.length i = some j ∧ R (mset m a (.lst (es.set j v))) := rfl
def dRng1V (ds : List D) (m1 : Mu) (R : List D → (Mu → Prop) → Mu → Prop) : Prop := match ds with
  | [.int j] => -(2 ^ 62) ≤ j ∧ j < 2 ^ 62 ∧ R (rangeD 0 j.toNat) (fun _ => True) m1
  | _ => False
theorem dIRng1_v {da : DA} : dIRng1 da s m R = da s m fun ds m1 => dRng1V ds m1 R := rfl
theorem dRng1V_i : dRng1V [.int i] m R = (-(2 ^ 62) ≤ i ∧ i < 2 ^ 62 ∧ R (rangeD 0 i.toNat) (fun _ => True) m) := rfl
end
theorem isT_NoneType_bool : isT "NoneType" "bool" = false := by decide
theorem isT_NoneType_int : isT "NoneType" "int" = false := by decide
theorem isT_NoneType_str : isT "NoneType" "str" = false := by decide
theorem isT_NoneType_tuple : isT "NoneType" "tuple" = false := by decide
theorem isT_NoneType_list : isT "NoneType" "list" = false := by decide
theorem isT_bool_bool : isT "bool" "bool" = true := by decide
theorem isT_bool_int : isT "bool" "int" = true := by decide
theorem isT_bool_str : isT "bool" "str" = false := by decide
theorem isT_bool_tuple : isT "bool" "tuple" = false := by decide
theorem isT_bool_list : isT "bool" "list" = false := by decide
theorem isT_int_bool : isT "int" "bool" = false := by decide
theorem isT_int_int : isT "int" "int" = true := by decide
theorem isT_int_str : isT "int" "str" = false := by decide
theorem isT_int_tuple : isT "int" "tuple" = false := by decide
theorem isT_int_list : isT "int" "list" = false := by decide
theorem isT_str_bool : isT "str" "bool" = false := by decide
theorem isT_str_int : isT "str" "int" = false := by decide
theorem isT_str_str : isT "str" "str" = true := by decide
theorem isT_str_tuple : isT "str" "tuple" = false := by decide
theorem isT_str_list : isT "str" "list" = false := by decide
theorem isT_tuple_bool : isT "tuple" "bool" = false := by decide
theorem isT_tuple_int : isT "tuple" "int" = false := by decide
theorem isT_tuple_str : isT "tuple" "str" = false := by decide
theorem isT_tuple_tuple : isT "tuple" "tuple" = true := by decide
theorem isT_tuple_list : isT "tuple" "list" = false := by decide
theorem isT_list_bool : isT "list" "bool" = false := by decide
theorem isT_list_int : isT "list" "int" = false := by decide
theorem isT_list_str : isT "list" "str" = false := by decide
theorem isT_list_tuple : isT "list" "tuple" = false := by decide
theorem isT_list_list : isT "list" "list" = true := by decide
theorem sub_refl_fin {Qd : DK} {v : D} (h : Qd v m) : ∃ m'', Sub m'' m ∧ Qd v m'' := ⟨m, .refl m, h⟩
theorem loop_inv {st : Mu → Prop} {g : DG} {tb : DS} {E : DEnds} (J : List D → Sd → Mu → Prop)
    (hs : ∀ d rem s m (R : Sd → Mu → Prop), (∀ s m, J rem s m → R s m) → J (d :: rem) s m → st m ∧ g d s m fun s2 m2 => tb { E with nx := R, ct := R, bk := E.nx } s2 m2)
    (he : ∀ s m, J [] s m → st m ∧ E.nx s m) : ∀ {es : List D} {s : Sd} {m : Mu}, J es s m → dLoop st g tb E es s m
  | [], s, m, h => he s m h
  | d :: es, s, m, h => hs d es s m _ (fun s' m' h' => loop_inv J hs he h') h
theorem comp_inv {st : Mu → Prop} {g : DG} {t : DT} {e : DE} {p : Addr} {s : Sd} {Q : DK} (J : List D → List D → Mu → Prop)
    (hs : ∀ d rem acc m (R : List D → Mu → Prop), (∀ acc m, J rem acc m → R acc m) → J (d :: rem) acc m → st m ∧ g d s m fun s2 m2 => t s2 m2 fun b m3 =>
      if b = true then e s2 m3 fun y m4 => m4 p = some (.lst acc) ∧ acc.length < sizeLine ∧ R (acc ++ [y]) (mset m4 p (.lst (acc ++ [y]))) else R acc m3)
    (he : ∀ acc m, J [] acc m → st m ∧ m p = some (.lst acc) ∧ Q (.ref p) m) : ∀ {es acc : List D} {m : Mu}, J es acc m → dComp st g t e p s Q es acc m
  | [], acc, m, h => he acc m h
  | d :: es, acc, m, h => hs d es acc m _ (fun acc' m' h' => comp_inv J hs he h') h
theorem filter_yes {α : Type} : ∀ l : List α, l.filter (fun _ => true) = l
  | [] => rfl
  | a :: l => by rw [List.filter_cons, if_pos rfl, filter_yes l]
theorem rangeD_len (lo : Int) (n : Nat) : (rangeD lo n).length = n := by unfold rangeD; rw [List.length_map, List.length_range]
/-- a loop over range(n): what holds ahead of turn i -/
theorem loop_range {st : Mu → Prop} {g : DG} {tb : DS} {E : DEnds} {n : Nat} (J : Nat → Sd → Mu → Prop)
    (hs : ∀ (i : Nat) s m (R : Sd → Mu → Prop), i < n → (∀ s m, J (i + 1) s m → R s m) → J i s m → st m ∧ g (.int (i : Int)) s m fun s2 m2 => tb { E with nx := R, ct := R, bk := E.nx } s2 m2)
    (he : ∀ s m, J n s m → st m ∧ E.nx s m) {s : Sd} {m : Mu} (h : J 0 s m) : dLoop st g tb E (rangeD 0 n) s m := by
  refine loop_inv (fun rem s m => ∃ i, i ≤ n ∧ rem = (rangeD 0 n).drop i ∧ J i s m) (fun d rem s m R hR ⟨i, hi, e, hj⟩ => ?_) (fun s m ⟨i, hi, e, hj⟩ => ?_) ⟨0, Nat.zero_le _, rfl, h⟩
  · have hlt : i < n := by
      by_cases q : i < n
      · exact q
      · have e2 : i = n := by omega
        subst e2
        rw [List.drop_of_length_le (by rw [rangeD_len]; exact Nat.le_refl _)] at e
        cases e
    have hl : i < (rangeD 0 n).length := by rw [rangeD_len]; exact hlt
    rw [List.drop_eq_getElem_cons hl] at e
    injection e with e1 e2
    have e3 : (rangeD 0 n)[i] = .int (i : Int) := by unfold rangeD; simp
    rw [e3] at e1
    subst e1
    exact hs i s m R hlt (fun s' m' h' => hR s' m' ⟨i + 1, hlt, e2, h'⟩) hj
  · have e2 : i = n := by
      by_cases q : i < n
      · have hl : i < (rangeD 0 n).length := by rw [rangeD_len]; exact q
        rw [List.drop_eq_getElem_cons hl] at e
        cases e
      · omega
    subst e2
    exact he s m hj
theorem atI_getD {α : Type} {xs : List α} {i : Nat} (h : i < xs.length) : atI xs (i : Int) = some xs[i] := atI_nat (List.getElem?_eq_getElem h)
/-- a cut between a statement and what follows -/
theorem seq_cut {t u : DS} {E : DEnds} {s : Sd} {m : Mu} (Mid : Sd → Mu → Prop) (h1 : ∀ R : Sd → Mu → Prop, (∀ s' m', Mid s' m' → R s' m') → t { E with nx := R } s m) (h2 : ∀ s' m', Mid s' m' → u E s' m') : dSeq t u E s m := h1 _ h2
/-- all lists but two are kept -/
def OffS (a q : Addr) (m m' : Mu) : Prop := ∀ x o, x ≠ a → x ≠ q → m x = some o → m' x = some o
theorem OffS.refl (a q : Addr) (m : Mu) : OffS a q m m := fun _ _ _ _ h => h
theorem OffS.trans {a q : Addr} {m m1 m2 : Mu} (h : OffS a q m m1) (h' : OffS a q m1 m2) : OffS a q m m2 := fun x o n1 n2 e => h' x o n1 n2 (h x o n1 n2 e)
theorem OffS.new {a q p : Addr} {m m1 : Mu} {o : MO} (h : OffS a q m m1) (hp : m1 p = none) : OffS a q m (mset m1 p o) := fun x u n1 n2 e => mset_new hp (h x u n1 n2 e)
end
end PD
namespace PD
open PySem PySem.Spec PyProof.Rows L2
/-- a wish for errors: the class, the fields (the last one set first), the store -/
abbrev DX := Value → List (Str × D) → Mu → Prop
def FldR (K : PySem.W.Frag) (H : Hp) (fs : List (Str × D)) (d : Option Addr) : Prop := ∃ dd vs, d = some dd ∧ H dd = some (.xd vs) ∧ vs.map (·.1) = fs.map (·.1) ∧ RepL K H (fs.map (·.2)) (vs.map (·.2))
def wX (K : PySem.W.Frag) (Ed : DX) : WX := fun cls d _ H => ∃ fs m, RM K H m ∧ FldR K H fs d ∧ Ed cls fs m
abbrev SpX := List D → Mu → DK → DX → Prop
def spX (K : PySem.W.Frag) (n : Nat) (sd : SpX) : Sp := fun vs H Q E => ∃ ds m Qd Ed, RepL K H ds vs ∧ RM K H m ∧ (ds.length = n ∧ sd ds m Qd Ed) ∧ (∀ v H' dv m', TX H H' → RM K H' m' → Rep K H' dv v → Qd dv m' → Q v H') ∧ ∀ cls d H' fs m', RM K H' m' → FldR K H' fs d → Ed cls fs m' → E cls d H'
def dCallX (n : Nat) (sd : SpX) (Ed : DX) (a : DA) : DE := fun s m Q => a s m fun ds m1 => ds.length = n ∧ sd ds m1 Q Ed
section
variable {X : Cx} {Ed : DX}
theorem ge_callX {k n : Nat} {f : Addr} {fd : FuncData} {ps : List Str} {sd : SpX} {x : Str} {p pos : Pos} {e : Expr} {es : List Expr} {da : DA} (F : FnOk X.prog X.w X.K X.mg X.base (L2.CX X.prog X.w) k f fd ps (spX X.K n sd)) (tk : Takes X (wX X.K Ed)) (hr : Room k X.A) (hg : Gl X x) (hm : X.mg x = some (.ref f)) (hk : PySem.W.keepIn X.K (.ref f) = true) (hb : Binds X.K fd ps [])
    (ha : GA X (e :: es) da) (hdb : (x == ("__debug__" : Str)) = false := by decide) (he : starEach (e :: es) X.env = (false, eval e X.env) :: starEach es X.env := by rfl) (hpl : (backTo pos (starEach es X.env)).any (·.1) = false := by rfl) :
    GE X (.Call (.Name x p) (e :: es) [] pos) (dCallX n sd Ed da) := by
  obtain ⟨ta, q, l⟩ := ha.ex
  refine .of ⟨_, pe_callS (E := WE (wX X.K Ed)) F hr hg hm hk hb (passAt tk) q hdb he hpl, fun s H sd' m Qd Q rs rm h k => ?_⟩
  refine l s H sd' m _ _ rs rm h fun vs H1 ds m1 t1 rm1 r1 h1 => ?_
  exact ⟨ds, m1, Qd, Ed, r1, rm1, h1, fun v' H' dv' m' t' a b c => k v' H' dv' m' (t1.trans t') a b c, fun cls d H' fs m' a b c => ⟨fs, m', a, b, c⟩⟩
/-- raise C(..), the making told by its own reading -/
def dRaise (cls : Value) (ns : List Str) (Ed : DX) (a : DA) : DS := fun _ s m => a s m fun ds m1 => ds.length = ns.length ∧ Ed cls (ns.zip ds).reverse m1
end
section
variable {P : Program} {w : World} {K : PySem.W.Frag} {mg : Str → Option Value} {base : Heap}
theorem fn_okX {x qual : Str} {st : Stmt} {f : Addr} {fd : FuncData} {N ps : List Str} {k : Nat} {sd : SpX} {d : DX → DS} (F : Fun K x qual st f fd) (S : FnScope N ps (defScope st))
    (hb : ∀ (cdv : Value) (A : Around) (outer : List Env) (s : Shared) (H : Hp) (E : XK) (Ed : DX), Room k (A.deeper (envOfC qual (defScope st) s.heap.objs.size f cdv)) →
      Takes (cxOf (L2.CX P w) P w K mg base N qual (defScope st) f cdv A outer s H E) (wX K Ed) →
      GSs (cxOf (L2.CX P w) P w K mg base N qual (defScope st) f cdv A outer s H E) (defBody st) (d Ed))
    (hd : ∀ ds m Qd Ed, sd ds m Qd Ed → ds.length = ps.length → d Ed (endsOf Qd) (startD N ds) m) : FnOk P w K mg base (L2.CX P w) (k + 1) f fd ps (spX K ps.length sd) := by
  refine F.okX S (fun vs H Q E ⟨ds, m, Qd, Ed, r, rm, h, _⟩ => by rw [← r.length]; exact h.1) fun cdv A outer s H vs Q E hr ⟨ds, m, Qd, Ed, r, rm, ⟨hl, h⟩, kq, ke⟩ => ?_
  have tk : Takes (cxOf (L2.CX P w) P w K mg base N qual (defScope st) f cdv A outer s H E) (wX K Ed) :=
    Takes.imp (takes_of (E := E) rfl rfl rfl rfl) fun c d' σ H' ⟨fs, m', a, b, c'⟩ => ke c d' H' fs m' a b c'
  obtain ⟨t, p, l⟩ := (hb cdv A outer s H E Ed hr tk).ex
  refine ⟨t, p, ?_⟩
  refine l (L2.start N vs) H (startD N ds) m (endsOf Qd) _ (rs_start r) rm (hd ds m Qd Ed h hl) ?_ ?_ ?_ ?_
  · intro s' H' sd' m' t' rs' rm' ⟨m'', sb, q⟩
    exact kq .non H' .non m'' t' (rm'.sub sb) .non q
  · intro v H' dv m' t' rm' rv ⟨m'', sb, q⟩
    exact kq v H' dv m'' t' (rm'.sub sb) rv q
  · intro _ _ _ _ _ _ _ h; exact h.elim
  · intro _ _ _ _ _ _ _ h; exact h.elim
end
end PD
namespace PD
open PySem PySem.Spec PyProof.Rows L2
/-- what __init__(self, ns) does to a fresh error -/
def iniSp (K : PySem.W.Frag) (ns : List Str) : Sp := fun vs H Q _ => ∃ (a C : Addr) (us : List V), vs = .ref a :: us ∧ us.length = ns.length ∧ OexC K C ∧ (∀ n ∈ ns, PySem.W.findIn K (.ref C) n = some none) ∧ H a = some (exo a C none) ∧
  ∀ d, H d = none → d ≠ a → Q .non (upd (upd H d (exd d (ns.zip us).reverse)) a (exo a C (some d)))
theorem upd_over {H : Hp} {a d : Addr} {A B A' : HO} (h : d ≠ a) : upd (upd (upd H d A) a B) d A' = upd (upd H d A') a B := by
  funext x
  by_cases h1 : x = d
  · subst h1; rw [upd_same, upd_ne h, upd_same]
  · rw [upd_ne h1]
    by_cases h2 : x = a
    · subst h2; rw [upd_same, upd_same]
    · rw [upd_ne h2, upd_ne h2, upd_ne h1, upd_ne h1]
theorem upd_gone {H : Hp} {a d : Addr} {A B E F : HO} (ha : H a = none) (h : d ≠ a) : upd (del (upd (upd (upd H a E) d A) a B) a) d F = upd H d F := by
  funext x
  by_cases h1 : x = d
  · subst h1; rw [upd_same, upd_same]
  · rw [upd_ne h1, upd_ne h1]
    by_cases h2 : x = a
    · subst h2; rw [del_same, ha]
    · rw [del_ne h2, upd_ne h2, upd_ne h1, upd_ne h2]
section
variable {P : Program} {w : World} {K : PySem.W.Frag} {mg : Str → Option Value} {base : Heap}
theorem ini_one {qual n : Str} {st : Stmt} {f : Addr} {fd : FuncData} (F : Fun K "__init__" qual st f fd) (S : FnScope ["self", n] ["self", n] (defScope st))
    (hb : ∀ (cdv : Value) (A : Around) (outer : List Env) (s : Shared) (H : Hp) (E : XK), PSs (cxOf CX0 P w K mg base ["self", n] qual (defScope st) f cdv A outer s H E).nox (defBody st) (tOst K n (tVar 0) (tVar 1))) :
    FnOk P w K mg base CX0 1 f fd ["self", n] (iniSp K [n]) := by
  refine F.ok S (fun vs H Q E ⟨a, C, us, e, hl, _⟩ => by rw [e]; show us.length + 1 = 2; rw [hl]; rfl) fun cdv A outer s H vs Q E hr ⟨a, C, us, e, hl, T, hno, ha, q⟩ => ⟨_, hb cdv A outer s H E, ?_⟩
  subst e
  match us, hl with
  | [u], _ =>
    refine ⟨u, rfl, .ref a, rfl, a, C, rfl, T, hno n (List.mem_singleton.mpr rfl), .inl ⟨ha, fun d h1 h2 => ?_⟩⟩
    exact q d h1 h2
theorem ini_two {qual n n2 : Str} {st : Stmt} {f : Addr} {fd : FuncData} (F : Fun K "__init__" qual st f fd) (S : FnScope ["self", n, n2] ["self", n, n2] (defScope st))
    (hb : ∀ (cdv : Value) (A : Around) (outer : List Env) (s : Shared) (H : Hp) (E : XK), PSs (cxOf CX0 P w K mg base ["self", n, n2] qual (defScope st) f cdv A outer s H E).nox (defBody st) (tSeq (tOst K n (tVar 0) (tVar 1)) (tOst K n2 (tVar 0) (tVar 2)))) :
    FnOk P w K mg base CX0 1 f fd ["self", n, n2] (iniSp K [n, n2]) := by
  refine F.ok S (fun vs H Q E ⟨a, C, us, e, hl, _⟩ => by rw [e]; show us.length + 1 = 3; rw [hl]; rfl) fun cdv A outer s H vs Q E hr ⟨a, C, us, e, hl, T, hno, ha, q⟩ => ⟨_, hb cdv A outer s H E, ?_⟩
  subst e
  match us, hl with
  | [u, u2], _ =>
    refine ⟨u, rfl, .ref a, rfl, a, C, rfl, T, hno n (by simp), .inl ⟨ha, fun d h1 h2 => ?_⟩⟩
    refine ⟨u2, rfl, .ref a, rfl, a, C, rfl, T, hno n2 (by simp), .inr ⟨d, _, upd_same, by rw [upd_ne h2, upd_same], by simp, ?_⟩⟩
    rw [upd_over h2]
    exact q d h1 h2
end
section
variable {X : Cx} {Ed : DX}
/-- raise C(e, ..) of an own error whose __init__ keeps its parameters -/
theorem gs_raise {x : Str} {C fI : Addr} {k : Nat} {fd : FuncData} {ns : List Str} {e : Expr} {es : List Expr} {da : DA} {p pos pos2 : Pos} (hc : X.calm = true) (tk : Takes X (wX X.K Ed)) (T : OexC X.K C) (hno : ∀ n ∈ ns, PySem.W.findIn X.K (.ref C) n = some none)
    (iC : PySem.W.findIn X.K (.ref C) "__init__" = some (some (.ref fI))) (tI : PySem.W.typeIn X.K (.ref fI) = some (.type "function"))
    (F1 : FnOk X.prog X.w X.K X.mg X.base CX0 k fI fd ("self" :: ns) (iniSp X.K ns)) (hr : Room (k + 1) X.A) (hb : Binds X.K fd ("self" :: ns) []) (hg : Gl X x) (hm : X.mg x = some (.ref C)) (ha : GA X (e :: es) da) (hns : ns.length ≤ 900)
    (hdb : (x == ("__debug__" : Str)) = false := by decide) (he : starEach (e :: es) X.env = (false, eval e X.env) :: starEach es X.env := by rfl) (hpl : (backTo pos (starEach es X.env)).any (·.1) = false := by rfl) :
    GS X (.Raise (some (.Call (.Name x p) (e :: es) [] pos)) none pos2) (dRaise (.ref C) ns Ed da) := by
  obtain ⟨ta, q, l⟩ := ha.ex
  refine ⟨_, ps_raise hc tk (pmk_oex T iC tI F1 hr hb .nil pass0 hg hm q hdb he hpl), fun s H sd m Ed' E rs rm h _ _ _ _ => ?_⟩
  refine l s H sd m _ _ rs rm h fun vs H1 ds m1 t1 rm1 r1 ⟨hl, h1⟩ => ?_
  have hlv : vs.length = ns.length := by rw [← r1.length]; exact hl
  refine ⟨by omega, fun a ha => ⟨a, C, vs, by rw [List.append_nil], hlv, T, hno, upd_same, fun d hd hda => ⟨rfl, d, _, upd_same, by rw [upd_ne hda, upd_same], by rw [upd_ne hda] at hd; exact hd, ?_⟩⟩⟩
  rw [upd_ne hda] at hd
  rw [upd_gone ha hda]
  have z1 : (ns.zip vs).map (·.1) = ns := List.map_fst_zip (by omega)
  have z2 : (ns.zip ds).map (·.1) = ns := List.map_fst_zip (by omega)
  have z3 : (ns.zip vs).map (·.2) = vs := List.map_snd_zip (by omega)
  have z4 : (ns.zip ds).map (·.2) = ds := List.map_snd_zip (by omega)
  refine ⟨(ns.zip ds).reverse, m1, rm1.skip hd, ⟨d, _, rfl, upd_same, ?_, ?_⟩, h1⟩
  · rw [List.map_reverse, List.map_reverse, z1, z2]
  · rw [List.map_reverse, List.map_reverse, z3, z4]
    exact r1.rev.mono (.new hd)
end
end PD
namespace PD
open PySem PySem.Spec PyProof.Rows L2
theorem TX.ins {H : Hp} {a C dx : Addr} {us : List (Str × V)} {o : HO} (h : H a = some (.ins C dx us)) : TX H (upd H a o) := fun b u i e => by
  rw [upd_ne]
  · exact e
  · rintro rfl
    rw [h] at e; cases e; exact i.elim
theorem RM.setI {K : PySem.W.Frag} {H : Hp} {m : Mu} {p C dx dx' : Addr} {fs : List (Str × D)} {us ws : List (Str × V)} (r : RM K H m) (h : H p = some (.ins C dx ws)) (e1 : us.map (·.1) = fs.map (·.1)) (q : RepL K H (fs.map (·.2)) (us.map (·.2))) : RM K (upd H p (.ins C dx' us)) (mset m p (.ins C fs)) := fun a o e => by
  by_cases ha : a = p
  · subst ha
    rw [mset_same] at e; cases e
    exact ⟨dx', us, upd_same, e1, q.mono (.ins h)⟩
  · rw [mset_ne ha] at e
    refine (r a o e).tx (.ins h) fun us z => ?_
    rw [upd_ne ha]; exact z
section
variable {X : Cx}
def putD (f : Str) (v : D) : List (Str × D) → List (Str × D)
  | [] => [(f, v)]
  | (g, x) :: r => if g = f then (g, v) :: r else (g, x) :: putD f v r
theorem put_names {f : Str} {y : V} {d : D} : ∀ {fs : List (Str × D)} {us : List (Str × V)}, us.map (·.1) = fs.map (·.1) → (putF f y us).map (·.1) = (putD f d fs).map (·.1)
  | [], [], _ => rfl
  | [], _ :: _, e => by cases e
  | _ :: _, [], e => by cases e
  | (g, b) :: fs, (g', v) :: us, e => by
    simp only [List.map_cons] at e
    injection e with e1 e2
    subst e1
    unfold putF putD
    by_cases h : g' = f
    · rw [if_pos h, if_pos h, List.map_cons, List.map_cons, e2]
    · rw [if_neg h, if_neg h, List.map_cons, List.map_cons, put_names e2]
theorem put_rep {K : PySem.W.Frag} {H : Hp} {f : Str} {y : V} {d : D} (ry : Rep K H d y) : ∀ {fs : List (Str × D)} {us : List (Str × V)}, us.map (·.1) = fs.map (·.1) → RepL K H (fs.map (·.2)) (us.map (·.2)) → RepL K H ((putD f d fs).map (·.2)) ((putF f y us).map (·.2))
  | [], [], _, _ => .cons ry .nil
  | [], _ :: _, e, _ => by cases e
  | _ :: _, [], e, _ => by cases e
  | (g, b) :: fs, (g', v) :: us, e, r => by
    simp only [List.map_cons] at e r
    injection e with e1 e2
    subst e1
    cases r with
    | cons r1 r2 =>
      unfold putF putD
      by_cases h : g' = f
      · rw [if_pos h, if_pos h]; exact .cons ry r2
      · rw [if_neg h, if_neg h]; exact .cons r1 (put_rep ry e2 r2)
def dSetF (C : Addr) (f : Str) (da dv : DE) : DS := fun E s m => dv s m fun y m1 => da s m1 fun x m2 => ∃ a fs, x = .ref a ∧ m2 a = some (.ins C fs) ∧ fs.length < 1000 ∧ E.nx s (mset m2 a (.ins C (putD f y fs)))
theorem gs_fld {C : Addr} {f : Str} {o value : Expr} {da dv : DE} {pos pos' : Pos} (c : Cls X.K C) (n : NoAttr X.K C f) (ha : GE X o da) (hv : GE X value dv) (hs : swapsWith value (some (.Attribute o f pos')) pos.line X.env = pure false := by rfl) : GS X (.Assign [.Attribute o f pos'] value pos) (dSetF C f da dv) := by
  obtain ⟨ta, pa, la⟩ := ha.ex
  obtain ⟨tv, pv', lv⟩ := hv.ex
  refine ⟨_, ps_fld pa pv' hs, fun s H sd m Ed E rs rm h k1 _ _ _ => ?_⟩
  refine lv s H sd m _ _ rs rm h fun y H1 dy m1 t1 rm1 r1 h1 => ?_
  refine la s H1 sd m1 _ _ (rs.mono t1) rm1 h1 fun x H2 dx2 m2 t2 rm2 r2 h2 => ?_
  obtain ⟨a, fs, rfl, e2, hl, h2⟩ := h2
  cases r2
  obtain ⟨dx, us, e4, e5, r⟩ := rm2 a _ e2
  have hlen : us.length = fs.length := by have z := congrArg List.length e5; rwa [List.length_map, List.length_map] at z
  exact ⟨a, C, dx, us, rfl, e4, c, n, by omega, k1 _ _ _ _ (t1.trans (t2.trans (.ins e4))) ((rs.mono (t1.trans t2)).mono (.ins e4)) (rm2.setI e4 (put_names e5) (put_rep (r1.mono t2) e5 r)) h2⟩
end
end PD
namespace PD
open PySem PySem.Spec PyProof.Rows L2
theorem RM.newI {K : PySem.W.Frag} {H : Hp} {m : Mu} {x dx C : Addr} (r : RM K H m) (h1 : H x = none) (h2 : H dx = none) (hne : dx ≠ x) : RM K (upd (upd H dx (.own x)) x (.ins C dx [])) (mset m x (.ins C [])) := fun a o e => by
  by_cases ha : a = x
  · subst ha
    rw [mset_same] at e; cases e
    exact ⟨dx, [], upd_same, rfl, .nil⟩
  · rw [mset_ne ha] at e
    exact (r.skip h2).skip (by rw [upd_ne hne.symm]; exact h1) a o e
section
variable {X : Cx} {Ed : DX}
/-- what a callee may let out is what the caller may -/
theorem passX (tk : Takes X (wX X.K Ed)) : Passes (L2.CX X.prog X.w) X (fun cls d H => wX X.K Ed cls d [] H) := passes_call tk fun _ _ _ _ h => h
/-- C(e, ..) -/
def dMakeX (C : Addr) (n : Nat) (sd : SpX) (Ed : DX) (da : DA) : DE := fun s m Q => da s m fun ds m1 => ds.length + 1 = n ∧ ∀ x, m1 x = none → sd (.ref x :: ds) (mset m1 x (.ins C [])) (fun v m2 => v = .non ∧ Q (.ref x) m2) Ed
theorem ge_makeX {C f : Addr} {k n : Nat} {fd : FuncData} {ps : List Str} {sd : SpX} {x : Str} {e : Expr} {es : List Expr} {da : DA} {p pos : Pos} (M : Mk X.K C f) (F : FnOk X.prog X.w X.K X.mg X.base (L2.CX X.prog X.w) k f fd ps (spX X.K n sd)) (tk : Takes X (wX X.K Ed)) (hr : Room (k + 1) X.A) (hg : Gl X x) (hm : X.mg x = some (.ref C)) (hb : Binds X.K fd ps [])
    (ha : GA X (e :: es) da) (hdb : (x == ("__debug__" : Str)) = false := by decide) (he : starEach (e :: es) X.env = (false, eval e X.env) :: starEach es X.env := by rfl) (hpl : (backTo pos (starEach es X.env)).any (·.1) = false := by rfl) :
    GE X (.Call (.Name x p) (e :: es) [] pos) (dMakeX C n sd Ed da) := by
  obtain ⟨ta, q, la⟩ := ha.ex
  refine .of ⟨_, pe_make (E := fun cls d H => wX X.K Ed cls d [] H) M F hr hg hm hb .nil (passX tk) q hdb he hpl, fun s H sd' m Qd Q rs rm h k => ?_⟩
  refine la s H sd' m _ _ rs rm h fun vs H1 ds m1 t1 rm1 r1 h1 => fun y dx hy hdx hne => ?_
  rw [List.append_nil]
  have ty : TX H1 (upd (upd H1 dx (.own y)) y (.ins C dx [])) := (TX.new hdx).trans (.new (by rw [upd_ne hne.symm]; exact hy))
  refine ⟨.ref y :: ds, mset m1 y (.ins C []), _, Ed, .cons (.ref y) (r1.mono ty), rm1.newI hy hdx hne, ⟨h1.1, h1.2 y (rm1.fresh hy)⟩, fun v' H' dv' m' t' a b ⟨c1, c2⟩ => ?_, fun cls d H' fs m' a b c => ⟨fs, m', a, b, c⟩⟩
  subst c1
  cases b
  exact ⟨rfl, k _ _ _ _ (t1.trans (ty.trans t')) a (.ref y) c2⟩
end
end PD
namespace PD
open PySem PySem.Spec PyProof.Rows L2
def toKey : D → Option Key
  | .int i => some (.inl i)
  | .str x => some (.inr x)
  | _ => none
theorem key_rep {K : PySem.W.Frag} {H : Hp} {d : D} {v : V} {k : Key} (r : Rep K H d v) (h : toKey d = some k) : v = kV k := by
  cases r <;> unfold toKey at h <;> cases h <;> rfl
def valD {κ : Type} [DecidableEq κ] (kvs : List (κ × D)) (k : κ) : Option D := (kvs.find? fun kv => decide (kv.1 = k)).map (·.2)
def putKD {κ : Type} [DecidableEq κ] (kvs : List (κ × D)) (k : κ) (d : D) : List (κ × D) :=
  if (kvs.any fun kv => decide (kv.1 = k)) = true then kvs.map (fun kv => if kv.1 = k then (kv.1, d) else kv) else kvs ++ [(k, d)]
section
variable {κ : Type} [DecidableEq κ] {K : PySem.W.Frag} {H : Hp} {k : κ}
theorem val_rep : ∀ {kvs : List (κ × D)} {us : List (κ × V)}, us.map (·.1) = kvs.map (·.1) → RepL K H (kvs.map (·.2)) (us.map (·.2)) → (∀ d, valD kvs k = some d → ∃ v, valV us k = some v ∧ Rep K H d v) ∧ (valD kvs k = none → valV us k = none)
  | [], [], _, _ => ⟨fun _ h => (nomatch h), fun _ => rfl⟩
  | [], _ :: _, e, _ => by cases e
  | _ :: _, [], e, _ => by cases e
  | (g, b) :: kvs, (g', v) :: us, e, r => by
    simp only [List.map_cons] at e r
    injection e with e1 e2
    subst e1
    cases r with
    | cons r1 r2 =>
      have ih := val_rep e2 r2
      by_cases h : g' = k
      · have z1 : valD ((g', b) :: kvs) k = some b := by simp [valD, h]
        have z2 : valV ((g', v) :: us) k = some v := valV_pos h
        rw [z1, z2]
        exact ⟨fun d e => by cases e; exact ⟨v, rfl, r1⟩, fun e => (nomatch e)⟩
      · have z1 : valD ((g', b) :: kvs) k = valD kvs k := by simp [valD, h]
        have z2 : valV ((g', v) :: us) k = valV us k := valV_neg h
        rw [z1, z2]
        exact ih
theorem any_keys : ∀ {kvs : List (κ × D)} {us : List (κ × V)}, us.map (·.1) = kvs.map (·.1) → (us.any fun kv => decide (kv.1 = k)) = (kvs.any fun kv => decide (kv.1 = k))
  | [], [], _ => rfl
  | [], _ :: _, e => by cases e
  | _ :: _, [], e => by cases e
  | (g, b) :: kvs, (g', v) :: us, e => by
    simp only [List.map_cons] at e
    injection e with e1 e2
    subst e1
    rw [List.any_cons, List.any_cons, any_keys e2]
theorem putK_map_names {y : V} {d : D} : ∀ {kvs : List (κ × D)} {us : List (κ × V)}, us.map (·.1) = kvs.map (·.1) → RepL K H (kvs.map (·.2)) (us.map (·.2)) → Rep K H d y →
    ((us.map fun kv => if kv.1 = k then (kv.1, y) else kv).map (·.1) = (kvs.map fun kv => if kv.1 = k then (kv.1, d) else kv).map (·.1)) ∧ RepL K H ((kvs.map fun kv => if kv.1 = k then (kv.1, d) else kv).map (·.2)) ((us.map fun kv => if kv.1 = k then (kv.1, y) else kv).map (·.2))
  | [], [], _, _, _ => ⟨rfl, .nil⟩
  | [], _ :: _, e, _, _ => by cases e
  | _ :: _, [], e, _, _ => by cases e
  | (g, b) :: kvs, (g', v) :: us, e, r, ry => by
    simp only [List.map_cons] at e r
    injection e with e1 e2
    subst e1
    cases r with
    | cons r1 r2 =>
      have ih := putK_map_names e2 r2 ry
      simp only [List.map_cons]
      by_cases h : g' = k
      · simp only [if_pos h]
        exact ⟨by rw [ih.1], .cons ry ih.2⟩
      · simp only [if_neg h]
        exact ⟨by rw [ih.1], .cons r1 ih.2⟩
theorem putK_rep {y : V} {d : D} {kvs : List (κ × D)} {us : List (κ × V)} (e : us.map (·.1) = kvs.map (·.1)) (r : RepL K H (kvs.map (·.2)) (us.map (·.2))) (ry : Rep K H d y) :
    (putK us k y).map (·.1) = (putKD kvs k d).map (·.1) ∧ RepL K H ((putKD kvs k d).map (·.2)) ((putK us k y).map (·.2)) := by
  unfold putK putKD
  rw [any_keys e]
  split
  · exact putK_map_names e r ry
  · rw [List.map_append, List.map_append, List.map_append, List.map_append, e]
    exact ⟨rfl, r.append (.cons ry .nil)⟩
end
theorem TX.dK {H : Hp} {a : Addr} {us : List (Key × V)} {o : HO} (h : H a = some (.dK us)) : TX H (upd H a o) := fun b u i e => by
  rw [upd_ne]
  · exact e
  · rintro rfl
    rw [h] at e; cases e; exact i.elim
theorem RM.setD {K : PySem.W.Frag} {H : Hp} {m : Mu} {p : Addr} {kvs : List (Key × D)} {us ws : List (Key × V)} (r : RM K H m) (h : H p = some (.dK ws)) (e1 : us.map (·.1) = kvs.map (·.1)) (q : RepL K H (kvs.map (·.2)) (us.map (·.2))) : RM K (upd H p (.dK us)) (mset m p (.dct kvs)) := fun a o e => by
  by_cases ha : a = p
  · subst ha
    rw [mset_same] at e; cases e
    exact ⟨us, upd_same, e1, q.mono (.dK h)⟩
  · rw [mset_ne ha] at e
    refine (r a o e).tx (.dK h) fun us z => ?_
    rw [upd_ne ha]; exact z
theorem RM.newD {K : PySem.W.Frag} {H : Hp} {m : Mu} {p : Addr} (r : RM K H m) (h : H p = none) : RM K (upd H p (.dK [])) (mset m p (.dct [])) := fun a o e => by
  by_cases ha : a = p
  · subst ha
    rw [mset_same] at e; cases e
    exact ⟨[], upd_same, rfl, .nil⟩
  · rw [mset_ne ha] at e
    exact r.skip h a o e
def dDNew : DE := fun _ m Q => ∀ p, m p = none → Q (.ref p) (mset m p (.dct []))
def dDGet (dd dk : DE) : DE := fun s m Q => dd s m fun x m1 => dk s m1 fun y m2 => ∃ a kvs k d, x = .ref a ∧ m2 a = some (.dct kvs) ∧ toKey y = some k ∧ valD kvs k = some d ∧ Q d m2
def dDPut (dd dk dv : DE) : DS := fun E s m => dv s m fun z m1 => dd s m1 fun x m2 => dk s m2 fun y m3 => ∃ a kvs k, x = .ref a ∧ m3 a = some (.dct kvs) ∧ toKey y = some k ∧ kvs.length < sizeLine ∧ E.nx s (mset m3 a (.dct (putKD kvs k z)))
section
variable {X : Cx} {o i value : Expr} {pos pos' : Pos} {dd dk dv : DE}
theorem ge_dnew : GE X (.Dict [] [] pos) dDNew :=
  .of ⟨_, pe_dnewK, fun s H sd m Qd Q rs rm h k => fun p hp => k _ _ _ _ (.new hp) (rm.newD hp) (.ref p) (h p (rm.fresh hp))⟩
theorem gs_dput (hu : X.A.units + 1 < cLine) (ho : GE X o dd) (hi : GE X i dk) (hv : GE X value dv) (hs : swapsWith value (some (.Subscript o i pos')) pos.line X.env = pure false := by rfl) : GS X (.Assign [.Subscript o i pos'] value pos) (dDPut dd dk dv) := by
  obtain ⟨td, pd, ld⟩ := ho.ex
  obtain ⟨ti, pi, li⟩ := hi.ex
  obtain ⟨tv, pv', lv⟩ := hv.ex
  refine ⟨_, ps_dput hu pd pi pv' hs, fun s H sd m Ed E rs rm h k1 _ _ _ => ?_⟩
  refine lv s H sd m _ _ rs rm h fun z H1 dz m1 t1 rm1 r1 h1 => ?_
  refine ld s H1 sd m1 _ _ (rs.mono t1) rm1 h1 fun x H2 dx m2 t2 rm2 r2 h2 => ?_
  refine li s H2 sd m2 _ _ (rs.mono (t1.trans t2)) rm2 h2 fun y H3 dy m3 t3 rm3 r3 h3 => ?_
  obtain ⟨a, kvs, kk, rfl, e2, e3, hl, h4⟩ := h3
  cases r2
  obtain ⟨us, e5, e6, r⟩ := rm3 a _ e2
  have hy := key_rep r3 e3
  subst hy
  have hlen : us.length = kvs.length := by have z := congrArg List.length e6; rwa [List.length_map, List.length_map] at z
  have pr := putK_rep (k := kk) e6 r (r1.mono (t2.trans t3))
  exact ⟨a, _, rfl, DPut.k e5 (by omega), k1 _ _ _ _ (t1.trans (t2.trans (t3.trans (.dK e5)))) ((rs.mono (t1.trans (t2.trans t3))).mono (.dK e5)) (rm3.setD e5 pr.1 pr.2) h4⟩
theorem val_some {K : PySem.W.Frag} {H : Hp} {k : Key} {kvs : List (Key × D)} {us : List (Key × V)} (e : us.map (·.1) = kvs.map (·.1)) (r : RepL K H (kvs.map (·.2)) (us.map (·.2))) : (valV us k).isSome = (valD kvs k).isSome := by
  have z := val_rep (k := k) e r
  cases q : valD kvs k with
  | none => rw [z.2 q]; rfl
  | some d => obtain ⟨v, e1, _⟩ := z.1 d q; rw [e1]; rfl
end
end PD
namespace PD
open PySem PySem.Spec PyProof.Rows L2
def zipD (xs ys : List D) : List D := (xs.zip ys).map fun p => .tup [p.1, p.2]
theorem zipD_len (xs ys : List D) : (zipD xs ys).length = min xs.length ys.length := by unfold zipD; rw [List.length_map, List.length_zip]
theorem zipD_get {xs ys : List D} {i : Nat} {a b : D} (h1 : xs[i]? = some a) (h2 : ys[i]? = some b) : (zipD xs ys)[i]? = some (.tup [a, b]) := by
  unfold zipD
  rw [List.getElem?_map, (List.getElem?_zip_eq_some (z := (a, b))).mpr ⟨h1, h2⟩]
  rfl
theorem zip_item {K : PySem.W.Frag} {i : Nat} {x y : V} {a b : D} {H : Hp} {T : Addr} {m : Mu} {xs ys : List D} (rm : RM K H m) (hT : H T = none) (e1 : xs[i]? = some a) (e2 : ys[i]? = some b) (r1 : Rep K H a x) (r2 : Rep K H b y) :
    ∃ d', (zipD xs ys)[i]? = some d' ∧ TX H (upd H T (.tup [x, y])) ∧ RM K (upd H T (.tup [x, y])) m ∧ Rep K (upd H T (.tup [x, y])) d' (.ref T) :=
  ⟨_, zipD_get e1 e2, .new hT, rm.skip hT, .tup upd_same (.cons (r1.mono (.new hT)) (.cons (r2.mono (.new hT)) .nil))⟩
end PD
namespace PD
open PySem PySem.Spec PyProof.Rows L2
theorem rep_ints {K : PySem.W.Frag} {H : Hp} : ∀ {ns : List Int} {vs : List V}, RepL K H (ns.map D.int) vs → vs = ns.map V.int
  | [], _, .nil => rfl
  | n :: ns, _, .cons (.int _) r => by rw [rep_ints r]; rfl
theorem rep_bools {K : PySem.W.Frag} {H : Hp} : ∀ {bs : List Bool} {vs : List V}, RepL K H (bs.map D.bl) vs → vs = bs.map V.bl
  | [], _, .nil => rfl
  | b :: bs, _, .cons (.bl _) r => by rw [rep_bools r]; rfl
theorem rep_strs {K : PySem.W.Frag} {H : Hp} : ∀ {xs : List Str} {vs : List V}, RepL K H (xs.map D.str) vs → vs = xs.map V.str
  | [], _, .nil => rfl
  | x :: xs, _, .cons (.str _) r => by rw [rep_strs r]; rfl
def dAll : DC := fun ds m Q => ∃ a bs, ds = [.ref a] ∧ m a = some (.lst ((bs : List Bool).map .bl)) ∧ Q (.bl (bs.all id)) m
section
variable {K : PySem.W.Frag}
theorem one_ref {H : Hp} {a : Addr} {vs : List V} (r : RepL K H [.ref a] vs) : vs = [.ref a] := by
  obtain ⟨v, rfl, rv⟩ := repL1 r
  cases rv
  rfl
theorem lc_all : LC K (rAll K) dAll := fun vs H ds m Qd Q rm r ⟨a, bs, e1, e2, h⟩ k => by
  subst e1
  obtain ⟨us, e3, r3⟩ := rm a _ e2
  rw [rep_bools r3] at e3
  exact ⟨a, bs, one_ref r, .of e3, k _ _ _ _ (.refl H) rm (.bl _) h⟩
end
end PD
namespace PD
open PySem PySem.Spec PyProof.Rows L2
theorem TX.sK {H : Hp} {P : Program} {w : World} {a : Addr} {S : Key → Bool} {n : Nat} {o : HO} (h : H a = some (SetK P w a S n)) : TX H (upd H a o) := fun b u i e => by
  rw [upd_ne]
  · exact e
  · rintro rfl
    rw [h] at e; cases e; exact i.elim
theorem RM.newS {K : PySem.W.Frag} {H : Hp} {m : Mu} {p : Addr} {P : Program} {w : World} {S : Key → Bool} {n : Nat} (r : RM K H m) (h : H p = none) : RM K (upd H p (SetK P w p S n)) (mset m p (.sset P w S n)) := fun a o e => by
  by_cases ha : a = p
  · subst ha
    rw [mset_same] at e; cases e
    exact upd_same
  · rw [mset_ne ha] at e
    exact r.skip h a o e
theorem RM.setS {K : PySem.W.Frag} {H : Hp} {m : Mu} {p : Addr} {P : Program} {w : World} {S S' : Key → Bool} {n n' : Nat} (r : RM K H m) (h : H p = some (SetK P w p S n)) : RM K (upd H p (SetK P w p S' n')) (mset m p (.sset P w S' n')) := fun a o e => by
  by_cases ha : a = p
  · subst ha
    rw [mset_same] at e; cases e
    exact upd_same
  · rw [mset_ne ha] at e
    refine (r a o e).tx (.sK h) fun us z => ?_
    rw [upd_ne ha]; exact z
def dSet0 (P : Program) (w : World) : DE := fun _ m Q => ∀ p, m p = none → Q (.ref p) (mset m p (.sset P w (fun _ => false) 0))
def dSAdd (P : Program) (w : World) (de : DE) (da : DA) : DE := fun s m Q => de s m fun x m1 => (∃ a S n, x = .ref a ∧ m1 a = some (.sset P w S n)) ∧ da s m1 fun ds m2 => ∃ a S n d k, x = .ref a ∧ ds = [d] ∧ toKey d = some k ∧ m2 a = some (.sset P w S n) ∧ n + 1 < scanBound ∧
  Q .non (mset m2 a (.sset P w (fun j => S j || decide (j = k)) (if S k = true then n else n + 1)))
def dSIn (P : Program) (w : World) (neg : Bool) : D2 := fun x y m Q => ∃ k a S n, toKey x = some k ∧ y = .ref a ∧ m a = some (.sset P w S n) ∧ Q (.bl (if neg then !S k else S k)) m
section
variable {X : Cx}
theorem ge_set0 {p pos : Pos} (hg : Gl X "set") (hm : X.mg "set" = none) : GE X (.Call (.Name "set" p) [] [] pos) (dSet0 X.prog X.w) :=
  .of ⟨_, pe_callTy0 cr_set0K hg hm (by decide +kernel), fun s H sd m Qd Q rs rm h k => ⟨rfl, fun p hp => k _ _ _ _ (.new hp) (rm.newS hp) (.ref p) (h p (rm.fresh hp))⟩⟩
theorem ge_sadd {o e : Expr} {es : List Expr} {de : DE} {da : DA} {apos cpos : Pos} (ho : GE X o de) (ha : GA X (e :: es) da)
    (base9 : attributeBase o "add" X.env (eval o X.env) = eval o X.env := by rfl)
    (few9 : ((backTo cpos (starEach (e :: es) X.env)).all (fun x => !x.1) && (backToKw cpos (keywordEach [] X.env)).all (fun x => x.1.isSome)
      && decide ((e :: es).length + ([] : List Keyword).length + (if ([] : List Keyword).isEmpty then 0 else 1) < 30)) = true := by rfl)
    (line9 : (apos.endLine == cpos.line) = true := by rfl) (hs : starEach (e :: es) X.env = (false, eval e X.env) :: starEach es X.env := by rfl) (plain9 : (backTo cpos (starEach es X.env)).any (·.1) = false := by rfl) :
    GE X (.Call (.Attribute o "add" apos) (e :: es) [] cpos) (dSAdd X.prog X.w de da) := by
  obtain ⟨te, pt, l⟩ := ho.ex
  obtain ⟨ta, q, la⟩ := ha.ex
  refine .of ⟨_, pe_saddK pt q base9 few9 line9 hs plain9, fun s H sd m Qd Q rs rm h k => ?_⟩
  refine l s H sd m _ _ rs rm h fun x H1 dx m1 t1 rm1 r1 h1 => ?_
  obtain ⟨⟨a, S, n, rfl, e2⟩, h2⟩ := h1
  cases r1
  refine ⟨⟨a, S, n, rfl, rm1 a _ e2⟩, ?_⟩
  refine la s H1 sd m1 _ _ (rs.mono t1) rm1 h2 fun vs H2 ds m2 t2 rm2 r2 h3 => ?_
  obtain ⟨a', S', n', d, kk, e3, rfl, e4, e5, room, h4⟩ := h3
  cases e3
  obtain ⟨v, rfl, rv⟩ := repL1 r2
  have hv := key_rep rv e4
  subst hv
  have e6 := rm2 a _ e5
  exact ⟨a, kk, S', n', rfl, rfl, e6, room, k _ _ _ _ (t1.trans (t2.trans (.sK e6))) (rm2.setS e6) .non h4⟩
theorem lr_sin {P : Program} {w : World} {K : PySem.W.Frag} {neg : Bool} : LR K (rSInK P w neg) (dSIn P w neg) := fun x y H dx dy m Qd Q rm rx ry h k => by
  obtain ⟨kk, a, S, n, e1, rfl, e2, h2⟩ := h
  cases ry
  exact ⟨kk, a, S, n, key_rep rx e1, rfl, rm a _ e2, k _ _ _ _ (.refl H) rm (.bl _) h2⟩
end
end PD
namespace PD
open PySem PySem.Spec PyProof.Rows L2
section
variable {X : Cx} {Ed : DX}
/-- C(e, ..) whose __init__ lets nothing out -/
def dMake (C : Addr) (n : Nat) (sd : SpD) (da : DA) : DE := fun s m Q => da s m fun ds m1 => ds.length + 1 = n ∧ ∀ x, m1 x = none → sd (.ref x :: ds) (mset m1 x (.ins C [])) (fun v m2 => v = .non ∧ Q (.ref x) m2)
end
end PD
namespace PD
open PySem PySem.Spec PyProof.Rows L2
def toKeys : List D → Option (List Key)
  | [] => some []
  | d :: ds => match toKey d, toKeys ds with
    | some k, some ks => some (k :: ks)
    | _, _ => none
theorem keys_rep {K : PySem.W.Frag} {H : Hp} : ∀ {ds : List D} {vs : List V} {ks : List Key}, RepL K H ds vs → toKeys ds = some ks → vs = ks.map kV
  | [], _, _, .nil, h => by cases h; rfl
  | d :: ds, _, _, .cons r rs, h => by
    unfold toKeys at h
    split at h
    · rename_i k ks h1 h2
      cases h
      rw [key_rep r h1, keys_rep rs h2]
      rfl
    · cases h
theorem TX.dT {H : Hp} {a : Addr} {us : List (List Key × V)} {o : HO} (h : H a = some (.dT us)) : TX H (upd H a o) := fun b u i e => by
  rw [upd_ne]
  · exact e
  · rintro rfl
    rw [h] at e; cases e; exact i.elim
theorem RM.setT {K : PySem.W.Frag} {H : Hp} {m : Mu} {p : Addr} {kvs : List (List Key × D)} {us ws : List (List Key × V)} (r : RM K H m) (h : H p = some (.dT ws)) (e1 : us.map (·.1) = kvs.map (·.1)) (q : RepL K H (kvs.map (·.2)) (us.map (·.2))) : RM K (upd H p (.dT us)) (mset m p (.dcT kvs)) := fun a o e => by
  by_cases ha : a = p
  · subst ha
    rw [mset_same] at e; cases e
    exact ⟨us, upd_same, e1, q.mono (.dT h)⟩
  · rw [mset_ne ha] at e
    refine (r a o e).tx (.dT h) fun us z => ?_
    rw [upd_ne ha]; exact z
theorem RM.newT {K : PySem.W.Frag} {H : Hp} {m : Mu} {p : Addr} (r : RM K H m) (h : H p = none) : RM K (upd H p (.dT [])) (mset m p (.dcT [])) := fun a o e => by
  by_cases ha : a = p
  · subst ha
    rw [mset_same] at e; cases e
    exact ⟨[], upd_same, rfl, .nil⟩
  · rw [mset_ne ha] at e
    exact r.skip h a o e
def dDNewT : DE := fun _ m Q => ∀ p, m p = none → Q (.ref p) (mset m p (.dcT []))
def dDGetT (dd : DE) (da : DA) : DE := fun s m Q => dd s m fun x m1 => da s m1 fun ds m2 => ds.length ≤ sizeLine ∧ ∃ a kvs ks d, x = .ref a ∧ m2 a = some (.dcT kvs) ∧ toKeys ds = some ks ∧ valD kvs ks = some d ∧ Q d m2
def dDPutT (dd : DE) (da : DA) (dv : DE) : DS := fun E s m => dv s m fun z m1 => dd s m1 fun x m2 => da s m2 fun ds m3 => ds.length ≤ sizeLine ∧ ∃ a kvs ks, x = .ref a ∧ m3 a = some (.dcT kvs) ∧ toKeys ds = some ks ∧ kvs.length < sizeLine ∧ E.nx s (mset m3 a (.dcT (putKD kvs ks z)))
section
variable {X : Cx} {o value : Expr} {es : List Expr} {pos pos' tp : Pos} {dd dv : DE} {da : DA} {kk : Nat}
theorem ge_dnewT : GE X (.Dict [] [] pos) dDNewT :=
  .of ⟨_, pe_dnewT, fun s H sd m Qd Q rs rm h k => fun p hp => k _ _ _ _ (.new hp) (rm.newT hp) (.ref p) (h p (rm.fresh hp))⟩
theorem gs_dputT (hu : X.A.units + 1 < cLine) (ho : GE X o dd) (ha : GA X es da) (hv : GE X value dv) (hs : swapsWith value (some (.Subscript o (.Tuple es kk tp) pos')) pos.line X.env = pure false := by rfl) : GS X (.Assign [.Subscript o (.Tuple es kk tp) pos'] value pos) (dDPutT dd da dv) := by
  obtain ⟨td, pd, ld⟩ := ho.ex
  obtain ⟨ta, pa, la⟩ := ha.ex
  obtain ⟨tv, pv', lv⟩ := hv.ex
  refine ⟨_, ps_dput hu pd (pe_tup pa) pv' hs, fun s H sd m Ed E rs rm h k1 _ _ _ => ?_⟩
  refine lv s H sd m _ _ rs rm h fun z H1 dz m1 t1 rm1 r1 h1 => ?_
  refine ld s H1 sd m1 _ _ (rs.mono t1) rm1 h1 fun x H2 dx m2 t2 rm2 r2 h2 => ?_
  refine la s H2 sd m2 _ _ (rs.mono (t1.trans t2)) rm2 h2 fun vs H3 ds m3 t3 rm3 r3 h3 => ?_
  obtain ⟨hz, a, kvs, ks, rfl, e2, e3, hl, h4⟩ := h3
  cases r2
  obtain ⟨us, e5, e6, r⟩ := rm3 a _ e2
  have hv := keys_rep r3 e3
  subst hv
  have hlen : us.length = kvs.length := by have z := congrArg List.length e6; rwa [List.length_map, List.length_map] at z
  refine ⟨by rw [← r3.length]; exact hz, fun p hp => ?_⟩
  have e5' : (upd H3 p (.tup (ks.map kV))) a = some (.dT us) := by rw [upd_ne (ne_of_none e5 hp)]; exact e5
  have tn : TX H3 (upd H3 p (.tup (ks.map kV))) := .new hp
  have pr := putK_rep (k := ks) e6 (r.mono tn) ((r1.mono (t2.trans t3)).mono tn)
  exact ⟨a, _, rfl, DPut.t e5' upd_same (by omega), k1 _ _ _ _ (t1.trans (t2.trans (t3.trans (tn.trans (.dT e5'))))) ((rs.mono (t1.trans (t2.trans (t3.trans tn)))).mono (.dT e5')) ((rm3.skip hp).setT e5' pr.1 pr.2) h4⟩
end
end PD
namespace PD
open PySem PySem.Spec PyProof.Rows L2
def dDGet2 (dd dk dx : DE) : DE := fun s m Q => dd s m fun x m1 => ∃ a, x = .ref a ∧ (∃ kvs, m1 a = some (.dct kvs)) ∧ dk s m1 fun y m2 => dx s m2 fun z m3 => ∃ kvs k, m3 a = some (.dct kvs) ∧ toKey y = some k ∧ Q ((valD kvs k).getD z) m3
end PD
namespace PD
open PySem PySem.Spec PyProof.Rows L2
def mdel (m : Mu) (a : Addr) : Mu := fun b => if b = a then none else m b
theorem mdel_ne {m : Mu} {a b : Addr} (h : b ≠ a) : mdel m a b = m b := by unfold mdel; rw [if_neg h]
theorem RM.frz {K : PySem.W.Frag} {H : Hp} {m : Mu} {p : Addr} {vs : List V} {od : Obj} (r : RM K H m) (h : H p = some (.lst vs)) : RM K (upd H p (.frz od (.lst vs))) (mdel m p) := fun a o e => by
  by_cases ha : a = p
  · subst ha; unfold mdel at e; rw [if_pos rfl] at e; cases e
  · rw [mdel_ne ha] at e
    refine (r a o e).tx (.lst h) fun us z => ?_
    rw [upd_ne ha]; exact z
def tFrz (t : TE) : TE := fun σ H Q => t σ H fun x H1 => Q x H1 ∨ ∃ p vs, x = .ref p ∧ H1 p = some (.lst vs) ∧ ∀ od, Q x (upd H1 p (.frz od (.lst vs)))
section
variable {X : Cx}
theorem pe_frz {e : Expr} {t : TE} (h : PE X e t) : PE X e (tFrz t) := by
  refine ⟨fun pins s σ H Q I hw => ?_⟩
  refine thn (h.run pins s σ H _ I hw) fun v s1 ⟨x, H1, I1, r, q⟩ => ?_
  rcases q with q | ⟨p, vs, rfl, hp, q⟩
  · exact ⟨x, H1, I1, r, q⟩
  · obtain ⟨od, I2⟩ := I1.lock hp trivial
    exact ⟨_, _, I2, r, q od⟩
def dFrzV (x : D) (m1 : Mu) (Q : DK) : Prop := match x with
  | .ref p => ∃ ds, m1 p = some (.lst ds) ∧ Q (.rol ds) (mdel m1 p)
  | x => Q x m1
def dFrz (d : DE) : DE := fun s m Q => d s m fun x m1 => dFrzV x m1 Q
theorem ge_frz {e : Expr} {d : DE} (h : GE X e d) : GE X e (dFrz d) := by
  obtain ⟨t, p, l⟩ := h.ex
  refine .of ⟨_, pe_frz p, fun s H sd m Qd Q rs rm h k => ?_⟩
  refine l s H sd m _ _ rs rm h fun v H1 dv m1 t1 rm1 r1 h1 => ?_
  cases r1 with
  | ref p =>
    obtain ⟨ds, e1, q⟩ := h1
    obtain ⟨vs, e2, r2⟩ := rm1 p _ e1
    exact .inr ⟨p, vs, rfl, e2, fun od => k _ _ _ _ (t1.trans (.lst e2)) (rm1.frz e2) (.rol (.inl ⟨od, upd_same⟩) (r2.mono (.lst e2))) q⟩
  | non => exact .inl (k _ _ _ _ t1 rm1 .non h1)
  | bl b => exact .inl (k _ _ _ _ t1 rm1 (.bl b) h1)
  | int i => exact .inl (k _ _ _ _ t1 rm1 (.int i) h1)
  | str z => exact .inl (k _ _ _ _ t1 rm1 (.str z) h1)
  | tup s r => exact .inl (k _ _ _ _ t1 rm1 (.tup s r) h1)
  | rol s r => exact .inl (k _ _ _ _ t1 rm1 (.rol s r) h1)
  | dic e n r => exact .inl (k _ _ _ _ t1 rm1 (.dic e n r) h1)
  | dicT e n r => exact .inl (k _ _ _ _ t1 rm1 (.dicT e n r) h1)
  | obj e n r => exact .inl (k _ _ _ _ t1 rm1 (.obj e n r) h1)
def lsq (m : Mu) : D → Option (List D)
  | .rol ds => some ds
  | .ref a => match m a with | some (.lst ds) => some ds | _ => none
  | _ => none
theorem lsq_rep {K : PySem.W.Frag} {H : Hp} {m : Mu} {d : D} {v : V} {ds : List D} (rm : RM K H m) (r : Rep K H d v) (h : lsq m d = some ds) : ∃ a vs, v = .ref a ∧ SqL K H a vs ∧ RepL K H ds vs := by
  cases r with
  | rol s q => unfold lsq at h; cases h; exact ⟨_, _, rfl, s.sq, q⟩
  | ref a =>
    unfold lsq at h
    cases e : m a with
    | none => simp only [e] at h; cases h
    | some o =>
      have q := rm a o e
      cases o with
      | lst es => simp only [e] at h; cases h; obtain ⟨vs, e2, r⟩ := q; exact ⟨a, vs, rfl, SqL.of e2, r⟩
      | _ => simp only [e] at h; cases h
  | _ => unfold lsq at h; cases h
theorem lsq_rol {m : Mu} {ds : List D} : lsq m (.rol ds) = some ds := rfl
theorem lsq_ref {m : Mu} {a : Addr} {ds : List D} (h : m a = some (.lst ds)) : lsq m (.ref a) = some ds := by unfold lsq; simp only [h]
/-- list + list -/
def rCatL (K : PySem.W.Frag) : R2 := fun x y H Q => ∃ l b xs zs, x = .ref l ∧ y = .ref b ∧ SqL K H l xs ∧ SqL K H b zs ∧ xs.length + zs.length ≤ sizeLine ∧ ∀ p, H p = none → Q (.ref p) (upd H p (.lst (xs ++ zs)))
theorem op_catL : OpR X (binaryOp .Add) (rCatL X.K) := by
  intro pins s σ H x y v u Q I rx ry h
  obtain ⟨l, b, xs, zs, rfl, rfl, hH, hB, hz, q⟩ := h
  cases rx
  cases ry
  obtain ⟨its, r, p1, hl⟩ := I.list hH
  obtain ⟨its2, r2, p2, hl2⟩ := I.list hB
  obtain ⟨⟨cls, dd, data, sl⟩, n, ho, hc, hdd, hd⟩ := p1
  obtain ⟨⟨cls2, dd2, data2, sl2⟩, n2, ho2, hc2, hdd2, hd2⟩ := p2
  simp only at hc hd hc2 hd2
  subst hc hd hc2 hd2
  have ea : its.toArray ++ its2.toArray = (its ++ its2).toArray := by simp
  have hz2 : its.toArray.size + its2.toArray.size ≤ sizeLine := by
    have z1 := r.length
    have z2 := r2.length
    simp only [List.size_toArray]; omega
  refine PySem.concat_meets ⟨_, ho, rfl⟩ ⟨_, ho2, rfl⟩ PySem.noFill_list_add PySem.seq_list_add PySem.F.slot_list_add PySem.F.entry_list_add (PySem.F.args_list_add_2 _ _) (list_addW l b its.toArray its2.toArray n n2 dd dd2 sl sl2 hz2) ⟨ho, ho2, ?_⟩
  rw [ea]
  exact ⟨.ref _, _, I.lnew (t' := s.toks) (r.append r2) (by rw [List.length_append]; omega), rfl, q _ I.fresh⟩
def dAddL : D2 := fun x y m Q => match x, y with
  | .int i, .int j => Q (.int (i + j)) m
  | .str i, .str j => i.length + j.length ≤ sizeLine ∧ Q (.str (i ++ j)) m
  | .tup a, .tup b => a.length + b.length ≤ sizeLine ∧ Q (.tup (a ++ b)) m
  | x, y => ∃ xs ys, lsq m x = some xs ∧ lsq m y = some ys ∧ xs.length + ys.length ≤ sizeLine ∧ ∀ p, m p = none → Q (.ref p) (mset m p (.lst (xs ++ ys)))
def rAddL (K : PySem.W.Frag) : R2 := fun x y H Q => rAddU K x y H Q ∨ rCatL K x y H Q
theorem op_addL : OpR X (binaryOp .Add) (rAddL X.K) := op_addU.or op_catL
theorem lr_addL {K : PySem.W.Frag} : LR K (rAddL K) dAddL := fun x y H dx dy m Qd Q rm rx ry h k => by
  have go : (∃ xs ys, lsq m dx = some xs ∧ lsq m dy = some ys ∧ xs.length + ys.length ≤ sizeLine ∧ ∀ p, m p = none → Qd (.ref p) (mset m p (.lst (xs ++ ys)))) → rAddL K x y H Q := by
    rintro ⟨xs, ys, h1, h2, hz, h⟩
    obtain ⟨a, vs, rfl, s1, r1⟩ := lsq_rep rm rx h1
    obtain ⟨b, ws, rfl, s2, r2⟩ := lsq_rep rm ry h2
    exact .inr ⟨a, b, vs, ws, rfl, rfl, s1, s2, by rw [← r1.length, ← r2.length]; exact hz, fun p hp => k _ _ _ _ (.new hp) (rm.newL hp (r1.append r2)) (.ref p) (h p (rm.fresh hp))⟩
  by_cases hi : (∃ i j, dx = .int i ∧ dy = .int j) ∨ (∃ i j, dx = .str i ∧ dy = .str j) ∨ ∃ i j, dx = .tup i ∧ dy = .tup j
  · refine .inl (lr_add x y H dx dy m Qd Q rm rx ry ?_ k)
    rcases hi with ⟨i, j, rfl, rfl⟩ | ⟨i, j, rfl, rfl⟩ | ⟨i, j, rfl, rfl⟩ <;> exact h
  · refine go ?_
    unfold dAddL at h
    split at h
    · exact absurd (.inl ⟨_, _, rfl, rfl⟩) hi
    · exact absurd (.inr (.inl ⟨_, _, rfl, rfl⟩)) hi
    · exact absurd (.inr (.inr ⟨_, _, rfl, rfl⟩)) hi
    · exact h
def dMulL : D2 := fun x y m Q => match x, y with
  | .int i, .int j => CMul i j ∧ Q (.int (i * j)) m
  | .str z, .int n => 0 ≤ n ∧ n ≤ 1000 ∧ z.length ≤ 1000 ∧ Q (.str (repS z n.toNat)) m
  | .ref a, .int n => ∃ xs, m a = some (.lst xs) ∧ -(2 ^ 63) ≤ n ∧ n < 2 ^ 63 ∧ xs.length * n.toNat ≤ sizeLine ∧ ∀ p, m p = none → Q (.ref p) (mset m p (.lst (List.replicate n.toNat xs).flatten))
  | _, _ => False
def rMulL : R2 := fun x y H Q => rMulU x y H Q ∨ rRep x y H Q
theorem op_mulL : OpR X (binaryOp .Mult) rMulL := op_mulU.or op_rep
theorem RepL.repl {K : PySem.W.Frag} {H : Hp} {ds : List D} {vs : List V} (r : RepL K H ds vs) : ∀ n : Nat, RepL K H (List.replicate n ds).flatten (List.replicate n vs).flatten
  | 0 => .nil
  | n + 1 => by rw [List.replicate_succ, List.replicate_succ, List.flatten_cons, List.flatten_cons]; exact r.append (RepL.repl r n)
theorem lr_mulL {K : PySem.W.Frag} : LR K rMulL dMulL := fun x y H dx dy m Qd Q rm rx ry h k => by
  cases rx with
  | int i =>
    cases ry with
    | int j => exact .inl (.inl ⟨i, j, rfl, rfl, h.1, k _ H _ m (.refl H) rm (.int _) h.2⟩)
    | _ => exact h.elim
  | str i =>
    cases ry with
    | int j => exact .inl (.inr ⟨i, j, rfl, rfl, h.1, h.2.1, h.2.2.1, k _ H _ m (.refl H) rm (.str _) h.2.2.2⟩)
    | _ => exact h.elim
  | ref a =>
    cases ry with
    | int j =>
      obtain ⟨xs, e, h1, h2, h3, h4⟩ := h
      obtain ⟨vs, e2, r⟩ := rm a _ e
      exact .inr ⟨a, j, vs, rfl, rfl, e2, h1, h2, by rw [← r.length]; exact h3, fun p hp => k _ _ _ _ (.new hp) (rm.newL hp (r.repl _)) (.ref p) (h4 p (rm.fresh hp))⟩
    | _ => exact h.elim
  | _ => exact h.elim
def dSlL (de : DE) (dl dh : DO) : DE := fun s m Q => de s m fun x m1 => dl s m1 fun lo m2 => dh s m2 fun hi m3 => match x with
  | .tup ds => Q (.tup (cutD ds lo hi)) m3
  | x => ∃ ds, lsq m3 x = some ds ∧ ∀ p, m3 p = none → Q (.ref p) (mset m3 p (.lst (cutD ds lo hi)))
theorem ge_sliceL {e : Expr} {lo hi : Option Expr} {pos p2 : Pos} {de : DE} {dl dh : DO} (he : GE X e de) (hl : GO X lo dl) (hh : GO X hi dh) : GE X (.Subscript e (.Slice lo hi none p2) pos) (dSlL de dl dh) := by
  obtain ⟨te, p, l⟩ := he.ex
  obtain ⟨tl, q, l2⟩ := hl.ex
  obtain ⟨th, q2, l3⟩ := hh.ex
  refine .of ⟨_, pe_slice (sl_tupA.or sl_list) p q q2, fun s H sd m Qd Q rs rm h k => ?_⟩
  refine l s H sd m _ _ rs rm h fun v H1 dv m1 t1 rm1 r1 h1 => ?_
  refine l2 s H1 sd m1 _ _ (rs.mono t1) rm1 h1 fun lo H2 m2 t2 rm2 h2 => ?_
  refine l3 s H2 sd m2 _ _ (rs.mono (t1.trans t2)) rm2 h2 fun hi H3 m3 t3 rm3 h3 => ?_
  have r3 := r1.mono (t2.trans t3)
  have t13 := t1.trans (t2.trans t3)
  by_cases ht : ∃ ds, dv = .tup ds
  · obtain ⟨ds, rfl⟩ := ht
    cases r3 with
    | @tup ds a vs sa ra =>
      refine .inl ⟨a, vs, rfl, sa, fun e => ?_, fun e p hp => ?_⟩
      · have e2 : cutD ds lo hi = ds := by
          unfold cutD
          rw [ra.length, e.1, e.2, List.drop_zero, Nat.sub_zero, ← ra.length, List.take_length]
        have h4 : Qd (.tup (cutD ds lo hi)) m3 := h3
        rw [e2] at h4
        exact k _ H3 _ m3 t13 rm3 (.tup sa ra) h4
      · exact k _ _ _ m3 (t13.trans (.new hp)) (rm3.skip hp) (.tup upd_same ((ra.cut lo hi).mono (.new hp))) h3
  · have h4 : ∃ ds, lsq m3 dv = some ds ∧ ∀ p, m3 p = none → Qd (.ref p) (mset m3 p (.lst (cutD ds lo hi))) := by
      split at h3
      · exact absurd ⟨_, rfl⟩ ht
      · exact h3
    obtain ⟨ds, e, q⟩ := h4
    obtain ⟨a, vs, rfl, sl, r⟩ := lsq_rep rm3 r3 e
    exact .inr ⟨a, vs, rfl, sl, fun p hp => k _ _ _ _ (t13.trans (.new hp)) (rm3.newL hp (r.cut lo hi)) (.ref p) (q p (rm3.fresh hp))⟩
def ltP (x y : D) : Bool := match toP x, toP y with
  | some p, some q => PySem.W.dataLt p q
  | _, _ => false
/-- both can be asked which is less -/
def ordP (x y : D) : Prop := ∃ p q, toP x = some p ∧ toP y = some q ∧ PySem.W.alike p q = true ∧ p ≠ .none ∧ min p.depth q.depth ≤ 60
def rLtS (K : PySem.W.Frag) (f : PyData → PyData → Bool) : R2 := fun x y H Q => ∃ p q, Dp K H x p ∧ Dp K H y q ∧ PySem.W.alike p q = true ∧ p ≠ .none ∧ min p.depth q.depth ≤ 60 ∧ Q (.bl (f p q)) H
theorem op_ltS (hu : X.A.units + 64 < cLine) : OpR X (compareOp .Lt) (rLtS X.K fun p q => PySem.W.dataLt p q) := fun pz s τ H x y v u Q I rx ry ⟨p, q, hp, hq, al, hn, hd, h⟩ => by
  obtain ⟨as, r1⟩ := Dp.reads I _ _ v hp rx
  obtain ⟨bs, r2⟩ := Dp.reads I _ _ u hq ry
  exact PySem.W.lt_data r1 r2 al hn (by omega) ⟨.bl _, H, I, rfl, h⟩
theorem op_gtS (hu : X.A.units + 64 < cLine) : OpR X (compareOp .Gt) (rLtS X.K fun p q => PySem.W.dataLt q p) := fun pz s τ H x y v u Q I rx ry ⟨p, q, hp, hq, al, hn, hd, h⟩ => by
  obtain ⟨as, r1⟩ := Dp.reads I _ _ v hp rx
  obtain ⟨bs, r2⟩ := Dp.reads I _ _ u hq ry
  exact PySem.W.gt_data r1 r2 al hn (by omega) ⟨.bl _, H, I, rfl, h⟩
theorem op_leS (hu : X.A.units + 64 < cLine) : OpR X (compareOp .LtE) (rLtS X.K fun p q => !PySem.W.dataLt q p) := fun pz s τ H x y v u Q I rx ry ⟨p, q, hp, hq, al, hn, hd, h⟩ => by
  obtain ⟨as, r1⟩ := Dp.reads I _ _ v hp rx
  obtain ⟨bs, r2⟩ := Dp.reads I _ _ u hq ry
  exact PySem.W.le_data r1 r2 al hn (by omega) ⟨.bl _, H, I, rfl, h⟩
def dLtS (f : D → D → Bool) : D2 := fun x y m Q => ordP x y ∧ Q (.bl (f x y)) m
theorem lr_ltS {K : PySem.W.Frag} {f : PyData → PyData → Bool} {g : D → D → Bool} (hg : ∀ x y p q, toP x = some p → toP y = some q → g x y = f p q) : LR K (rLtS K f) (dLtS g) := fun x y H dx dy m Qd Q rm rx ry ⟨⟨p, q, e1, e2, al, hn, hd⟩, h⟩ k =>
  ⟨p, q, rx.dp e1, ry.dp e2, al, hn, hd, by rw [← hg _ _ _ _ e1 e2]; exact k _ H _ m (.refl H) rm (.bl _) h⟩
theorem ltP_eq {x y : D} {p q : PyData} (e1 : toP x = some p) (e2 : toP y = some q) : ltP x y = PySem.W.dataLt p q := by unfold ltP; rw [e1, e2]
theorem lr_ltP {K : PySem.W.Frag} : LR K (rLtS K fun p q => PySem.W.dataLt p q) (dLtS ltP) := lr_ltS fun _ _ _ _ e1 e2 => ltP_eq e1 e2
theorem lr_gtP {K : PySem.W.Frag} : LR K (rLtS K fun p q => PySem.W.dataLt q p) (dLtS fun x y => ltP y x) := lr_ltS fun _ _ _ _ e1 e2 => ltP_eq e2 e1
theorem lr_leP {K : PySem.W.Frag} : LR K (rLtS K fun p q => !PySem.W.dataLt q p) (dLtS fun x y => !ltP y x) := lr_ltS fun _ _ _ _ e1 e2 => by rw [ltP_eq e2 e1]
theorem ordP_i (i j : Int) : ordP (.int i) (.int j) := ⟨.int i, .int j, rfl, rfl, rfl, (fun z => by cases z), by show min 0 0 ≤ 60; decide⟩
theorem ordP_s (i j : Str) : ordP (.str i) (.str j) := ⟨.str i, .str j, rfl, rfl, rfl, (fun z => by cases z), by show min 0 0 ≤ 60; decide⟩
theorem ltP_i (i j : Int) : ltP (.int i) (.int j) = decide (i < j) := PySem.W.dataLt_int i j
theorem ltP_s (i j : Str) : ltP (.str i) (.str j) = decide (i.cps.toList < j.cps.toList) := PySem.W.dataLt_str i j
theorem dLtS_i {f : D → D → Bool} {i j : Int} {m : Mu} {Q : DK} : dLtS f (.int i) (.int j) m Q = Q (.bl (f (.int i) (.int j))) m := propext ⟨fun h => h.2, fun h => ⟨ordP_i i j, h⟩⟩
theorem dLtS_s {f : D → D → Bool} {i j : Str} {m : Mu} {Q : DK} : dLtS f (.str i) (.str j) m Q = Q (.bl (f (.str i) (.str j))) m := propext ⟨fun h => h.2, fun h => ⟨ordP_s i j, h⟩⟩
def eqP (x y : D) : Bool := match toP x, toP y with
  | some p, some q => PyData.eqv p q
  | _, _ => false
def inP (x : D) (ds : List D) : Bool := ds.any fun y => eqP y x
def rInP (K : PySem.W.Frag) (neg : Bool) : R2 := fun x y H Q => ∃ (p : PyData) (ps : List PyData), Dp K H x p ∧ (Dp K H y (.list ps) ∨ Dp K H y (.tuple ps)) ∧ PyData.plainAll ps = true ∧ p.plain = true ∧ min (PyData.depthAll ps) p.depth ≤ 60 ∧ Q (.bl (if neg then !ps.any fun z => PyData.eqv z p else ps.any fun z => PyData.eqv z p)) H
theorem op_notInP (hu : X.A.units + 64 < cLine) : OpR X (compareOp .NotIn) (rInP X.K true) := fun pz s τ H x y v u Q I rx ry ⟨p, ps, hp, hq, h1, h2, hd, h⟩ => by
  obtain ⟨as, r1⟩ := Dp.reads I _ _ v hp rx
  rcases hq with hq | hq
  · obtain ⟨bs, r2⟩ := Dp.reads I _ _ u hq ry
    exact PySem.SeqAt.notIn_list_data r2 r1 h1 h2 (by omega) ⟨.bl _, H, I, rfl, h⟩
  · obtain ⟨bs, r2⟩ := Dp.reads I _ _ u hq ry
    exact PySem.SeqAt.notIn_tuple_data r2 r1 h1 h2 (by omega) ⟨.bl _, H, I, rfl, h⟩
end
end PD
namespace PySem.W
open PySem PySem.Calls PyProof.Rows
end PySem.W
namespace PD
open PySem PySem.Spec PyProof.Rows L2
open PySem.W (EachIs AllAlike Sortable dataLe AlikeAll minD maxD)
def encP (d : D) : PyData := (toP d).getD .none
/-- all have data -/
def datL (ds : List D) : Prop := ∀ d ∈ ds, (toP d).isSome
section
variable {X : Cx}
/-- what sorted, min and max ask of the items -/
structure OrdL (ds : List D) : Prop where
  dat : datL ds
  al : ∀ x ∈ ds, ∀ y ∈ ds, PySem.W.alike (encP x) (encP y) = true
  dep : ∀ x ∈ ds, (encP x).depth ≤ 50
theorem OrdL.all {ds : List D} (h : OrdL ds) : AllAlike (ds.map encP) := fun d hd d' hd' => by
  obtain ⟨x, hx, rfl⟩ := List.mem_map.mp hd
  obtain ⟨y, hy, rfl⟩ := List.mem_map.mp hd'
  exact h.al x hx y hy
theorem OrdL.alike {ds : List D} (h : OrdL ds) (hn : ∀ x ∈ ds, encP x ≠ .none) : AlikeAll (ds.map encP) := ⟨h.all, fun p hp => by
  obtain ⟨x, hx, rfl⟩ := List.mem_map.mp hp
  exact hn x hx⟩
/-- min, max: of one sequence, or of two ints -/
def dMinU (f : PyData → List PyData → PyData) (g : Int → Int → Int) : DC := fun ds m Q => match ds with
  | [x] => ∃ d es, seqOf m x = some (d :: es) ∧ OrdL (d :: es) ∧ (∀ x ∈ d :: es, encP x ≠ .none) ∧ ∀ x ∈ d :: es, encP x = f (encP d) (es.map encP) → Q x m
  | [.int i, .int j] => Q (.int (g i j)) m
  | _ => False
def rSumS (K : PySem.W.Frag) : List V → Hp → VK → Prop := fun vs H Q => ∃ (a : Addr) (ns : List Int), vs = [V.ref a] ∧ (SqL K H a (ns.map V.int) ∨ SqT K H a (ns.map V.int)) ∧ Q (.int ns.sum) H
theorem cr_sumS (hc : X.calm = true) : CallR X (.builtin "sum") (rSumS X.K) := by
  intro pins s σ H vs us Q I r h
  obtain ⟨a, ns, rfl, hs, q⟩ := h
  rcases hs with hs | hs
  · exact cr_sum hc pins s σ H _ us Q I r ⟨a, ns, rfl, hs, q⟩
  · rw [Vals.ref1 r]
    obtain ⟨its, rv, pl, _⟩ := I.tuple hs
    have hi := rv.ints
    obtain ⟨xs, hx⟩ := hi.allInts.items
    have hn : PySem.numsOf its.toArray.toList = ns := by rw [show its.toArray.toList = its from rfl, hi.numsOf]
    rw [hx] at hn pl
    rw [nums_intItems] at hn
    refine PySem.W.ktm_sumG (I.ok.hd hc) pl fun h' tk t' hk => ?_
    rw [preSum_eq, List.take_of_length_le (by simp), hn]
    exact ⟨.int _, H, I.kept hk, ⟨_, rfl⟩, q⟩
def dSumL : DC := fun ds m Q => match ds with
  | [x] => ∃ ns : List Int, seqOf m x = some (ns.map .int) ∧ Q (.int ns.sum) m
  | _ => False
theorem lc_sumL {K : PySem.W.Frag} : LC K (rSumS K) dSumL := fun vs H ds m Qd Q rm r h k => by
  match ds, r, h with
  | [x], r, h =>
    obtain ⟨ns, e, q⟩ := h
    obtain ⟨v, rfl, ra9⟩ := repL1 r
    obtain ⟨a, ws, rfl, s, r2⟩ := seq_rep rm ra9 e
    have := rep_ints r2
    subst this
    exact ⟨a, ns, rfl, s, k _ _ _ _ (.refl H) rm (.int _) q⟩
theorem lr_inP {K : PySem.W.Frag} {neg : Bool} : LR K (rInP K neg) (fun x y m Q => ∃ ds p ps, seqOf m y = some ds ∧ toP x = some p ∧ toPs ds = some ps ∧ PyData.plainAll ps = true ∧ p.plain = true ∧ min (PyData.depthAll ps) p.depth ≤ 60 ∧ Q (.bl (if neg then !ps.any fun z => PyData.eqv z p else ps.any fun z => PyData.eqv z p)) m) := fun x y H dx dy m Qd Q rm rx ry ⟨ds, p, ps, e, e1, e2, h1, h2, h3, h4⟩ k => by
  obtain ⟨a, vs, rfl, s, r⟩ := seq_rep rm ry e
  refine ⟨p, ps, rx.dp e1, ?_, h1, h2, h3, k _ H _ m (.refl H) rm (.bl _) h4⟩
  rcases s with s | s
  · exact .inl (.lst s (r.dp e2))
  · exact .inr (.tup s (r.dp e2))
end
end PD
namespace TXS
open PySem PySem.Spec PyProof.Rows L2 PySem.Froz
/-- the table's places rise, and it tells its order -/
def TxS (w : World) (dat : SD) : Prop := Ris dat.2.2.place.toList ∧ (w.params.followText "set-order" = true ∨ dat.2.2.led = true)
theorem tailTx_s {w : World} {ep : Nat} {es : Array (Int × Value)} {tb : SetTable} {wd : Bool} (r : Ris tb.place.toList) (l : w.params.followText "set-order" = true ∨ tb.led = true) : TxS w (tailTx ep es tb wd) := by
  unfold tailTx
  split
  · exact ⟨relayAll_ris _ _ _, l.imp id fun z => by show (relayAll tb es _).2.1.led = true; rw [relayAll_led]; exact z⟩
  · exact ⟨r, l⟩
theorem addTx_s {w : World} {hv : Int} {v : Value} {dat : SD} (st : TxS w dat) : TxS w (addTx hv v dat) := by
  obtain ⟨es, ep, tb⟩ := dat
  have r1 := layNew_ris tb es hv v st.1
  have l1 : w.params.followText "set-order" = true ∨ (layNew tb es hv v).2.1.led = true := st.2.imp id fun z => by rw [layNew_led]; exact z
  unfold addTx
  refine tailTx_s ?_ ?_
  · dsimp only; split
    · exact r1
    · exact r1
  · dsimp only; split
    · exact l1
    · exact l1
/-- at a stands the set of the unlike texts l -/
def TxAt (P : Program) (w : World) (h : Heap) (a : Addr) (l : List Str) : Prop := ∃ dat : SD, h.get? a = some (sObj "set" dat) ∧ TxOk P w dat l ∧ TxS w dat ∧ l.Nodup
theorem TxAt.at {P : Program} {w : World} {h h' : Heap} {a : Addr} {l : List Str} (R : TxAt P w h a l) (k : ∀ o, h.get? a = some o → h'.get? a = some o) : TxAt P w h' a l := by
  obtain ⟨dat, e, r⟩ := R
  exact ⟨dat, k _ e, r⟩
def putT (k : Str) (l : List Str) : List Str := if k ∈ l then l else k :: l
theorem putT_nodup {k : Str} {l : List Str} (h : l.Nodup) : (putT k l).Nodup := by
  unfold putT
  split
  · exact h
  · rename_i q; exact List.nodup_cons.mpr ⟨q, h⟩
theorem putT_mem {k x : Str} {l : List Str} : x ∈ putT k l ↔ x = k ∨ x ∈ l := by
  unfold putT
  split
  · rename_i q
    exact ⟨.inr, fun z => z.elim (fun e => e ▸ q) id⟩
  · exact List.mem_cons
theorem putT_len (k : Str) (l : List Str) : (putT k l).length ≤ l.length + 1 := by
  unfold putT
  split
  · omega
  · exact Nat.le_refl _
section
variable {P : Program} {w : World} {A : Around} {E : Value → Shared → Prop} {s : Shared}
theorem tx_add {a : Addr} {l : List Str} {k : Str} {u : Tok} {Q : Bool → Shared → Prop} (R : TxAt P w s.heap a l) (room : l.length + 1 < scanBound)
    (hQ : ∀ b h', Heap.SameBut a s.heap h' → TxAt P w h' a (putT k l) → Q b { s with heap := h' }) : wpAny (model P w) A (setAddHashed a (.str k u) (hashStr w k)) Q E s := by
  obtain ⟨dat, hob, F, st, nd⟩ := R
  by_cases hk : k ∈ l
  · obtain ⟨es, ep, tb⟩ := dat
    have hpay : (sObj "set" (es, ep, tb)).data = .set es ep tb := rfl
    have lz : es.size = l.length := F.sz
    have small : es.size < scanBound := by omega
    have same : putT k l = l := by unfold putT; rw [if_pos hk]
    have kk : (strKind P w).is k (.str k u) = true := is_str k u
    unfold setAddHashed setAddHashedIn
    refine wpAny_holding (wpAny_bind (wpAny_setState_of hob hpay F.fit ?_))
    dsimp only
    rw [byScan_of rfl small F.el]
    simp only [↓reduceIte]
    unfold setAddByScan
    refine wpAny_bind ?_
    refine wpAny_bind (wpAny_rule ?_)
    refine wpAny_bind (wpAny_setScan_of (knd := strKind P w) (k := k) kk hob hpay F.fit F.el ?_)
    cases place : List.findIdx? (fun e => (strKind P w).is k e.2) es.toList with
    | none =>
      obtain ⟨e, he, z⟩ := (F.mem k).mp hk
      have c := List.findIdx?_eq_none_iff.mp place e he
      rw [z] at c
      cases c
    | some j =>
      dsimp only
      refine wpAny_pure (wpAny_pure (hQ _ s.heap (Heap.SameBut.refl a s.heap) ?_))
      rw [same]
      exact ⟨_, hob, F, st, nd⟩
  · have more : putT k l = k :: l := by unfold putT; rw [if_neg hk]
    refine add_x hob F hk room (hQ _ _ (Heap.SameBut.update s.heap a _) ?_)
    rw [more]
    exact ⟨_, get_upd _ hob rfl, add_ok u F, addTx_s st, List.nodup_cons.mpr ⟨hk, nd⟩⟩
/-- what the texts put one after another leave -/
def allT : List Str → List Str → List Str
  | [], l => l
  | x :: xs, l => allT xs (putT x l)
theorem allT_nodup : ∀ {xs l : List Str}, l.Nodup → (allT xs l).Nodup
  | [], _, h => h
  | y :: ys, l, h => by unfold allT; exact allT_nodup (putT_nodup h)
theorem allT_mem {x : Str} : ∀ {xs l : List Str}, x ∈ allT xs l ↔ x ∈ xs ∨ x ∈ l
  | [], l => by simp [allT]
  | y :: xs, l => by
    unfold allT
    rw [allT_mem, putT_mem, List.mem_cons]
    constructor
    · rintro (h | h | h)
      · exact .inl (.inr h)
      · exact .inl (.inl h)
      · exact .inr h
    · rintro ((h | h) | h)
      · exact .inr (.inl h)
      · exact .inl h
      · exact .inr (.inr h)
theorem allT_len : ∀ (xs l : List Str), (allT xs l).length ≤ xs.length + l.length
  | [], l => by unfold allT; simp
  | x :: xs, l => by
    unfold allT
    have h1 := allT_len xs (putT x l)
    have h2 := putT_len x l
    rw [List.length_cons]
    omega
theorem allT_snoc (y : Str) : ∀ (xs l : List Str), allT (xs ++ [y]) l = putT y (allT xs l)
  | [], l => rfl
  | x :: xs, l => allT_snoc y xs (putT x l)
theorem tx_loop {I : Addr} {fp wr : List Addr} {G : Array GenState → Array GenState → Prop} {n : Nat} {Pv : Nat → Value → Prop} {St : Nat → Shared → Prop} {R : Result → Shared → Prop}
    (W : WalksS P w A.in1 I fp wr G n Pv St) (S : Addr) (out : S ∉ fp) (xs : List Str) (hn : n = xs.length) (room : xs.length + 1 < scanBound) (item : ∀ i v, Pv i v → ∃ k t, xs[i]? = some k ∧ v = .str k t)
    (hR : ∀ t', TxAt P w t'.heap S (allT xs []) → ∀ s0, Moved (S :: wr) G s0 t' → s0 = s → R (.ok (.ret .none)) t') :
    ∀ (left i : Nat) (t : Shared), n - i = left → i ≤ n → St i t → TxAt P w t.heap S (allT (xs.take i) []) → Moved (S :: wr) G s t →
      codeAny (model P w) A (.builtin "set.update.loop" ⟨[.ref S, .ref I], []⟩) R t := by
  have notW : S ∉ wr := fun z => out (W.sub _ z)
  have wider : ∀ b ∈ wr, b ∈ S :: wr := fun b hb => List.mem_cons_of_mem _ hb
  intro left
  induction left with
  | zero =>
    intro i t hl hi hst hT hm0
    obtain rfl : i = n := by omega
    refine codeAny_builtin F.entry_set_update_loop ?_
    rw [Around.under_plainId F.plain_set_update_loop _]
    refine wpAny_bind (W.done t _ _ hst fun t' hm => ?_)
    rw [List.take_of_length_le (Nat.le_of_eq hn.symm)] at hT
    exact wpAny_pure (hR t' (hT.at fun o e => hm.heap S o notW e) s (Moved.trans W.gtrans hm0 (hm.mono wider)) rfl)
  | succ left ih =>
    intro i t hl hi hst hT hm0
    have more : i < n := by omega
    refine codeAny_builtin F.entry_set_update_loop ?_
    rw [Around.under_plainId F.plain_set_update_loop _]
    refine wpAny_bind (W.item i t _ _ more hst fun v t' hv hst' hm => ?_)
    obtain ⟨k, tok, hx, rfl⟩ := item i v hv
    have hT' : TxAt P w t'.heap S (allT (xs.take i) []) := hT.at fun o e => hm.heap S o notW e
    have len1 : (allT (xs.take i) []).length + 1 < scanBound := by
      have z1 := allT_len (xs.take i) []
      have z2 := List.length_take_le i xs
      have z3 := List.length_take_le' i xs
      simp only [List.length_nil] at z1
      omega
    refine wpAny_bind (wpAny_holding ?_)
    unfold setAdd
    refine wpAny_holding ?_
    refine wpAny_bind ((strKind P w).pyHash (k := k) (strKind_is _ _ _ _) ?_)
    refine tx_add (s := { t' with toks := t'.toks + 1 }) hT' len1 fun b h' sb hT2 => ?_
    rw [← allT_snoc, show xs.take i ++ [k] = xs.take (i + 1) by rw [List.take_add_one, hx]; rfl] at hT2
    have frame : ∀ c o, c ≠ S → t'.heap.get? c = some o → h'.get? c = some o := fun c o hc e => by rw [sb.2 c hc]; exact e
    refine wpAny_pure ⟨plainId_quiet F.plain_set_update_loop _, ih (i + 1) _ (by omega) more (W.frame _ t' _ _ hst' (Nat.le_succ _) fun c hc o e => frame c o (fun z => out (z ▸ hc)) e) hT2 ?_⟩
    exact Moved.trans W.gtrans hm0 ((hm.mono wider).then_heap (Nat.le_succ _) fun c o hc e => frame c o (fun z => hc (by rw [z]; exact List.mem_cons_self)) e)
set_option maxHeartbeats 8000000 in
theorem set_of_list {l : Addr} {cells : Array Value} (xs : List Str) {Q : Value → Shared → Prop} (calm : A.handled = none) (seq : s.heap.IsList l cells) (txt : StrsAre cells.toList xs) (room : xs.length + 1 < scanBound)
    (fin : ∀ (h' : Heap) (tk : Nat), TxAt P w h' s.heap.objs.size (allT xs []) → (∀ b o, s.heap.get? b = some o → h'.get? b = some o) → Q (.ref s.heap.objs.size) { s with heap := h', toks := tk }) :
    wpAny (model P w) A (call (.type "set") [.ref l]) Q E s := by
  have num : cells.size = xs.length := by
    rw [← Array.length_toList]; exact txt.length
  have mro := F.called_set.mro
  obtain ⟨c9, tl9, mro9⟩ := mro
  have made9 := F.called_set.made
  have sub9 := F.called_set.sub
  refine wpAny_call (codeAny_of_tree ?_)
  refine wpAny_pure ⟨Code.quiet_builtin _ (by decide +kernel), codeAny_builtin F.entry_type_call ?_⟩
  rw [Around.under_plain (weight_type_call_type "set" [.ref l] []) rfl]
  have not9 := F.called_set.notType
  have can9 := F.called_set.canCreate
  have ct9 := F.typeCall_set_1 (.ref l)
  repeat (any_goals (first | assumption | wp_step))
  obtain ⟨empty9, he9⟩ : ∃ o : Obj, o = { cls := .type "set", dict := none, data := .set #[] 0 (.fresh 0 0 (!w.params.followText "set-order")) } := ⟨_, rfl⟩
  refine codeAny_mono (code_set_led1 (.ref l) (E := E) (Q₁ := fun obj s9 => obj = .ref s.heap.objs.size ∧ s9 = { s with heap := s.heap.push empty9 }) ⟨rfl, by rw [he9]⟩) fun r9 s9 out9 => ?_
  cases r9 with
  | error e => exact out9
  | ok fl =>
    cases fl with
    | ret obj =>
      obtain ⟨rfl, rfl⟩ := out9
      have at9 : (s.heap.push empty9).get? s.heap.objs.size = some ({ cls := .type "set", dict := none, data := .set #[] 0 (.fresh 0 0 (!w.params.followText "set-order")) } : Obj) := by rw [← he9]; exact Heap.get?_push_size _ (by rw [he9]; rfl)
      have ty9 : Shared.TypeIs { s with heap := s.heap.push empty9 } (.ref s.heap.objs.size) "set" := ⟨_, at9, rfl⟩
      have li9 := F.called_set.init.lookup
      have bi9 := F.called_set.init.bind (.ref s.heap.objs.size)
      repeat (any_goals (first | assumption | wp_step))
      refine codeAny_mono (codeAny_call_builtin (R := wants (fun r s8 => r = .none ∧ ∃ h' tk, s8 = { s with heap := h', toks := tk } ∧ TxAt P w h' s.heap.objs.size (allT xs []) ∧
          (∀ b o, s.heap.get? b = some o → h'.get? b = some o)) E) F.called_set.init.plain F.entry_set_init (check_set_init_1 ty9 ?_)) fun r8 s8 out8 => ?_
      · obtain ⟨⟨ocls, odict, odata, oslots⟩, hol, hcl, nl, hdl⟩ := seq
        simp only at hcl hdl
        subst hcl hdl
        have in9 : (s.heap.push empty9).get? l = some { cls := .type "list", dict := odict, data := .seq cells nl, slots := oslots } := Heap.get?_push_of_some _ hol
        have no1 := F.sub_list_set
        have no2 := F.sub_list_frozenset
        have no3 : (Value.type "list" == Value.type "dict") = false := by decide
        have seq9 : (s.heap.push empty9).IsList l cells := ⟨_, in9, rfl, nl, rfl⟩
        unfold Builtin.«set.__init__» noKeywords Builtin.Frozenset.updateFrom
        generalize it9 : pyIter = PI
        wp_walk
        subst it9
        refine wpAny_pyIter_list seq9 ?_
        refine wpAny_bind (wpAny_runValue ?_)
        have low : l < s.heap.objs.size := Heap.lt_size hol
        have calm3 : A.in1.in1.in1.handled = none := by simp [calm]
        have z9 : (s.heap.push empty9).objs.size = s.heap.objs.size + 1 := Heap.size_push ..
        have apart : l ≠ (s.heap.push empty9).objs.size := by rw [z9]; exact Nat.ne_of_lt (Nat.lt_succ_of_lt low)
        have off : s.heap.objs.size ∉ [(s.heap.push empty9).objs.size, l] := fun z => by
          rcases List.mem_cons.mp z with z | z
          · rw [z9] at z; exact absurd z (Nat.ne_of_lt (Nat.lt_succ_self _))
          · rw [← List.mem_singleton.mp z] at low; exact Nat.lt_irrefl _ low
        have item : ∀ (i : Nat) (v : Value), cells[i]? = some v → ∃ k t, xs[i]? = some k ∧ v = .str k t := fun i v hv => by
          have hi : i < xs.length := by rw [← num]; exact (Array.getElem?_eq_some_iff.mp hv).1
          obtain ⟨t, e⟩ := SS.strs_at txt i v (by rw [Array.getElem?_toList]; exact hv)
          refine ⟨xs[i], t, List.getElem?_eq_getElem hi, ?_⟩
          rw [e, List.getD_eq_getElem?_getD, List.getElem?_eq_getElem hi] <;> rfl
        refine tx_loop ((Walks.list calm3 _ l apart cells).toS) s.heap.objs.size off xs num room item ?hR (cells.size - 0) 0 _ (by omega) (Nat.zero_le _)
          ⟨⟨_, Heap.get?_push_size _ rfl, rfl, rfl⟩, (seq9.push _)⟩ ?hS0 (Moved.refl (fun _ => rfl))
        case hS0 =>
          have get9 : ((s.heap.push empty9).push { cls := .type "list_iterator", data := .fields #[.ref l, .int 0 0] }).get? s.heap.objs.size = some ({ cls := .type "set", dict := none, data := .set #[] 0 (.fresh 0 0 (!w.params.followText "set-order")) } : Obj) := Heap.get?_push_of_some _ at9
          refine ⟨(#[], 0, .fresh 0 0 (!w.params.followText "set-order")), get9, TxOk.nil (by rfl), ⟨List.Pairwise.nil, ?_⟩, List.nodup_nil⟩
          show _ ∨ (!w.params.followText "set-order") = true
          cases w.params.followText "set-order"
          · exact .inr rfl
          · exact .inl rfl
        case hR =>
          intro t' hT s0 hm hs0
          subst hs0
          obtain ⟨h', g2, d', tk', os'⟩ := t'
          have eg : g2 = s.gens := hm.gens
          have ed : d' = s.drawn := hm.drawn
          have eo : os' = s.os := hm.os
          subst eg ed eo
          refine wpAny_pure ?_
          refine wpAny_pure ⟨rfl, h', tk', rfl, hT, fun b o e => ?_⟩
          have hb0 : b < s.heap.objs.size := Heap.lt_size e
          exact hm.heap b o (fun z => by
            rcases List.mem_cons.mp z with z | z
            · exact absurd z (Nat.ne_of_lt hb0)
            · rcases List.mem_singleton.mp z with z
              rw [z9] at z; exact absurd z (Nat.ne_of_lt (Nat.lt_succ_of_lt hb0))) (Heap.get?_push_of_some _ (Heap.get?_push_of_some _ e))
      · cases r8 with
        | error e => exact out8
        | ok fl8 =>
          cases fl8 with
          | ret r =>
            obtain ⟨rfl, h', tk, rfl, hT, hk⟩ := out8
            repeat (any_goals (first | assumption | wp_step))
            exact fin _ _ hT hk
          | _ => exact out8.elim
    | _ => exact out9.elim
set_option maxHeartbeats 8000000 in
theorem set_of_tuple {l : Addr} {cells : Array Value} (xs : List Str) {Q : Value → Shared → Prop} (calm : A.handled = none) (seq : s.heap.IsTuple l cells) (txt : StrsAre cells.toList xs) (room : xs.length + 1 < scanBound)
    (fin : ∀ (h' : Heap) (tk : Nat), TxAt P w h' s.heap.objs.size (allT xs []) → (∀ b o, s.heap.get? b = some o → h'.get? b = some o) → Q (.ref s.heap.objs.size) { s with heap := h', toks := tk }) :
    wpAny (model P w) A (call (.type "set") [.ref l]) Q E s := by
  have num : cells.size = xs.length := by
    rw [← Array.length_toList]; exact txt.length
  have mro := F.called_set.mro
  obtain ⟨c9, tl9, mro9⟩ := mro
  have made9 := F.called_set.made
  have sub9 := F.called_set.sub
  refine wpAny_call (codeAny_of_tree ?_)
  refine wpAny_pure ⟨Code.quiet_builtin _ (by decide +kernel), codeAny_builtin F.entry_type_call ?_⟩
  rw [Around.under_plain (weight_type_call_type "set" [.ref l] []) rfl]
  have not9 := F.called_set.notType
  have can9 := F.called_set.canCreate
  have ct9 := F.typeCall_set_1 (.ref l)
  repeat (any_goals (first | assumption | wp_step))
  obtain ⟨empty9, he9⟩ : ∃ o : Obj, o = { cls := .type "set", dict := none, data := .set #[] 0 (.fresh 0 0 (!w.params.followText "set-order")) } := ⟨_, rfl⟩
  refine codeAny_mono (code_set_led1 (.ref l) (E := E) (Q₁ := fun obj s9 => obj = .ref s.heap.objs.size ∧ s9 = { s with heap := s.heap.push empty9 }) ⟨rfl, by rw [he9]⟩) fun r9 s9 out9 => ?_
  cases r9 with
  | error e => exact out9
  | ok fl =>
    cases fl with
    | ret obj =>
      obtain ⟨rfl, rfl⟩ := out9
      have at9 : (s.heap.push empty9).get? s.heap.objs.size = some ({ cls := .type "set", dict := none, data := .set #[] 0 (.fresh 0 0 (!w.params.followText "set-order")) } : Obj) := by rw [← he9]; exact Heap.get?_push_size _ (by rw [he9]; rfl)
      have ty9 : Shared.TypeIs { s with heap := s.heap.push empty9 } (.ref s.heap.objs.size) "set" := ⟨_, at9, rfl⟩
      have li9 := F.called_set.init.lookup
      have bi9 := F.called_set.init.bind (.ref s.heap.objs.size)
      repeat (any_goals (first | assumption | wp_step))
      refine codeAny_mono (codeAny_call_builtin (R := wants (fun r s8 => r = .none ∧ ∃ h' tk, s8 = { s with heap := h', toks := tk } ∧ TxAt P w h' s.heap.objs.size (allT xs []) ∧
          (∀ b o, s.heap.get? b = some o → h'.get? b = some o)) E) F.called_set.init.plain F.entry_set_init (check_set_init_1 ty9 ?_)) fun r8 s8 out8 => ?_
      · obtain ⟨⟨ocls, odict, odata, oslots⟩, hol, hcl, nl, hdl⟩ := seq
        simp only at hcl hdl
        subst hcl hdl
        have in9 : (s.heap.push empty9).get? l = some { cls := .type "tuple", dict := odict, data := .seq cells nl, slots := oslots } := Heap.get?_push_of_some _ hol
        have no1 := F.sub_tuple_set
        have no2 := F.sub_tuple_frozenset
        have no3 : (Value.type "tuple" == Value.type "dict") = false := by decide
        have seq9 : (s.heap.push empty9).IsTuple l cells := ⟨_, in9, rfl, nl, rfl⟩
        unfold Builtin.«set.__init__» noKeywords Builtin.Frozenset.updateFrom
        generalize it9 : pyIter = PI
        wp_walk
        subst it9
        refine wpAny_pyIter_tuple seq9 ?_
        refine wpAny_bind (wpAny_runValue ?_)
        have low : l < s.heap.objs.size := Heap.lt_size hol
        have calm3 : A.in1.in1.in1.handled = none := by simp [calm]
        have z9 : (s.heap.push empty9).objs.size = s.heap.objs.size + 1 := Heap.size_push ..
        have apart : l ≠ (s.heap.push empty9).objs.size := by rw [z9]; exact Nat.ne_of_lt (Nat.lt_succ_of_lt low)
        have off : s.heap.objs.size ∉ [(s.heap.push empty9).objs.size, l] := fun z => by
          rcases List.mem_cons.mp z with z | z
          · rw [z9] at z; exact absurd z (Nat.ne_of_lt (Nat.lt_succ_self _))
          · rw [← List.mem_singleton.mp z] at low; exact Nat.lt_irrefl _ low
        have item : ∀ (i : Nat) (v : Value), cells[i]? = some v → ∃ k t, xs[i]? = some k ∧ v = .str k t := fun i v hv => by
          have hi : i < xs.length := by rw [← num]; exact (Array.getElem?_eq_some_iff.mp hv).1
          obtain ⟨t, e⟩ := SS.strs_at txt i v (by rw [Array.getElem?_toList]; exact hv)
          refine ⟨xs[i], t, List.getElem?_eq_getElem hi, ?_⟩
          rw [e, List.getD_eq_getElem?_getD, List.getElem?_eq_getElem hi] <;> rfl
        refine tx_loop ((Walks.tuple calm3 _ l apart cells).toS) s.heap.objs.size off xs num room item ?hR (cells.size - 0) 0 _ (by omega) (Nat.zero_le _)
          ⟨⟨_, Heap.get?_push_size _ rfl, rfl, rfl⟩, (seq9.push _)⟩ ?hS0 (Moved.refl (fun _ => rfl))
        case hS0 =>
          have get9 : ((s.heap.push empty9).push { cls := .type "tuple_iterator", data := .fields #[.ref l, .int 0 0] }).get? s.heap.objs.size = some ({ cls := .type "set", dict := none, data := .set #[] 0 (.fresh 0 0 (!w.params.followText "set-order")) } : Obj) := Heap.get?_push_of_some _ at9
          refine ⟨(#[], 0, .fresh 0 0 (!w.params.followText "set-order")), get9, TxOk.nil (by rfl), ⟨List.Pairwise.nil, ?_⟩, List.nodup_nil⟩
          show _ ∨ (!w.params.followText "set-order") = true
          cases w.params.followText "set-order"
          · exact .inr rfl
          · exact .inl rfl
        case hR =>
          intro t' hT s0 hm hs0
          subst hs0
          obtain ⟨h', g2, d', tk', os'⟩ := t'
          have eg : g2 = s.gens := hm.gens
          have ed : d' = s.drawn := hm.drawn
          have eo : os' = s.os := hm.os
          subst eg ed eo
          refine wpAny_pure ?_
          refine wpAny_pure ⟨rfl, h', tk', rfl, hT, fun b o e => ?_⟩
          have hb0 : b < s.heap.objs.size := Heap.lt_size e
          exact hm.heap b o (fun z => by
            rcases List.mem_cons.mp z with z | z
            · exact absurd z (Nat.ne_of_lt hb0)
            · rcases List.mem_singleton.mp z with z
              rw [z9] at z; exact absurd z (Nat.ne_of_lt (Nat.lt_succ_of_lt hb0))) (Heap.get?_push_of_some _ (Heap.get?_push_of_some _ e))
      · cases r8 with
        | error e => exact out8
        | ok fl8 =>
          cases fl8 with
          | ret r =>
            obtain ⟨rfl, h', tk, rfl, hT, hk⟩ := out8
            repeat (any_goals (first | assumption | wp_step))
            exact fin _ _ hT hk
          | _ => exact out8.elim
    | _ => exact out9.elim
end
end TXS
namespace TXS
open PySem PySem.Spec PyProof.Rows L2 PySem.Froz
end TXS
namespace PySem.W
open PySem PySem.Calls PyProof.Rows L2 TXS
end PySem.W
namespace PD
open PySem PySem.Spec PyProof.Rows L2 TXS
open PySem.W (EachIs AllAlike Sortable dataLe AlikeAll minD maxD)
/-- a set of the texts l at a -/
def SetTx (P : Program) (w : World) (a : Addr) (l : List Str) : HO := .ext fun h => TxAt P w h a l
section
variable {X : Cx}
theorem setTx_new {w : World} {P : Program} {H : Hp} {h : Heap} {a : Addr} {l : List Str} (R : TxAt P w h a l) : ObjOk P w H h a (SetTx P w a l) := by
  have ⟨_, e, _⟩ := R
  exact ⟨R, ⟨_, e⟩, fun h1 h2 p k => TxAt.at p k⟩
def rSetTx (K : PySem.W.Frag) (P : Program) (w : World) : List V → Hp → VK → Prop := fun vs H Q => ∃ (a : Addr) (xs : List Str), vs = [.ref a] ∧ (SqL K H a (xs.map V.str) ∨ SqT K H a (xs.map V.str)) ∧ xs.length ≤ 1000 ∧
  ∀ (p : Addr) (l : List Str), l.Nodup → (∀ x, x ∈ l ↔ x ∈ xs) → l.length ≤ xs.length → H p = none → Q (.ref p) (upd H p (SetTx P w p l))
theorem cr_setTx (hc : X.calm = true) : CallR X (.type "set") (rSetTx X.K X.prog X.w) := by
  intro pins s σ H vs us Q I r h
  obtain ⟨a, xs, rfl, hs, hz, q⟩ := h
  rw [Vals.ref1 r]
  have room : xs.length + 1 < scanBound := by
    have : 2000 < scanBound := by decide
    omega
  have fin : ∀ (h' : Heap) (tk : Nat), TxAt X.prog X.w h' s.heap.objs.size (allT xs []) → (∀ b o, s.heap.get? b = some o → h'.get? b = some o) → EP X pins σ Q (.ref s.heap.objs.size) { s with heap := h', toks := tk } := fun h' tk T k =>
    ⟨.ref _, _, I.laid (t' := tk) k (Nat.le_refl _) (setTx_new T), rfl, q _ _ (allT_nodup List.nodup_nil) (fun x => by rw [allT_mem]; simp) (by have := allT_len xs []; simpa using this) (I.hok.fresh (Nat.le_refl _))⟩
  rcases hs with hs | hs
  · obtain ⟨its, rv, pl, _⟩ := I.list hs
    exact set_of_list xs (I.ok.hd hc) pl.isList (by simpa using strsAre_of rv) room fin
  · obtain ⟨its, rv, pl, _⟩ := I.tuple hs
    exact set_of_tuple xs (I.ok.hd hc) pl (by simpa using strsAre_of rv) room fin
theorem RM.newO {K : PySem.W.Frag} {H : Hp} {m : Mu} {p : Addr} {u : HO} (r : RM K H m) (h : H p = none) : RM K (upd H p u) (mset m p (.oth u)) := fun a o e => by
  by_cases ha : a = p
  · subst ha
    rw [mset_same] at e; cases e
    exact upd_same
  · rw [mset_ne ha] at e
    exact r.skip h a o e
def dSetTx (P : Program) (w : World) : DC := fun ds m Q => match ds with
  | [d] => ∃ xs : List Str, seqOf m d = some (xs.map .str) ∧ xs.length ≤ 1000 ∧ ∀ (p : Addr) (l : List Str), l.Nodup → (∀ x, x ∈ l ↔ x ∈ xs) → l.length ≤ xs.length → m p = none → Q (.ref p) (mset m p (.oth (SetTx P w p l)))
  | _ => False
theorem lc_setTx {K : PySem.W.Frag} {P : Program} {w : World} : LC K (rSetTx K P w) (dSetTx P w) := fun vs H ds m Qd Q rm r h k => by
  match ds, r, h with
  | [d], r, h =>
    obtain ⟨xs, e, hz, q⟩ := h
    obtain ⟨v, rfl, ra9⟩ := repL1 r
    obtain ⟨a, ws, rfl, s, r2⟩ := seq_rep rm ra9 e
    have := rep_strs r2
    subst this
    exact ⟨a, xs, rfl, s, hz, fun p l nd hm hl hp => k _ _ _ _ (.new hp) (rm.newO hp) (.ref p) (q p l nd hm hl (rm.fresh hp))⟩
end
end PD
namespace PD
open PySem PySem.Spec PyProof.Rows L2
open PySem.W (EachIs AllAlike Sortable dataLe AlikeAll minD maxD)
theorem lt1 {a c : Nat} (h : a + 64 < c) : a + 1 < c := by omega
section
variable {m m1 m2 : Mu} {a b : Str} {i j : Int} {p q : Bool} {xs ys : List D} {x y z u v : D} {A B : Addr} {Q : DK} {s : Sd}
theorem dFrzV_i : dFrzV (.int i) m Q = Q (.int i) m := rfl
theorem dFrzV_s : dFrzV (.str a) m Q = Q (.str a) m := rfl
theorem dFrzV_b : dFrzV (.bl p) m Q = Q (.bl p) m := rfl
theorem dFrzV_n : dFrzV .non m Q = Q .non m := rfl
theorem dFrzV_t : dFrzV (.tup xs) m Q = Q (.tup xs) m := rfl
theorem dFrzV_l : dFrzV (.rol xs) m Q = Q (.rol xs) m := rfl
theorem dFrzV_r : dFrzV (.ref A) m Q = ∃ ds, m A = some (.lst ds) ∧ Q (.rol ds) (mdel m A) := rfl
theorem dAddL_i : dAddL (.int i) (.int j) m Q = Q (.int (i + j)) m := rfl
theorem dAddL_s : dAddL (.str a) (.str b) m Q = (a.length + b.length ≤ sizeLine ∧ Q (.str (a ++ b)) m) := rfl
theorem dAddL_t : dAddL (.tup xs) (.tup ys) m Q = (xs.length + ys.length ≤ sizeLine ∧ Q (.tup (xs ++ ys)) m) := rfl
theorem dAddL_rr : dAddL (.ref A) (.ref B) m Q = ∃ xs ys, lsq m (.ref A) = some xs ∧ lsq m (.ref B) = some ys ∧ xs.length + ys.length ≤ sizeLine ∧ ∀ p, m p = none → Q (.ref p) (mset m p (.lst (xs ++ ys))) := rfl
theorem dAddL_rl : dAddL (.ref A) (.rol ys) m Q = ∃ xs zs, lsq m (.ref A) = some xs ∧ lsq m (.rol ys) = some zs ∧ xs.length + zs.length ≤ sizeLine ∧ ∀ p, m p = none → Q (.ref p) (mset m p (.lst (xs ++ zs))) := rfl
theorem dAddL_lr : dAddL (.rol xs) (.ref B) m Q = ∃ zs ys, lsq m (.rol xs) = some zs ∧ lsq m (.ref B) = some ys ∧ zs.length + ys.length ≤ sizeLine ∧ ∀ p, m p = none → Q (.ref p) (mset m p (.lst (zs ++ ys))) := rfl
theorem dAddL_ll : dAddL (.rol xs) (.rol ys) m Q = ∃ zs us, lsq m (.rol xs) = some zs ∧ lsq m (.rol ys) = some us ∧ zs.length + us.length ≤ sizeLine ∧ ∀ p, m p = none → Q (.ref p) (mset m p (.lst (zs ++ us))) := rfl
theorem dMulL_i : dMulL (.int i) (.int j) m Q = (CMul i j ∧ Q (.int (i * j)) m) := rfl
theorem dMulL_s : dMulL (.str a) (.int j) m Q = (0 ≤ j ∧ j ≤ 1000 ∧ a.length ≤ 1000 ∧ Q (.str (repS a j.toNat)) m) := rfl
theorem dMulL_r : dMulL (.ref A) (.int j) m Q = ∃ xs, m A = some (.lst xs) ∧ -(2 ^ 63) ≤ j ∧ j < 2 ^ 63 ∧ xs.length * j.toNat ≤ sizeLine ∧ ∀ p, m p = none → Q (.ref p) (mset m p (.lst (List.replicate j.toNat xs).flatten)) := rfl
def dSlLV (lo hi : Option Int) (x : D) (m3 : Mu) (Q : DK) : Prop := match x with
  | .tup ds => Q (.tup (cutD ds lo hi)) m3
  | x => ∃ ds, lsq m3 x = some ds ∧ ∀ p, m3 p = none → Q (.ref p) (mset m3 p (.lst (cutD ds lo hi)))
theorem dSlL_v {de : DE} {dl dh : DO} : dSlL de dl dh s m Q = de s m fun x m1 => dl s m1 fun lo m2 => dh s m2 fun hi m3 => dSlLV lo hi x m3 Q := rfl
theorem dSlLV_t {lo hi : Option Int} : dSlLV lo hi (.tup xs) m Q = Q (.tup (cutD xs lo hi)) m := rfl
theorem dSlLV_l {lo hi : Option Int} : dSlLV lo hi (.rol xs) m Q = ∃ ds, lsq m (.rol xs) = some ds ∧ ∀ p, m p = none → Q (.ref p) (mset m p (.lst (cutD ds lo hi))) := rfl
theorem dSlLV_r {lo hi : Option Int} : dSlLV lo hi (.ref A) m Q = ∃ ds, lsq m (.ref A) = some ds ∧ ∀ p, m p = none → Q (.ref p) (mset m p (.lst (cutD ds lo hi))) := rfl
theorem dMinU_2 {f : PyData → List PyData → PyData} {g : Int → Int → Int} : dMinU f g [.int i, .int j] m Q = Q (.int (g i j)) m := rfl
theorem dMinU_1 {f : PyData → List PyData → PyData} {g : Int → Int → Int} : dMinU f g [x] m Q = ∃ d es, seqOf m x = some (d :: es) ∧ OrdL (d :: es) ∧ (∀ x ∈ d :: es, encP x ≠ .none) ∧ ∀ x ∈ d :: es, encP x = f (encP d) (es.map encP) → Q x m := rfl
theorem dSumL_1 : dSumL [x] m Q = ∃ ns : List Int, seqOf m x = some (ns.map .int) ∧ Q (.int ns.sum) m := rfl
theorem dSetTx_1 {P : Program} {w : World} : dSetTx P w [x] m Q = ∃ xs : List Str, seqOf m x = some (xs.map .str) ∧ xs.length ≤ 1000 ∧ ∀ (p : Addr) (l : List Str), l.Nodup → (∀ x, x ∈ l ↔ x ∈ xs) → l.length ≤ xs.length → m p = none → Q (.ref p) (mset m p (.oth (SetTx P w p l))) := rfl
theorem dIx_l : dIx (.rol xs) (.int i) m Q = ∃ d, atI xs i = some d ∧ Q d m := propext ⟨fun ⟨_, e, h⟩ => by cases e; exact h, fun h => ⟨_, rfl, h⟩⟩
theorem dLen_l : dLen [.rol xs] m Q = Q (.int xs.length) m := propext ⟨fun ⟨_, e, h⟩ => by cases e; exact h, fun h => ⟨_, rfl, h⟩⟩
theorem dInG_l {f : Bool → Bool} : dInG f x (.rol xs) m Q = (flatD x = true ∧ xs.all flatD = true ∧ Q (.bl (f (inF x xs))) m) := propext ⟨fun ⟨_, e, h⟩ => by cases e; exact h, fun h => ⟨_, rfl, h⟩⟩
theorem truD_rol : truD m (.rol xs) = some (!xs.isEmpty) := rfl
theorem tyD_rol : tyD m (.rol xs) = some "list" := rfl
theorem dInt1_b : dInt1 [.bl p] m Q = Q (.int (if p = true then 1 else 0)) m := rfl
theorem Sub.del (h : Sub m m1) (h2 : m A = none) : Sub m (mdel m1 A) := fun c o e => by
  rw [mdel_ne (mne h2 e)]; exact h c o e
/-- all but one kept -/
def Off1 (a : Addr) (m m' : Mu) : Prop := ∀ x o, x ≠ a → m x = some o → m' x = some o
theorem Off1.refl (a : Addr) (m : Mu) : Off1 a m m := fun _ _ _ h => h
theorem Off1.trans {a : Addr} (h : Off1 a m m1) (h' : Off1 a m1 m2) : Off1 a m m2 := fun x o n e => h' x o n (h x o n e)
theorem Off1.set {a : Addr} {o : MO} (h : Off1 a m m1) : Off1 a m (mset m1 a o) := fun x u n e => by rw [mset_ne n]; exact h x u n e
theorem Off1.new {a p : Addr} {o : MO} (h : Off1 a m m1) (hp : m1 p = none) : Off1 a m (mset m1 p o) := fun x u n e => mset_new hp (h x u n e)
theorem Off1.del {a p : Addr} (h : Off1 a m m1) (hp : m p = none) : Off1 a m (mdel m1 p) := fun x u n e => by
  rw [mdel_ne (mne hp e)]; exact h x u n e
theorem Off1.free {a p : Addr} (h : Off1 a m m1) (n : p ≠ a) (e : m1 p = none) : m p = none := by
  cases q : m p with
  | none => rfl
  | some o => rw [h p o n q] at e; cases e
end
def gP (si : List Nat) (us ws : List Value) : List Value := if us.isEmpty = true ∧ ws.length = si.length then si.map fun i => ws.getD i Value.none else List.replicate (si.length + 1) Value.none
def gPV (si : List Nat) (vs zs : List V) : List V := if vs.isEmpty = true ∧ zs.length = si.length then si.map fun i => zs.getD i V.non else List.replicate (si.length + 1) V.non
def KwP (K : PySem.W.Frag) (fd : FuncData) (ps ks : List Str) (si : List Nat) : Prop := KBinds K fd ps ks (gP si) (gPV si)
theorem vals_getD : ∀ {zs : List V} {ws : List Value} (i : Nat), Vals zs ws → RelV (zs.getD i V.non) (ws.getD i Value.none)
  | _, _, _, .nil => rfl
  | _, _, 0, .cons a _ => a
  | _, _, i + 1, .cons _ b => vals_getD i b
theorem vals_map {zs : List V} {ws : List Value} (r : Vals zs ws) : ∀ si : List Nat, Vals (si.map fun i => zs.getD i V.non) (si.map fun i => ws.getD i Value.none)
  | [] => .nil
  | i :: si => .cons (vals_getD i r) (vals_map r si)
theorem vals_rep : ∀ n : Nat, Vals (List.replicate n V.non) (List.replicate n Value.none)
  | 0 => .nil
  | n + 1 => .cons rfl (vals_rep n)
theorem kw_perm {K : PySem.W.Frag} {x qual : Str} {st : Stmt} {f : Addr} {fd : FuncData} {ps ks : List Str} {si : List Nat} (F : Fun K x qual st f fd) (hz : si.length = ps.length)
    (h : ∀ (kV doc pm : Value) (an : Option Addr) (cdv ct : Value) (ws : List Value), ws.length = si.length → bindArgs (PySem.W.fnOf x qual (defArgs st) (defBody st) (defScope st) .none kV doc pm an cdv ct) ⟨[], ks.zip ws⟩ = pure (ps.zip (si.map fun i => ws.getD i Value.none))) : KwP K fd ps ks si := by
  obtain ⟨oc, od, kV, doc, pm, an, cdv, ct, osl, rfl, lk, hcd⟩ := F.ex
  refine ⟨fun s us ws hK hl => ?_, fun {vs us zs ws} r rz => ?_⟩
  · by_cases c : us.isEmpty = true ∧ ws.length = si.length
    · have e : gP si us ws = si.map fun i => ws.getD i Value.none := by unfold gP; rw [if_pos c]
      rw [e]
      have : us = [] := List.isEmpty_iff.mp c.1
      subst this
      exact .of_eq (h kV doc pm an cdv ct ws c.2)
    · have e : gP si us ws = List.replicate (si.length + 1) Value.none := by unfold gP; rw [if_neg c]
      rw [e, List.length_replicate, hz] at hl
      exact absurd hl (Nat.succ_ne_self _)
  · have l1 := r.length
    have l2 := rz.length
    unfold gP gPV
    have ee : (vs.isEmpty = true ∧ zs.length = si.length) ↔ (us.isEmpty = true ∧ ws.length = si.length) := by
      rw [List.isEmpty_iff_length_eq_zero, List.isEmpty_iff_length_eq_zero, l1, l2]
    by_cases c : us.isEmpty = true ∧ ws.length = si.length
    · rw [if_pos c, if_pos (ee.mpr c)]; exact vals_map rz si
    · rw [if_neg c, if_neg (fun z => c (ee.mp z))]; exact vals_rep _
def dCallP (n : Nat) (sd : SpD) (si : List Nat) (a : DA) : DE := fun s m Q => a s m fun ds m1 => ds.length = si.length ∧ si.length = n ∧ sd (si.map fun i => ds.getD i .non) m1 Q
theorem repl_getD {K : PySem.W.Frag} {H : Hp} : ∀ {ds : List D} {zs : List V} (i : Nat), RepL K H ds zs → Rep K H (ds.getD i .non) (zs.getD i V.non)
  | _, _, _, .nil => .non
  | _, _, 0, .cons a _ => a
  | _, _, i + 1, .cons _ b => repl_getD i b
theorem repl_map {K : PySem.W.Frag} {H : Hp} {ds : List D} {zs : List V} (r : RepL K H ds zs) : ∀ si : List Nat, RepL K H (si.map fun i => ds.getD i .non) (si.map fun i => zs.getD i V.non)
  | [] => .nil
  | i :: si => .cons (repl_getD i r) (repl_map r si)
section
variable {X : Cx}
theorem ge_callP {k n : Nat} {f : Addr} {fd : FuncData} {ps ks : List Str} {si : List Nat} {sd : SpD} {x : Str} {p pos : Pos} {kws : List Keyword} {dk : DA} (F : FnOk X.prog X.w X.K X.mg X.base CX0 k f fd ps (spL X.K n sd)) (hr : Room k X.A) (hg : Gl X x) (hm : X.mg x = some (.ref f)) (hk : PySem.W.keepIn X.K (.ref f) = true) (hb : KwP X.K fd ps ks si)
    (hkw : GK X kws dk) (hall : (backToKw pos (keywordEach kws X.env)).all (·.1.isSome) = true := by rfl) (hks : (backToKw pos (keywordEach kws X.env)).filterMap (·.1) = ks := by rfl)
    (hdb : (x == ("__debug__" : Str)) = false := by decide) (hpl : ((backTo pos (starEach [] X.env)).any (·.1) || (backToKw pos (keywordEach kws X.env)).any (·.1.isNone)) = false := by rfl) :
    GE X (.Call (.Name x p) [] kws pos) (dCallP n sd si dk) := by
  obtain ⟨tk, q, l⟩ := hkw
  have P : PE X (.Call (.Name x p) [] kws pos) (fun τ H Q => tk τ H fun zs H2 => spL X.K n sd (gPV si [] zs) H2 Q E0) := by
    refine ⟨fun pz s τ H Q I h => ?_⟩
    refine wpAny_Call_Name_kw (ld_glob I hg hm ?_ hdb)
    refine PySem.W.callWith_KW0 (h₀ := X.base) I.ok.mod.kin hk hall (thn (q.run pos pz s τ H _ I h) fun ws tB ⟨zs, H2, iB, rz, q2⟩ => ⟨iB.kIn, ?_⟩) hpl
    rw [hks]
    exact run_fnk (us := []) (vs := []) F hr hb pass0 iB .nil rz q2
  refine .of ⟨_, P, fun s H sd' m Qd Q rs rm h k => ?_⟩
  refine l s H sd' m _ _ rs rm h fun vs H1 ds m1 t1 rm1 r1 h1 => ?_
  have e : gPV si [] vs = si.map fun i => vs.getD i V.non := by unfold gPV; rw [if_pos ⟨rfl, by rw [← r1.length]; exact h1.1⟩]
  rw [e]
  exact ⟨_, m1, Qd, repl_map r1 si, rm1, ⟨by rw [List.length_map]; exact h1.2.1, h1.2.2⟩, fun v' H' dv' m' t' a b c => k v' H' dv' m' (t1.trans t') a b c⟩
end
end PD
namespace PD
open PySem PySem.Spec PyProof.Rows L2
/-- a comprehension over what does not change the store, items by an invariant J of the answers' list and the store without p -/
theorem comp_st {st : Mu → Prop} {g : DG} {e : DE} {p : Addr} {s : Sd} {Q : DK} {m : Mu} (J : List D → Mu → Prop) (hst : ∀ m', st m') {es0 : List D} (hz : es0.length ≤ 100000)
    (hs : ∀ d ∈ es0, ∀ acc m' (R : D → Mu → Prop), J acc m' → m' p = some (.lst acc) → (∀ y m'', J (acc ++ [y]) (mset m'' p (.lst (acc ++ [y]))) → m'' p = some (.lst acc) → R y m'') → g d s m' fun s2 m2 => e s2 m2 R)
    (he : ∀ acc m', acc.length = es0.length → J acc m' → m' p = some (.lst acc) → Q (.ref p) m') (h : J [] (mset m p (.lst []))) : dComp st g dYes e p s Q es0 [] (mset m p (.lst [])) := by
  refine comp_inv (fun rem acc m' => ∃ pre, es0 = pre ++ rem ∧ acc.length = pre.length ∧ J acc m' ∧ m' p = some (.lst acc)) (fun d rem acc m1 R hR ⟨pre, e1, e2, e3, e4⟩ => ?_) (fun acc m1 ⟨pre, e1, e2, e3, e4⟩ => ?_) ⟨[], rfl, rfl, h, mset_same⟩
  · refine ⟨hst _, ?_⟩
    have q := hs d (by rw [e1]; simp) acc m1 (fun y m4 => m4 p = some (.lst acc) ∧ acc.length < sizeLine ∧ R (acc ++ [y]) (mset m4 p (.lst (acc ++ [y])))) e3 e4 fun y m'' h1 h2 => ⟨h2, ?_, hR _ _ ⟨pre ++ [d], by rw [e1]; simp, by simp [e2], h1, mset_same⟩⟩
    · simpa [dYes] using q
    · have : pre.length < es0.length := by rw [e1]; simp
      exact Nat.lt_of_lt_of_le (by omega : acc.length < 100000) (by decide)
  · rw [List.append_nil] at e1
    subst e1
    exact ⟨hst _, e4, he acc m1 e2 e3 e4⟩
end PD
namespace PD
open PySem PySem.Spec PyProof.Rows L2
theorem Off1.set' {a p : Addr} {m m1 : Mu} {o : MO} (h : Off1 a m m1) (hp : m p = none) : Off1 a m (mset m1 p o) := fun x u n e => by
  rw [mset_ne (mne hp e)]; exact h x u n e
end PD
namespace PD
open PySem PySem.Spec PyProof.Rows L2
end PD
namespace PD
open PySem PySem.Spec PyProof.Rows L2
/-- the same over typed items -/
theorem loop_accT {β : Type} {st : Mu → Prop} {g : DG} {tb : DS} {E : DEnds} {m0 : Mu} {p : Addr} (Sl : Sd → Prop) (e : β → D) (f : β → List D) {us : List β} {init : List D} (hst : ∀ m', Sub m0 m' → st m')
    (hs : ∀ u ∈ us, ∀ acc s' m' (R : Sd → Mu → Prop), Sl s' → Sub m0 m' → m' p = some (.lst acc) → acc.length + (f u).length ≤ (init ++ us.flatMap f).length → (∀ s'' m'', Sl s'' → Sub m0 m'' → m'' p = some (.lst (acc ++ f u)) → R s'' m'') → g (e u) s' m' fun s2 m2 => tb { E with nx := R, ct := R, bk := E.nx } s2 m2)
    (he : ∀ s' m', Sl s' → Sub m0 m' → m' p = some (.lst (init ++ us.flatMap f)) → E.nx s' m') {s : Sd} {m : Mu} (h1 : Sl s) (h2 : Sub m0 m) (h3 : m p = some (.lst init)) : dLoop st g tb E (us.map e) s m := by
  refine loop_inv (fun rem s' m' => ∃ pre post, us = pre ++ post ∧ rem = post.map e ∧ Sl s' ∧ Sub m0 m' ∧ m' p = some (.lst (init ++ pre.flatMap f))) ?_ ?_ ⟨[], us, rfl, rfl, h1, h2, by rw [List.flatMap_nil, List.append_nil]; exact h3⟩
  · rintro d rem s' m' R hR ⟨pre, post, q, q2, a, b, c⟩
    cases post with
    | nil => cases q2
    | cons u post =>
      rw [List.map_cons] at q2
      injection q2 with q2 q3
      subst q2
      refine ⟨hst _ b, hs u (by rw [q]; simp) _ s' m' _ a b c ?_ fun s'' m'' a' b' c' => hR _ _ ⟨pre ++ [u], post, by rw [q]; simp, q3, a', b', ?_⟩⟩
      · rw [q, List.flatMap_append, List.flatMap_cons, List.length_append, List.length_append, List.length_append, List.length_append]
        omega
      · rw [c', List.flatMap_append, List.flatMap_cons, List.flatMap_nil, List.append_nil, List.append_assoc]
  · rintro s' m' ⟨pre, post, q, q2, a, b, c⟩
    cases post with
    | cons u post => cases q2
    | nil =>
      rw [List.append_nil] at q
      subst q
      exact ⟨hst _ b, he _ _ a b c⟩
/-- a comprehension over typed items that changes nothing -/
theorem comp_pureT {β γ : Type} {st : Mu → Prop} {g : DG} {t : DT} {e : DE} {p : Addr} {s : Sd} {Q : DK} {m : Mu} (i : β → D) (o : β → D) (c : β → Bool) (hst : ∀ a, st (mset m p (.lst a))) {us : List β} (hz : us.length ≤ 100000)
    (h : ∀ u ∈ us, ∀ a (R1 : D → Mu → Prop) (R2 : Mu → Prop), (c u = true → R1 (o u) (mset m p (.lst a))) → (c u = false → R2 (mset m p (.lst a))) → g (i u) s (mset m p (.lst a)) fun s2 m2 => t s2 m2 fun b m3 => if b = true then e s2 m3 R1 else R2 m3)
    (hq : Q (.ref p) (mset m p (.lst ((us.filter c).map o)))) : dComp st g t e p s Q (us.map i) [] (mset m p (.lst [])) := by
  refine comp_inv (fun rem acc m' => ∃ pre post, us = pre ++ post ∧ rem = post.map i ∧ acc = (pre.filter c).map o ∧ m' = mset m p (.lst acc)) (fun d rem acc m1 R hR ⟨pre, post, e1, e0, e2, e3⟩ => ?_) (fun acc m1 ⟨pre, post, e1, e0, e2, e3⟩ => ?_) ⟨[], us, rfl, rfl, rfl, rfl⟩
  · cases post with
    | nil => cases e0
    | cons u post =>
      rw [List.map_cons] at e0
      injection e0 with e0 e4
      subst e0 e3
      refine ⟨hst _, h u (by rw [e1]; simp) acc _ _ (fun hc => ⟨mset_same, ?_, ?_⟩) fun hc => ?_⟩
      · rw [e2, List.length_map]
        have h1 := List.length_filter_le c pre
        have h2 : pre.length < us.length := by rw [e1]; simp
        exact Nat.lt_of_lt_of_le (by omega : _ < 100000) (by decide)
      · refine hR _ _ ⟨pre ++ [u], post, by rw [e1]; simp, e4, ?_, mset_mset⟩
        rw [e2, List.filter_append, List.map_append]
        simp [hc]
      · refine hR _ _ ⟨pre ++ [u], post, by rw [e1]; simp, e4, ?_, rfl⟩
        rw [e2, List.filter_append, List.map_append]
        simp [hc]
  · cases post with
    | cons u post => cases e0
    | nil =>
      subst e3
      rw [List.append_nil] at e1
      subst e1 e2
      exact ⟨hst _, mset_same, hq⟩
end PD
namespace PD
open PySem PySem.Spec PyProof.Rows L2
def dDSetd (dd dk dx : DE) : DE := fun s m Q => dd s m fun x m1 => ∃ a, x = .ref a ∧ (∃ kvs, m1 a = some (.dct kvs)) ∧ dk s m1 fun y m2 => dx s m2 fun z m3 => ∃ kvs k, m3 a = some (.dct kvs) ∧ toKey y = some k ∧ kvs.length < sizeLine ∧
  (∀ d, valD kvs k = some d → Q d m3) ∧ (valD kvs k = none → Q z (mset m3 a (.dct (putKD kvs k z))))
end PD
namespace PD
open PySem PySem.Spec PyProof.Rows L2
end PD
namespace PD
open PySem PySem.Spec PyProof.Rows L2
def sgn (x : Str) : List D := x.cps.toList.map fun c => .str ⟨#[c]⟩
def dIStr (a : DE) : DI := fun s m R => a s m fun x m1 => match x with
  | .str x => R (sgn x) (fun _ => True) m1
  | _ => False
theorem jo_str {K : PySem.W.Frag} {H1 : Hp} {x : Str} : JOk K (Its x) (sgn x) (fun _ => True) H1 := by
  have hl : (sgn x).length = x.cps.size := by unfold sgn; rw [List.length_map, Array.length_toList]
  refine ⟨fun i H m _ _ _ h => ?_, fun i H y H' m _ rm _ h hy => ?_, fun i H m _ _ _ h => ?_⟩
  · rw [hl] at h; exact h
  · obtain ⟨rfl, c, e, rfl⟩ := hy
    exact ⟨.str ⟨#[c]⟩, by unfold sgn; rw [List.getElem?_map, Array.getElem?_toList, e]; rfl, .refl _, rm, .str _⟩
  · rw [hl] at h; exact h
theorem repL_str {K : PySem.W.Frag} {H : Hp} : ∀ {ys : List Str} {vs : List V}, RepL K H (ys.map D.str) vs → vs = ys.map V.str
  | [], _, r => by cases r; rfl
  | y :: ys, _, r => by
    cases r with
    | cons a b =>
      cases a
      rw [repL_str b]; rfl
section
variable {X : Cx}
theorem gi_str {tg l : Expr} {a : DE} (h : GE X l a) : GIE X tg l (dIStr a) :=
  ⟨iStr (liftE X.K a), pi_str h.pe, fun s H sd m Rd R rs rm hh k => by
    refine liftE_le _ a s H sd m _ _ rs rm hh fun v H1 dv m1 t1 rm1 r1 h1 => ?_
    cases r1 with
    | str x => exact ⟨x, rfl, k _ H1 _ _ m1 t1 rm1 jo_str h1⟩
    | _ => exact h1.elim⟩
def dInSg (f : Bool → Bool) : D2 := fun x y m Q => ∃ c z, x = .str ⟨#[c]⟩ ∧ y = .str z ∧ Q (.bl (f (decide (c ∈ z.cps.toList)))) m
theorem lr_inSg {K : PySem.W.Frag} : LR K (fun x y H Q => ∃ c z, x = V.str ⟨#[c]⟩ ∧ y = V.str z ∧ Q (V.bl (decide (c ∈ z.cps.toList))) H) (dInSg id) := fun x y H dx dy m Qd Q rm rx ry h k => by
  obtain ⟨c, z, rfl, rfl, q⟩ := h
  cases rx
  cases ry
  exact ⟨c, z, rfl, rfl, k _ H _ m (.refl H) rm (.bl _) q⟩
def dJoin (da db : DE) : DE := fun s m Q => da s m fun x m1 => ∃ a, x = .str a ∧ db s m1 fun y m2 => ∃ ys : List Str, seqOf m2 y = some (ys.map .str) ∧ (ys.map (·.length)).sum + ys.length * a.length ≤ 16777216 ∧ Q (.str (Txt.join a ys)) m2
theorem ge_join {o e : Expr} {apos pos : Pos} {da db : DE} (ho : GE X o da) (he : GE X e db) (h1 : starEach [e] X.env = [(false, eval e X.env)] := by rfl) (h2 : attributeBase o "join" X.env (eval o X.env) = eval o X.env := by rfl) (h3 : (apos.endLine == pos.line) = true := by rfl) :
    GE X (.Call (.Attribute o "join" apos) [e] [] pos) (dJoin da db) := by
  obtain ⟨to, p, l⟩ := ho.ex
  obtain ⟨te, q, l2⟩ := he.ex
  refine .of ⟨_, pe_join p q h1 h2 h3, fun s H sd m Qd Q rs rm h k => ?_⟩
  refine l s H sd m _ _ rs rm h fun v H1 dv m1 t1 rm1 r1 h1 => ?_
  obtain ⟨a, rfl, h1⟩ := h1
  cases r1
  refine ⟨⟨a, rfl⟩, l2 s H1 sd m1 _ _ (rs.mono t1) rm1 h1 fun y H2 dy m2 t2 rm2 r2 ⟨ys, e3, hl, z⟩ => ?_⟩
  obtain ⟨b, vs, rfl, sb, rb⟩ := seq_rep rm2 r2 e3
  rw [repL_str rb] at sb
  exact ⟨a, b, ys, rfl, rfl, sb, hl, k _ H2 _ m2 (t1.trans t2) rm2 (.str _) z⟩
def dSlS (de : DE) (dl dh : DO) : DE := fun s m Q => de s m fun x m1 => dl s m1 fun lo m2 => dh s m2 fun hi m3 => match x with
  | .str z => z.length ≤ sizeLine ∧ Q (.str (cutS z lo hi)) m3
  | _ => False
theorem ge_sliceS {e : Expr} {lo hi : Option Expr} {pos p2 : Pos} {de : DE} {dl dh : DO} (he : GE X e de) (hl : GO X lo dl) (hh : GO X hi dh) : GE X (.Subscript e (.Slice lo hi none p2) pos) (dSlS de dl dh) := by
  obtain ⟨te, p, l⟩ := he.ex
  obtain ⟨tl, q, l2⟩ := hl.ex
  obtain ⟨th, q2, l3⟩ := hh.ex
  refine .of ⟨_, pe_slice sl_str p q q2, fun s H sd m Qd Q rs rm h k => ?_⟩
  refine l s H sd m _ _ rs rm h fun v H1 dv m1 t1 rm1 r1 h1 => ?_
  refine l2 s H1 sd m1 _ _ (rs.mono t1) rm1 h1 fun lo H2 m2 t2 rm2 h2 => ?_
  refine l3 s H2 sd m2 _ _ (rs.mono (t1.trans t2)) rm2 h2 fun hi H3 m3 t3 rm3 h3 => ?_
  cases r1 with
  | str z => exact ⟨z, rfl, h3.1, k _ H3 _ m3 (t1.trans (t2.trans t3)) rm3 (.str _) h3.2⟩
  | _ => exact h3.elim
def dUpper (da : DE) : DE := fun s m Q => da s m fun x m1 => ∃ a, x = .str a ∧ a.length ≤ 5592405 ∧ Q (.str (Txt.upper a)) m1
def dAbs : DC := fun ds m Q => match ds with
  | [.int i] => Q (.int (if i < 0 then -i else i)) m
  | _ => False
def dChain (d d' : D2) (da db dc : DE) : DT := fun s m Q => da s m fun x m1 => db s m1 fun y m2 => d x y m2 fun z m3 => match z with
  | .bl k => if k = true then dc s m3 fun u m4 => d' y u m4 fun z' m5 => match z' with
      | .bl k' => Q k' m5
      | _ => False
    else Q false m3
  | _ => False
theorem gt_chain {a b c : Expr} {da db dc : DE} {pos : Pos} {op op' : CmpOp} {r r' : R2} {d d' : D2} (ho : OpR X (compareOp op) r) (ho' : OpR X (compareOp op') r') (hl : LR X.K r d) (hl' : LR X.K r' d') (ha : GE X a da) (hb : GE X b db) (hc : GE X c dc) (hm : lastMarks [op, op'] [b, c] = false := by rfl) :
    GT X (.Compare a [op, op'] [b, c] pos) (dChain d d' da db dc) := by
  obtain ⟨ta, p, l⟩ := ha.ex
  obtain ⟨tb, q, l2⟩ := hb.ex
  obtain ⟨tc, q2, l3⟩ := hc.ex
  refine .of ⟨_, pt_chain ho ho' p q q2 hm, fun s H sd m Qd Q rs rm h k => ?_⟩
  refine l s H sd m _ _ rs rm h fun x H1 dx m1 t1 rm1 r1 h1 => ?_
  refine l2 s H1 sd m1 _ _ (rs.mono t1) rm1 h1 fun y H2 dy m2 t2 rm2 r2 h2 => ?_
  refine hl x y H2 dx dy m2 _ _ rm2 (r1.mono t2) r2 h2 fun z H3 dz m3 t3 rm3 r3 h3 => ?_
  cases r3 with
  | bl b =>
    refine ⟨b, rfl, ?_⟩
    cases b with
    | true =>
      have h3 : dc sd m3 _ := h3
      refine l3 s H3 sd m3 _ _ (rs.mono (t1.trans (t2.trans t3))) rm3 h3 fun u H4 du m4 t4 rm4 r4 h4 => ?_
      refine hl' y u H4 dy du m4 _ _ rm4 (r2.mono (t3.trans t4)) r4 h4 fun z' H5 dz' m5 t5 rm5 r5 h5 => ?_
      cases r5 with
      | bl b' => exact ⟨b', rfl, k b' H5 m5 (t1.trans (t2.trans (t3.trans (t4.trans t5)))) rm5 h5⟩
      | _ => exact h5.elim
    | false => exact ⟨false, rfl, k false H3 m3 (t1.trans (t2.trans t3)) rm3 h3⟩
  | _ => exact h3.elim
end
end PD
namespace PySem
open Sem (wp)
end PySem
namespace PD
open PySem PySem.Spec PyProof.Rows L2
def dIEnumS (a : DA) : DI := fun s m R => a s m fun ds m1 => match ds with
  | [.str x] => R (enumD 0 (sgn x)) (fun _ => True) m1
  | _ => False
end PD
namespace PD
open PySem PySem.Spec PyProof.Rows L2
end PD
namespace PD
open PySem PySem.Spec PyProof.Rows L2
def min3 (i j k : Int) : Int := min (min i j) k
def max3 (i j k : Int) : Int := max (max i j) k
def dMin3 : DC := fun ds m Q => match ds with
  | [.int i, .int j, .int k] => Q (.int (min3 i j k)) m
  | _ => False
def dMax3 : DC := fun ds m Q => match ds with
  | [.int i, .int j, .int k] => Q (.int (max3 i j k)) m
  | _ => False
theorem dMin3_i {i j k : Int} {m : Mu} {Q : DK} : dMin3 [.int i, .int j, .int k] m Q = Q (.int (min3 i j k)) m := rfl
theorem dMax3_i {i j k : Int} {m : Mu} {Q : DK} : dMax3 [.int i, .int j, .int k] m Q = Q (.int (max3 i j k)) m := rfl
section
variable {X : Cx}
theorem no_tk : Takes X (wX X.K fun _ _ _ => False) := Takes.imp takes0 fun _ _ _ _ ⟨_, _, _, _, h⟩ => h
end
end PD
namespace PD
open PySem PySem.Spec PyProof.Rows L2
def dPar (i j : Nat) (da : DA) : DS := fun E s m => da s m fun ds m1 => match ds with
  | [v, w] => E.nx ((s.set i (some v)).set j (some w)) m1
  | _ => False
end PD
namespace PD
open PySem PySem.Spec PyProof.Rows L2
end PD
namespace PD
open PySem PySem.Spec PyProof.Rows L2
end PD
namespace PD
open PySem PySem.Spec PyProof.Rows L2
end PD
namespace PD
open PySem PySem.Spec PyProof.Rows L2
end PD
namespace PD
open PySem PySem.Spec PyProof.Rows L2
theorem TX.mut {H : Hp} {p : Addr} {u o : HO} (h : H p = some u) (n : ¬ Imm u) : TX H (upd H p o) := fun a v i e => by
  rw [upd_ne (fun z => by rw [z, h] at e; cases e; exact n i)]; exact e
theorem RM.frzG {K : PySem.W.Frag} {H : Hp} {m : Mu} {p : Addr} {u : HO} {od : Obj} (r : RM K H m) (h : H p = some u) (n : ¬ Imm u) : RM K (upd H p (.frz od u)) (mdel m p) := fun a o e => by
  by_cases ha : a = p
  · subst ha; unfold mdel at e; rw [if_pos rfl] at e; cases e
  · rw [mdel_ne ha] at e
    refine (r a o e).tx (.mut h n) fun us z => ?_
    rw [upd_ne ha]; exact z
def tFrzG (t : TE) : TE := fun τ H Q => t τ H fun x H1 => ∃ p u, x = .ref p ∧ H1 p = some u ∧ Mut (some u) ∧ ∀ od, Q x (upd H1 p (.frz od u))
section
variable {X : Cx}
theorem pe_frzG {e : Expr} {t : TE} (h : PE X e t) : PE X e (tFrzG t) := by
  refine ⟨fun pz s τ H Q I hw => ?_⟩
  refine thn (h.run pz s τ H _ I hw) fun v s1 ⟨x, H1, I1, r, p, u, ex, hp, mu, q⟩ => ?_
  subst ex
  obtain ⟨od, I2⟩ := I1.lock hp mu
  exact ⟨_, _, I2, r, q od⟩
def dFrzD (d : DE) : DE := fun s m Q => d s m fun x m1 => ∃ p kvs, x = .ref p ∧ m1 p = some (.dct kvs) ∧ Q (.dic (kvs.map (·.1)) (kvs.map (·.2))) (mdel m1 p)
def dFrzT (d : DE) : DE := fun s m Q => d s m fun x m1 => ∃ p kvs, x = .ref p ∧ m1 p = some (.dcT kvs) ∧ Q (.dicT (kvs.map (·.1)) (kvs.map (·.2))) (mdel m1 p)
def dFrzO (C : Addr) (d : DE) : DE := fun s m Q => d s m fun x m1 => ∃ p fs, x = .ref p ∧ m1 p = some (.ins C fs) ∧ Q (.obj C (fs.map (·.1)) (fs.map (·.2))) (mdel m1 p)
theorem ge_frzD {e : Expr} {d : DE} (h : GE X e d) : GE X e (dFrzD d) := by
  obtain ⟨t, p, l⟩ := h.ex
  refine .of ⟨_, pe_frzG p, fun s H sd m Qd Q rs rm h k => ?_⟩
  refine l s H sd m _ _ rs rm h fun v H1 dv m1 t1 rm1 r1 ⟨p, kvs, ex, e1, q⟩ => ?_
  subst ex
  cases r1
  obtain ⟨us, e2, e3, r2⟩ := rm1 p _ e1
  have t2 : ∀ od, TX H1 (upd H1 p (.frz od (.dK us))) := fun od => .mut e2 (fun z => z)
  exact ⟨p, _, rfl, e2, trivial, fun od => k _ _ _ _ (t1.trans (t2 od)) (rm1.frzG e2 (fun z => z)) (.dic upd_same e3 (r2.mono (t2 od))) q⟩
theorem ge_frzT {e : Expr} {d : DE} (h : GE X e d) : GE X e (dFrzT d) := by
  obtain ⟨t, p, l⟩ := h.ex
  refine .of ⟨_, pe_frzG p, fun s H sd m Qd Q rs rm h k => ?_⟩
  refine l s H sd m _ _ rs rm h fun v H1 dv m1 t1 rm1 r1 ⟨p, kvs, ex, e1, q⟩ => ?_
  subst ex
  cases r1
  obtain ⟨us, e2, e3, r2⟩ := rm1 p _ e1
  have t2 : ∀ od, TX H1 (upd H1 p (.frz od (.dT us))) := fun od => .mut e2 (fun z => z)
  exact ⟨p, _, rfl, e2, trivial, fun od => k _ _ _ _ (t1.trans (t2 od)) (rm1.frzG e2 (fun z => z)) (.dicT upd_same e3 (r2.mono (t2 od))) q⟩
theorem ge_frzO {e : Expr} {d : DE} {C : Addr} (h : GE X e d) : GE X e (dFrzO C d) := by
  obtain ⟨t, p, l⟩ := h.ex
  refine .of ⟨_, pe_frzG p, fun s H sd m Qd Q rs rm h k => ?_⟩
  refine l s H sd m _ _ rs rm h fun v H1 dv m1 t1 rm1 r1 ⟨p, fs, ex, e1, q⟩ => ?_
  subst ex
  cases r1
  obtain ⟨dx, us, e2, e3, r2⟩ := rm1 p _ e1
  have t2 : ∀ od, TX H1 (upd H1 p (.frz od (.ins C dx us))) := fun od => .mut e2 (fun z => z)
  exact ⟨p, _, rfl, e2, trivial, fun od => k _ _ _ _ (t1.trans (t2 od)) (rm1.frzG e2 (fun z => z)) (.obj upd_same e3 (r2.mono (t2 od))) q⟩
end
def lookF (f : Str) : List Str → List D → Option D
  | g :: gs, d :: ds => if f == g then some d else lookF f gs ds
  | _, _ => none
theorem lookF_rep {K : PySem.W.Frag} {H : Hp} {f : Str} : ∀ {gs : List Str} {ds : List D} {us : List (Str × V)}, us.map (·.1) = gs → RepL K H ds (us.map (·.2)) → (∀ d, lookF f gs ds = some d → ∃ v, us.lookup f = some v ∧ Rep K H d v) ∧ (lookF f gs ds = none → us.lookup f = none)
  | _, _, [], e, _ => by subst e; exact ⟨fun _ h => (nomatch h), fun _ => rfl⟩
  | _, _, (g, v) :: us, e, r => by
    subst e
    cases r with
    | cons r1 r2 =>
      have ih := lookF_rep (f := f) rfl r2
      simp only [List.map_cons, lookF, List.lookup_cons]
      cases q : (f == g) with
      | true => simp only [if_true]; exact ⟨fun d h => by cases h; exact ⟨v, rfl, r1⟩, fun h => (nomatch h)⟩
      | false => simp only [Bool.false_eq_true, if_false]; exact ih
def dFldV (C : Addr) (f : Str) (x : D) (m : Mu) (Q : DK) : Prop := match x with
  | .obj C' fs ds => C' = C ∧ ∃ v, lookF f fs ds = some v ∧ Q v m
  | _ => False
def dFldO (C : Addr) (f : Str) (de : DE) : DE := fun s m Q => de s m fun x m1 => dFldV C f x m1 Q
theorem dFldV_o {C : Addr} {f : Str} {fs : List Str} {ds : List D} {m : Mu} {Q : DK} : dFldV C f (.obj C fs ds) m Q = ∃ v, lookF f fs ds = some v ∧ Q v m := by
  show (C = C ∧ _) = _
  rw [eq_self, true_and]
section
variable {P : Program} {w : World} {H : Hp} {h : Heap} {a C dx : Addr} {fs : List (Str × V)}
theorem ins_rd (hok : HOk P w H h) (e : Rd H a (.ins C dx fs)) : ∃ mA, ObjM h a dx C mA ∧ (∀ f, RelO (fs.lookup f) (mA f)) := by
  obtain ⟨d, z, ne, ob, mA, n, r, q⟩ := (show ObjOk P w H h a (.ins C dx fs) from e.ok hok)
  exact ⟨mA, ⟨ob, n, ne⟩, r⟩
end
section
variable {X : Cx} {o e : Expr} {f : Str} {pos : Pos}
def tFldR (K : PySem.W.Frag) (ta : TE) (f : Str) : TE := fun τ H Q => ta τ H fun x H1 => ∃ a C dx fs v, x = .ref a ∧ Rd H1 a (.ins C dx fs) ∧ Cls K C ∧ NoAttr K C f ∧ fs.lookup f = some v ∧ Q v H1
theorem pe_fldR {ta : TE} (he : PE X e ta) (hb : attributeBase e f X.env (eval e X.env) = eval e X.env) : PE X (.Attribute e f pos) (tFldR X.K ta f) := by
  refine ⟨fun pz s τ H Q I h => ?_⟩
  refine attr_of hb (thn (he.run pz s τ H _ I h) fun u s1 ⟨x, H1, I1, rx, a, C, dx, fs, v, ex, ea, c, n, l, q⟩ => ?_)
  subst ex
  obtain rfl : u = Value.ref a := rx
  obtain ⟨mA, O, r⟩ := ins_rd I1.hok ea
  obtain ⟨u2, hu, ru⟩ := RelO.some_of (v := v) (o := mA f) (by rw [← l]; exact r f)
  exact get_map I1.kIn O (c.get f) c.hd n hu (handed_of ru) ⟨v, H1, I1.tok _, ru, q⟩
theorem ge_fldO {C : Addr} {de : DE} (c : Cls X.K C) (n : NoAttr X.K C f) (he : GE X e de) (hb : attributeBase e f X.env (eval e X.env) = eval e X.env := by rfl) : GE X (.Attribute e f pos) (dFldO C f de) := by
  obtain ⟨te, pt, l⟩ := he.ex
  refine .of ⟨_, pe_fldR pt hb, fun s H sd m Qd Q rs rm h k => l s H sd m _ _ rs rm h fun v H1 dv m1 t1 rm1 r1 h1 => ?_⟩
  cases r1 with
  | @obj C' fs ds a dx ob us ea en r =>
    obtain ⟨rfl, d, e3, h2⟩ := h1
    obtain ⟨v', e6, r6⟩ := (lookF_rep en r).1 d e3
    exact ⟨a, _, dx, us, v', rfl, .inr ⟨ob, ea⟩, c, n, e6, k _ _ _ _ t1 rm1 r6 h2⟩
  | _ => exact h1.elim
def tMethR (C : Addr) (m : Str) (sp : Sp) (dvs : List V) (E : XK) (ta : TE) (t : TA) : TE := fun τ H Q => ta τ H fun x H1 => ∃ a dx fs, x = .ref a ∧ Rd H1 a (.ins C dx fs) ∧ fs.lookup m = none ∧
  t τ H1 fun vs H2 => sp (x :: (vs ++ dvs)) H2 Q E
theorem getmeth_rd {pins : List (Addr × Obj)} {τ : L2.St} {H : Hp} {s : Shared} {a C dx : Addr} {fs : List (Str × V)} {m : Str} {g : Addr} {pl : Sem Bool} {A : Around} {E : Value → Shared → Prop} {Q : Value × List Value → Shared → Prop} (I : Inv X pins τ H s) (e : Rd H a (.ins C dx fs)) (c : Cls X.K C) (k : Meth X.K C m g) (l : fs.lookup m = none)
    (h : Q (.ref g, [.ref a]) s) : wpAny (model X.prog X.w) A (getMethod (.ref a) m pl) Q E s := by
  obtain ⟨mA, O, r⟩ := ins_rd I.hok e
  have hn : mA m = none := RelO.none_of (by rw [← l]; exact r m)
  exact get_meth I.kIn O (c.get m) k.at_ k.fn hn h
theorem pe_methR {C g : Addr} {k : Nat} {fd : FuncData} {ps : List Str} {sp : Sp} {CX : CXT} {dvs : List V} {E : XK} {mn : Str} {es : List Expr} {ta : TE} {t : TA} {apos : Pos} {dvz : List Value} {pl : Sem Bool} (he : PE X o ta) (c : Cls X.K C) (hm : Meth X.K C mn g) (F : FnOk X.prog X.w X.K X.mg X.base CX k g fd ps sp) (hr : Room k X.A) (hb : Binds X.K fd ps dvz) (hd : Vals dvs dvz) (hx : Passes CX X E) (ha : PA X (e :: es) t)
    (hst : starEach (e :: es) X.env = (false, eval e X.env) :: starEach es X.env := by rfl) (hpl : (backTo pos (starEach es X.env)).any (·.1) = false := by rfl)
    (ht : eval (.Call (.Attribute o mn apos) (e :: es) [] pos) X.env = (do
      let ov9 ← eval o X.env
      standAt apos.atName
      let (f, first) ← holding [ov9] (getMethod ov9 mn pl)
      callWith pos f first (backTo pos (starEach (e :: es) X.env)) (backToKw pos (keywordEach [] X.env))) := by rfl) :
    PE X (.Call (.Attribute o mn apos) (e :: es) [] pos) (tMethR C mn sp dvs E ta t) := by
  refine ⟨fun pz s τ H Q I h => ?_⟩
  refine PySem.W.methodCall_KW (pl := pl) (thn (he.run pz s τ H _ I h) fun u s1 ⟨x, H1, I1, rx, a, dx, fs, ex, ea, l, q⟩ => ?_) ht
  subst ex
  obtain rfl : u = Value.ref a := rx
  refine getmeth_rd I1 ea c hm l ?_
  refine PySem.W.callWith_K (first := [.ref a]) (h₀ := X.base) I.ok.mod.kin hm.kp (thn (ha.run pos pz s1 τ H1 _ I1 q) fun us s2 ⟨vs, H2, I2, r, q2⟩ => ⟨I2.kIn, ?_⟩) hst hpl
  exact run_fn (us := .ref a :: us) (vs := .ref a :: vs) F hr hb hd hx I2 (.cons rfl r) q2
def dMethV (C : Addr) (mn : Str) (n : Nat) (sd : SpD) (x : D) (a : (List D → Mu → Prop) → Prop) (Q : DK) : Prop := match x with
  | .obj C' fs ds => C' = C ∧ lookF mn fs ds = none ∧ a fun es m2 => es.length + 1 = n ∧ sd (.obj C' fs ds :: es) m2 Q
  | _ => False
theorem dMethV_o {C : Addr} {mn : Str} {n : Nat} {sd : SpD} {fs : List Str} {ds : List D} {a : (List D → Mu → Prop) → Prop} {Q : DK} : dMethV C mn n sd (.obj C fs ds) a Q = (lookF mn fs ds = none ∧ a fun es m2 => es.length + 1 = n ∧ sd (.obj C fs ds :: es) m2 Q) := by
  show (C = C ∧ _) = _
  rw [eq_self, true_and]
def dMethO (C : Addr) (mn : Str) (n : Nat) (sd : SpD) (de : DE) (da : DA) : DE := fun s m Q => de s m fun x m1 => dMethV C mn n sd x (fun k => da s m1 k) Q
theorem ge_methO {C g : Addr} {k n : Nat} {fd : FuncData} {ps : List Str} {sd : SpD} {mn : Str} {es : List Expr} {de : DE} {da : DA} {apos : Pos} {pl : Sem Bool} (c : Cls X.K C) (hm : Meth X.K C mn g) (F : FnOk X.prog X.w X.K X.mg X.base CX0 k g fd ps (spL X.K n sd)) (hr : Room k X.A) (hb : Binds X.K fd ps []) (he : GE X o de)
    (ha : GA X (e :: es) da) (hst : starEach (e :: es) X.env = (false, eval e X.env) :: starEach es X.env := by rfl) (hpl : (backTo pos (starEach es X.env)).any (·.1) = false := by rfl)
    (ht : eval (.Call (.Attribute o mn apos) (e :: es) [] pos) X.env = (do
      let ov9 ← eval o X.env
      standAt apos.atName
      let (f, first) ← holding [ov9] (getMethod ov9 mn pl)
      callWith pos f first (backTo pos (starEach (e :: es) X.env)) (backToKw pos (keywordEach [] X.env))) := by rfl) :
    GE X (.Call (.Attribute o mn apos) (e :: es) [] pos) (dMethO C mn n sd de da) := by
  obtain ⟨te, pt, l⟩ := he.ex
  obtain ⟨ta, q, la⟩ := ha.ex
  refine .of ⟨_, pe_methR (E := E0) pt c hm F hr hb .nil pass0 q hst hpl ht, fun s H sd' m Qd Q rs rm h k => ?_⟩
  refine l s H sd' m _ _ rs rm h fun x H1 dx1 m1 t1 rm1 r1 h1 => ?_
  cases r1 with
  | @obj C' fs ds a dx ob us ea en r =>
    obtain ⟨rfl, e3, h2⟩ := h1
    refine ⟨a, dx, us, rfl, .inr ⟨ob, ea⟩, (lookF_rep en r).2 e3, ?_⟩
    refine la s H1 sd' m1 _ _ (rs.mono t1) rm1 h2 fun vs H2 es2 m2 t2 rm2 r2 h3 => ?_
    rw [List.append_nil]
    exact ⟨_ :: es2, m2, Qd, .cons (Rep.mono t2 (.obj ea en r)) r2, rm2, ⟨h3.1, h3.2⟩, fun v' H' dv' m' t' a b c => k v' H' dv' m' (t1.trans (t2.trans t')) a b c⟩
  | _ => exact h1.elim
end
end PD
namespace PD
open PySem PySem.Spec PyProof.Rows L2
def dicOf (kvs : List (Key × D)) : D := .dic (kvs.map (·.1)) (kvs.map (·.2))
def dicTOf (kvs : List (List Key × D)) : D := .dicT (kvs.map (·.1)) (kvs.map (·.2))
theorem zip_self {α β : Type} : ∀ l : List (α × β), (l.map (·.1)).zip (l.map (·.2)) = l
  | [] => rfl
  | x :: l => by rw [List.map_cons, List.map_cons, List.zip_cons_cons, zip_self l]
def dctOf (m : Mu) : D → Option (List (Key × D))
  | .dic ks ds => some (ks.zip ds)
  | .ref a => match m a with | some (.dct kvs) => some kvs | _ => none
  | _ => none
theorem dct_dic {m : Mu} {kvs : List (Key × D)} : dctOf m (dicOf kvs) = some kvs := by
  show some ((kvs.map (·.1)).zip (kvs.map (·.2))) = _
  rw [zip_self]
theorem dct_ref {m : Mu} {a : Addr} {kvs : List (Key × D)} (h : m a = some (.dct kvs)) : dctOf m (.ref a) = some kvs := by unfold dctOf; simp only [h]
theorem map_snd_of {α β γ : Type} {us : List (α × β)} {ds : List γ} (h : ds.length = us.length) : ((us.map (·.1)).zip ds).map (·.1) = us.map (·.1) ∧ ((us.map (·.1)).zip ds).map (·.2) = ds :=
  ⟨List.map_fst_zip (by rw [List.length_map]; omega), List.map_snd_zip (by rw [List.length_map]; omega)⟩
theorem dct_rep {K : PySem.W.Frag} {H : Hp} {m : Mu} {d : D} {v : V} {kvs : List (Key × D)} (rm : RM K H m) (r : Rep K H d v) (h : dctOf m d = some kvs) :
    ∃ a us, v = .ref a ∧ Rd H a (.dK us) ∧ us.map (·.1) = kvs.map (·.1) ∧ RepL K H (kvs.map (·.2)) (us.map (·.2)) := by
  cases r with
  | @dic ks ds a o us ea en r =>
    unfold dctOf at h
    cases h
    have hl := r.length
    rw [List.length_map] at hl
    obtain ⟨z1, z2⟩ := map_snd_of (us := us) hl
    subst en
    exact ⟨a, us, rfl, .inr ⟨o, ea⟩, z1.symm, by rw [z2]; exact r⟩
  | ref a =>
    unfold dctOf at h
    cases e : m a with
    | none => simp only [e] at h; cases h
    | some o =>
      have q := rm a o e
      cases o with
      | dct es => simp only [e] at h; cases h; obtain ⟨us, e2, e3, r⟩ := q; exact ⟨a, us, rfl, .inl e2, e3, r⟩
      | _ => simp only [e] at h; cases h
  | _ => unfold dctOf at h; cases h
theorem dget_rd {H : Hp} {a : Addr} {us : List (Key × V)} {k : Key} (e : Rd H a (.dK us)) : DGet H a (kV k) (valV us k) := .inl ⟨us, k, e, rfl, rfl⟩
def dGetV (x y : D) (m : Mu) (Q : DK) : Prop := ∃ kvs, dctOf m x = some kvs ∧ ∃ k, toKey y = some k ∧ ∃ d, valD kvs k = some d ∧ Q d m
def dInV (f : Bool → Bool) (y x : D) (m : Mu) (Q : DK) : Prop := ∃ kvs, dctOf m x = some kvs ∧ ∃ k, toKey y = some k ∧ Q (.bl (f (valD kvs k).isSome)) m
def dDGetU (dd dk : DE) : DE := fun s m Q => dd s m fun x m1 => dk s m1 fun y m2 => dGetV x y m2 Q
def dDInU (f : Bool → Bool) (dk dd : DE) : DE := fun s m Q => dk s m fun y m1 => dd s m1 fun x m2 => dInV f y x m2 Q
def dGet2V (x y z : D) (m : Mu) (Q : DK) : Prop := ∃ kvs, dctOf m x = some kvs ∧ ∃ k, toKey y = some k ∧ Q ((valD kvs k).getD z) m
def dDGet2U (dd dk dx : DE) : DE := fun s m Q => dd s m fun x m1 => (dctOf m1 x).isSome = true ∧ dk s m1 fun y m2 => dx s m2 fun z m3 => dGet2V x y z m3 Q
section
variable {X : Cx} {o i e f : Expr} {pos apos cpos : Pos} {dd dk dx : DE}
theorem ge_dgetU (hu : X.A.units + 1 < cLine) (ho : GE X o dd) (hi : GE X i dk) (hs : NoSl i) : GE X (.Subscript o i pos) (dDGetU dd dk) := by
  obtain ⟨td, pd, ld⟩ := ho.ex
  obtain ⟨ti, pi, li⟩ := hi.ex
  refine .of ⟨_, pe_dget hu pd pi hs, fun s H sd m Qd Q rs rm h k => ?_⟩
  refine ld s H sd m _ _ rs rm h fun x H1 dx m1 t1 rm1 r1 h1 => ?_
  refine li s H1 sd m1 _ _ (rs.mono t1) rm1 h1 fun y H2 dy m2 t2 rm2 r2 h2 => ?_
  obtain ⟨kvs, e2, kk, e3, d, e4, h3⟩ := h2
  obtain ⟨a, us, rfl, e5, e6, r⟩ := dct_rep rm2 (r1.mono t2) e2
  obtain ⟨v, e7, r7⟩ := (val_rep e6 r).1 d e4
  have hy := key_rep r2 e3
  subst hy
  exact ⟨a, v, rfl, by rw [← e7]; exact dget_rd e5, k _ _ _ _ (t1.trans t2) rm2 r7 h3⟩
theorem gt_dnotinU (hu : X.A.units + 1 < cLine) (hi : GE X i dk) (ho : GE X o dd) (hm : behindInMarks .NotIn o = false := by rfl) : GT X (.Compare i [.NotIn] [o] pos) (dTest (dDInU (fun b => !b) dk dd)) := by
  obtain ⟨td, pd, ld⟩ := ho.ex
  obtain ⟨ti, pi, li⟩ := hi.ex
  refine .of ⟨_, pt_cmp (pc_dnotin hu pi pd) hm, LE.testB fun s H sd m Qd Q rs rm h k => ?_⟩
  refine li s H sd m _ _ rs rm h fun y H1 dy m1 t1 rm1 r1 h1 => ?_
  refine ld s H1 sd m1 _ _ (rs.mono t1) rm1 h1 fun x H2 dx m2 t2 rm2 r2 h2 => ?_
  obtain ⟨kvs, e2, kk, e3, h3⟩ := h2
  obtain ⟨a, us, rfl, e5, e6, r⟩ := dct_rep rm2 r2 e2
  have hy := key_rep (r1.mono t2) e3
  subst hy
  refine ⟨a, _, rfl, dget_rd e5, ?_⟩
  rw [val_some e6 r]
  exact k _ _ _ _ (t1.trans t2) rm2 (.bl _) h3
end
def keyD : Key → D
  | .inl i => .int i
  | .inr x => .str x
theorem keyD_rep {K : PySem.W.Frag} {H : Hp} (k : Key) : Rep K H (keyD k) (kV k) := by cases k <;> constructor
def dIKeys (a : DE) : DI := fun s m R => a s m fun x m1 => match x with
  | .dic ks _ => R (ks.map keyD) (fun _ => True) m1
  | _ => False
theorem gi_keys {X : Cx} {tg l : Expr} {a : DE} (h : GE X l a) : GIE X tg l (dIKeys a) :=
  ⟨iKeys (liftE X.K a), pi_keys h.pe, fun s H sd m Rd R rs rm hh k => by
    refine liftE_le _ a s H sd m _ _ rs rm hh fun v H1 dv m1 t1 rm1 r1 h1 => ?_
    cases r1 with
    | @dic ks ds p o us ea en r =>
      have hl : (ks.map keyD).length = us.length := by rw [← en, List.length_map, List.length_map]
      refine ⟨p, o, rfl, .inl ⟨us, ea, k _ H1 (ks.map keyD) (fun _ => True) m1 t1 rm1 ⟨fun i H' m' t' _ _ hi => ?_, fun i H' x H2 m' t' rm' _ _ hy => ?_, fun i H' m' t' _ _ hi => ?_⟩ h1⟩⟩
      · exact ⟨t' _ _ trivial ea, by omega⟩
      · obtain ⟨rfl, kk, v, e1, rfl⟩ := hy
        refine ⟨keyD kk, ?_, .refl _, rm', keyD_rep kk⟩
        subst en
        rw [List.getElem?_map, List.getElem?_map, e1]; rfl
      · exact ⟨t' _ _ trivial ea, by omega⟩
    | _ => exact h1.elim⟩
def dDComp (st : Mu → Prop) (g : DG) (t : DT) (tk te : DE) (p : Addr) (s : Sd) (Q : DK) : List D → List (Key × D) → Mu → Prop
  | [], acc => fun m => st m ∧ m p = some (.dct acc) ∧ Q (.ref p) m
  | d :: es, acc => fun m => st m ∧ g d s m fun s2 m2 => t s2 m2 fun b m3 =>
      if b = true then tk s2 m3 fun y m4 => te s2 m4 fun z m5 => ∃ k, toKey y = some k ∧ m5 p = some (.dct acc) ∧ acc.length < sizeLine ∧ dDComp st g t tk te p s Q es (putKD acc k z) (mset m5 p (.dct (putKD acc k z))) else dDComp st g t tk te p s Q es acc m3
def dDc (di : DI) (g : DG) (t : DT) (tk te : DE) (vs : List Nat) : DE := fun s m Q => di s m fun es st m1 => ∀ p, m1 p = none → dDComp st g t tk te p (wipeD s vs) Q es [] (mset m1 p (.dct []))
section
variable {X : Cx}
theorem le_dc {s : L2.St} {H : Hp} {Q : VK} {sd : Sd} {m : Mu} {Qd : DK} {tg iter : Expr} {vs : List Nat} {wi : TI} {di : DI} {g : TG} {dg : DG} {js : List Nat} {dt : DT} {dk de : DE} (hi : GI X tg iter wi di) (lg : LG X.K g dg js) (hj : ∀ j ∈ js, j ∈ vs)
    (rs : RS X.K H sd s) (rm : RM X.K H m) (h : dDc di dg dt dk de vs sd m Qd) (k : ∀ v H' dv m', TX H H' → RM X.K H' m' → Rep X.K H' dv v → Qd dv m' → Q v H') : tDc wi g (liftT X.K dt) (liftE X.K dk) (liftE X.K de) vs s H Q := by
  refine hi.li s H sd m _ _ rs rm h fun J H1 es st m1 t1 rm1 jo h1 => ?_
  intro p hp
  have h2 := h1 p (rm1.fresh hp)
  have tn : TX H1 (upd H1 p (.dK [])) := .new hp
  refine ⟨fun i n H' => i ≤ es.length ∧ n = es.length - i ∧ ∃ m' acc, TX H1 H' ∧ RM X.K H' m' ∧ dDComp st dg dt dk de p (wipeD sd vs) Qd (es.drop i) acc m', ⟨es.length, Nat.zero_le _, by omega, _, [], tn, rm1.newD hp, h2⟩, ?_⟩
  rintro i n H' ⟨hle, rfl, m', acc, t2, rm2, q⟩
  by_cases hlt : i < es.length
  · rw [List.drop_eq_getElem_cons hlt] at q
    obtain ⟨hst, q⟩ := q
    refine .inr ⟨jo.go i H' m' t2 rm2 hst hlt, fun H2 => ∃ m2 acc, TX H1 H2 ∧ RM X.K H2 m2 ∧ dDComp st dg dt dk de p (wipeD sd vs) Qd (es.drop (i + 1)) acc m2, fun H2 ⟨m2, acc, a, b, e⟩ => ⟨es.length - (i + 1), by omega, hlt, rfl, m2, acc, a, b, e⟩, fun x H3 hy => ?_⟩
    obtain ⟨dx, e, t3, rm3, rx⟩ := jo.yld i H' x H3 m' t2 rm2 hst hlt hy
    rw [List.getElem?_eq_getElem hlt] at e
    cases e
    refine lg x _ (wipe s vs) H3 (wipeD sd vs) m' _ _ rx ((rs.mono (t1.trans (t2.trans t3))).wipe _) rm3 q fun s4 H4 sd4 m4 t4 rs4 rm4 q4 ow => ?_
    refine ⟨by rw [ow _ hj, wipe_wipe], ?_⟩
    have t14 : TX H1 H4 := t2.trans (t3.trans t4)
    refine liftT_le _ dt s4 H4 sd4 m4 _ _ rs4 rm4 q4 fun b H5 m5 t5 rm5 q5 => ?_
    cases b with
    | true =>
      show liftE X.K dk s4 H5 _
      refine liftE_le _ dk s4 H5 sd4 m5 _ _ (rs4.mono t5) rm5 q5 fun y H6 dy m6 t6 rm6 ry q6 => ?_
      refine liftE_le _ de s4 H6 sd4 m6 _ _ (rs4.mono (t5.trans t6)) rm6 q6 fun z H7 dz m7 t7 rm7 rz q7 => ?_
      obtain ⟨kk, e5, e6, hz, q8⟩ := q7
      obtain ⟨us, e7, e8, r7⟩ := rm7 p _ e6
      have hy := key_rep ry e5
      subst hy
      have hlen : us.length = acc.length := by have z := congrArg List.length e8; rwa [List.length_map, List.length_map] at z
      have pr := putK_rep (k := kk) e8 r7 rz
      exact ⟨us, kk, rfl, e7, by omega, _, putKD acc kk dz, t14.trans (t5.trans (t6.trans (t7.trans (.dK e7)))), rm7.setD e7 pr.1 pr.2, q8⟩
    | false =>
      exact ⟨m5, acc, t14.trans t5, rm5, q5⟩
  · have e : i = es.length := by omega
    subst e
    rw [List.drop_length] at q
    exact .inl ⟨jo.stop _ H' m' t2 rm2 q.1 (Nat.le_refl _), k _ H' _ m' (t1.trans t2) rm2 (.ref p) q.2.2⟩
theorem ge_dc {kx vx tg iter : Expr} {ifs : List Expr} {scope : Scope} {own : List (Str × Nat)} {pos : Pos} {di : DI} {dg : DG} {js : List Nat} {dt : DT} {dk de : DE} (hc : X.calm = true) (hN : X.N.Nodup) (hi : GIE X tg iter di) (ok : BlkOk X.N X.env.scope scope own)
    (hg : ∀ (s : Shared) (H : Hp) (C : Addr) (cl : List (Str × Addr)) (fp : List Addr), GG (X.blk s H scope (compEnvC scope cl C X.env) fp) tg dg js) (ht : ∀ (s : Shared) (H : Hp) (C : Addr) (cl : List (Str × Addr)) (fp : List Addr), GTs (X.blk s H scope (compEnvC scope cl C X.env) fp) ifs dt)
    (hk : ∀ (s : Shared) (H : Hp) (C : Addr) (cl : List (Str × Addr)) (fp : List Addr), GE (X.blk s H scope (compEnvC scope cl C X.env) fp) kx dk)
    (he : ∀ (s : Shared) (H : Hp) (C : Addr) (cl : List (Str × Addr)) (fp : List Addr), GE (X.blk s H scope (compEnvC scope cl C X.env) fp) vx de) (hj : ∀ j ∈ js, j ∈ own.map (·.2)) (hs : ∀ x, foldedSetIterable iter X.env x = pure x := by intro _; rfl) :
    GE X (.DictComp kx vx [⟨tg, iter, ifs, 0⟩] scope pos) (dDc di dg dt dk de (own.map (·.2))) := by
  obtain ⟨wi, hi⟩ := hi
  refine ⟨⟨fun pz s0 s H Q I ⟨sd, m, Qd, rs, rm, h, k⟩ => (pe_dc (g := liftG X.K dg js) (tt := liftT X.K dt) (tk := liftE X.K dk) (tv := liftE X.K de) hc hN hi.pi ok (fun s H C cl fp => (hg s H C cl fp).pg) (fun s H C cl fp => (ht s H C cl fp).pts) (fun s H C cl fp => (hk s H C cl fp).pe) (fun s H C cl fp => (he s H C cl fp).pe) hs).run pz s0 s H Q I ?_⟩⟩
  exact le_dc hi (hg s0 H 0 [] []).lg hj rs rm h k
end
end PD
namespace PD
open PySem PySem.Spec PyProof.Rows L2
theorem ge_glb {X : Cx} {x : Str} {i : Int} {pos : Pos} (hg : Gl X x) (hm : ∃ t, X.mg x = some (.int i t)) (hd : (x == ("__debug__" : Str)) = false := by decide) : GE X (.Name x pos) (dC (.int i)) :=
  let ⟨t, e⟩ := hm
  ge_c (pe_glob (v := .int i) hg e ⟨t, rfl⟩ hd) fun _ => .int i
section
variable {P : Program} {w : World} {K : PySem.W.Frag} {mg : Str → Option Value} {base : Heap}
def sp_nev : SpD := fun _ _ _ => False
def sp_nevX : SpX := fun _ _ _ _ => False
theorem fn_nev {x qual : Str} {st : Stmt} {f : Addr} {fd : FuncData} {N ps : List Str} {k : Nat} (F : Fun K x qual st f fd) (S : FnScope N ps (defScope st)) : FnOk P w K mg base CX0 (k + 1) f fd ps (spL K ps.length sp_nev) :=
  F.ok S (fun vs H Q E ⟨ds, m, Qd, r, rm, h, _⟩ => h.2.elim) fun cdv A outer s H vs Q E hr ⟨ds, m, Qd, r, rm, ⟨_, h⟩, kq⟩ => h.elim
theorem fn_nevX {x qual : Str} {st : Stmt} {f : Addr} {fd : FuncData} {N ps : List Str} {k : Nat} (F : Fun K x qual st f fd) (S : FnScope N ps (defScope st)) : FnOk P w K mg base (L2.CX P w) (k + 1) f fd ps (spX K ps.length sp_nevX) :=
  F.okX S (fun vs H Q E ⟨ds, m, Qd, Ed, r, rm, h, _⟩ => h.2.elim) fun cdv A outer s H vs Q E hr ⟨ds, m, Qd, Ed, r, rm, ⟨_, h⟩, kq, ke⟩ => h.elim
end
def tx (l : List Nat) : Str := ⟨l.toArray⟩
theorem tx_app {a b : List Nat} : tx a ++ tx b = tx (a ++ b) := by
  show Str.append (tx a) (tx b) = _
  unfold Str.append tx; rw [List.append_toArray]
theorem tx_len {l : List Nat} : (tx l).length = l.length := by unfold tx; show l.toArray.size = _; rw [List.size_toArray]
theorem tx_emp : ("" : Str) = tx [] := rfl
theorem tx_inj {a b : List Nat} (h : tx a = tx b) : a = b := by
  have := congrArg (fun s : Str => s.cps.toList) h
  simpa [tx] using this
theorem cps_tx (l : List Nat) : (tx l).cps.toList = l := by unfold tx; simp
theorem dIx_tx {l : List Nat} {i : Int} {m : Mu} {Q : DK} : dIx (.str (tx l)) (.int i) m Q = (l.length ≤ sizeLine ∧ ∃ c, atI l i = some c ∧ Q (.str (tx [c])) m) := by
  rw [dIx_s, tx_len]; unfold tx; rfl
theorem sgn_tx {l : List Nat} : sgn (tx l) = l.map fun c => .str (tx [c]) := by unfold sgn tx; rfl
theorem cutS_to {l : List Nat} {k : Nat} : cutS (tx l) none (some (k : Int)) = tx (l.take k) := by
  unfold cutS
  rw [HT.sIx_none, HT.sIx_nat, List.drop_zero, Nat.sub_zero, tx_len]
  unfold tx
  congr 2
  show List.take (min k l.length) l = _
  by_cases h : k ≤ l.length
  · rw [Nat.min_eq_left h]
  · rw [Nat.min_eq_right (by omega), List.take_length, List.take_of_length_le (by omega)]
theorem cutS_fr {l : List Nat} {k : Nat} : cutS (tx l) (some (k : Int)) none = tx (l.drop k) := by
  unfold cutS
  rw [HT.sIx_none, HT.sIx_nat, tx_len]
  unfold tx
  congr 2
  show List.take (l.length - min k l.length) (List.drop (min k l.length) l) = _
  by_cases h : k ≤ l.length
  · rw [Nat.min_eq_left h, List.take_of_length_le (by rw [List.length_drop]; exact Nat.le_refl _)]
  · rw [Nat.min_eq_right (by omega), List.drop_length, List.take_nil, List.drop_of_length_le (by omega)]
theorem cutS_fr1 {l : List Nat} {k : Nat} : cutS (tx l) (some ((k : Int) + 1)) none = tx (l.drop (k + 1)) := cutS_fr (k := k + 1)
theorem glue_go : ∀ (ls : List (List Nat)) (acc : List Nat), (ls.map tx).foldl (fun (a : Array Nat) p => a ++ (tx []).cps ++ p.cps) acc.toArray = (acc ++ ls.flatten).toArray
  | [], acc => by simp
  | l :: ls, acc => by
    rw [List.map_cons, List.foldl_cons]
    have e : acc.toArray ++ (tx []).cps ++ (tx l).cps = (acc ++ l).toArray := by unfold tx; simp
    rw [e, glue_go ls (acc ++ l), List.flatten_cons, List.append_assoc]
theorem join_tx (ls : List (List Nat)) : Txt.join (tx []) (ls.map tx) = tx ls.flatten := by
  unfold Txt.join Builtin.Str.glued
  cases ls with
  | nil => rfl
  | cons l ls =>
    have := glue_go ls l
    unfold tx at this ⊢
    rw [List.flatten_cons, List.map_cons, List.headD_cons, List.drop_one, List.tail_cons]
    rw [this]
theorem flat_sg : ∀ l : List Nat, (l.map fun c => [c]).flatten = l
  | [] => rfl
  | c :: l => by rw [List.map_cons, List.flatten_cons, flat_sg l]; rfl
theorem join_sg (l : List Nat) : Txt.join (tx []) (l.map fun c => tx [c]) = tx l := by
  have := join_tx (l.map fun c => [c])
  rw [List.map_map, flat_sg] at this
  exact this
theorem dAbs_i {i : Int} {m : Mu} {Q : DK} : dAbs [.int i] m Q = Q (.int (if i < 0 then -i else i)) m := rfl
end PD
namespace PD
open PySem PySem.Spec PyProof.Rows L2
mutual
def pln : D → Bool
  | .non | .int _ | .str _ => true
  | .tup ds | .rol ds => plns ds
  | _ => false
def plns : List D → Bool
  | [] => true
  | d :: ds => pln d && plns ds
end
mutual
def dep : D → Nat
  | .tup ds | .rol ds => deps ds + 1
  | _ => 0
def deps : List D → Nat
  | [] => 0
  | d :: ds => max (dep d) (deps ds)
end
mutual
def sok : D → Bool
  | .str x => PyData.canLay0 (.str x)
  | .tup ds | .rol ds => soks ds
  | _ => true
def soks : List D → Bool
  | [] => true
  | d :: ds => sok d && soks ds
end
theorem plns_iff {ds : List D} : plns ds = true ↔ ∀ d ∈ ds, pln d = true := by
  induction ds with
  | nil => simp [plns]
  | cons d ds ih => simp [plns, ih]
theorem soks_iff {ds : List D} : soks ds = true ↔ ∀ d ∈ ds, sok d = true := by
  induction ds with
  | nil => simp [soks]
  | cons d ds ih => simp [soks, ih]
theorem deps_le {ds : List D} {n : Nat} : deps ds ≤ n ↔ ∀ d ∈ ds, dep d ≤ n := by
  induction ds with
  | nil => simp [deps]
  | cons d ds ih => simp only [deps, List.mem_cons, forall_eq_or_imp, ← ih]; omega
mutual
theorem toP_pln : ∀ d : D, pln d = true → ∃ p, toP d = some p ∧ p.plain = true ∧ p.depth = dep d ∧ p.canLay0 = sok d
  | .non, _ => ⟨.none, rfl, rfl, by simp [PyData.depth, dep], by simp [PyData.canLay0, sok]⟩
  | .int i, _ => ⟨.int i, rfl, rfl, by simp [PyData.depth, dep], by simp [PyData.canLay0, sok]⟩
  | .str x, _ => ⟨.str x, rfl, rfl, by simp [PyData.depth, dep], by simp [sok]⟩
  | .tup ds, h => by
    obtain ⟨ps, e, h1, h2, h3⟩ := toPs_pln ds (by simpa [pln] using h)
    exact ⟨.tuple ps, by unfold toP; rw [e]; rfl, by simpa [PyData.plain] using h1, by simp [PyData.depth, dep, h2], by simp [PyData.canLay0, sok, h3]⟩
  | .rol ds, h => by
    obtain ⟨ps, e, h1, h2, h3⟩ := toPs_pln ds (by simpa [pln] using h)
    exact ⟨.list ps, by unfold toP; rw [e]; rfl, by simpa [PyData.plain] using h1, by simp [PyData.depth, dep, h2], by simp [PyData.canLay0, sok, h3]⟩
  | .bl _, h => by simp [pln] at h
  | .ref _, h => by simp [pln] at h
  | .dic _ _, h => by simp [pln] at h
  | .dicT _ _, h => by simp [pln] at h
  | .obj _ _ _, h => by simp [pln] at h
theorem toPs_pln : ∀ ds : List D, plns ds = true → ∃ ps, toPs ds = some ps ∧ PyData.plainAll ps = true ∧ PyData.depthAll ps = deps ds ∧ PyData.canLayAll0 ps = soks ds
  | [], _ => ⟨[], rfl, rfl, by simp [PyData.depthAll, deps], by simp [PyData.canLayAll0, soks]⟩
  | d :: ds, h => by
    obtain ⟨h1, h2⟩ := Bool.and_eq_true_iff.mp (show (pln d && plns ds) = true by simpa [plns] using h)
    obtain ⟨p, e, p1, p2, p3⟩ := toP_pln d h1
    obtain ⟨ps, e', q1, q2, q3⟩ := toPs_pln ds h2
    exact ⟨p :: ps, by unfold toPs; rw [e, e'], by simp [PyData.plainAll, p1, q1], by simp [PyData.depthAll, deps, p2, q2], by simp [PyData.canLayAll0, soks, p3, q3]⟩
end
mutual
theorem eqv_iff : ∀ (d e : D) (p q : PyData), pln d = true → pln e = true → toP d = some p → toP e = some q → (PyData.eqv p q = true ↔ d = e)
  | .tup ds, e, p, q, h1, h2, h3, h4 => by
    obtain ⟨ps, e1, _⟩ := toPs_pln ds (by simpa [pln] using h1)
    have : toP (.tup ds) = some (.tuple ps) := by unfold toP; rw [e1]; rfl
    rw [this] at h3; cases h3
    cases e with
    | tup es =>
      obtain ⟨qs, e2, _⟩ := toPs_pln es (by simpa [pln] using h2)
      have : toP (.tup es) = some (.tuple qs) := by unfold toP; rw [e2]; rfl
      rw [this] at h4; cases h4
      simp only [PyData.eqv, D.tup.injEq]
      exact eqvs_iff ds es ps qs (by simpa [pln] using h1) (by simpa [pln] using h2) e1 e2
    | rol es =>
      obtain ⟨qs, e2, _⟩ := toPs_pln es (by simpa [pln] using h2)
      have : toP (.rol es) = some (.list qs) := by unfold toP; rw [e2]; rfl
      rw [this] at h4; cases h4
      simp [PyData.eqv]
    | non => cases h4; simp [PyData.eqv]
    | int _ => cases h4; simp [PyData.eqv]
    | str _ => cases h4; simp [PyData.eqv]
    | _ => simp [pln] at h2
  | .rol ds, e, p, q, h1, h2, h3, h4 => by
    obtain ⟨ps, e1, _⟩ := toPs_pln ds (by simpa [pln] using h1)
    have : toP (.rol ds) = some (.list ps) := by unfold toP; rw [e1]; rfl
    rw [this] at h3; cases h3
    cases e with
    | rol es =>
      obtain ⟨qs, e2, _⟩ := toPs_pln es (by simpa [pln] using h2)
      have : toP (.rol es) = some (.list qs) := by unfold toP; rw [e2]; rfl
      rw [this] at h4; cases h4
      simp only [PyData.eqv, D.rol.injEq]
      exact eqvs_iff ds es ps qs (by simpa [pln] using h1) (by simpa [pln] using h2) e1 e2
    | tup es =>
      obtain ⟨qs, e2, _⟩ := toPs_pln es (by simpa [pln] using h2)
      have : toP (.tup es) = some (.tuple qs) := by unfold toP; rw [e2]; rfl
      rw [this] at h4; cases h4
      simp [PyData.eqv]
    | non => cases h4; simp [PyData.eqv]
    | int _ => cases h4; simp [PyData.eqv]
    | str _ => cases h4; simp [PyData.eqv]
    | _ => simp [pln] at h2
  | .non, e, p, q, h1, h2, h3, h4 => by
    cases h3
    cases e with
    | tup es =>
      obtain ⟨qs, e2, _⟩ := toPs_pln es (by simpa [pln] using h2)
      have : toP (.tup es) = some (.tuple qs) := by unfold toP; rw [e2]; rfl
      rw [this] at h4; cases h4
      simp [PyData.eqv]
    | rol es =>
      obtain ⟨qs, e2, _⟩ := toPs_pln es (by simpa [pln] using h2)
      have : toP (.rol es) = some (.list qs) := by unfold toP; rw [e2]; rfl
      rw [this] at h4; cases h4
      simp [PyData.eqv]
    | non => cases h4; simp [PyData.eqv]
    | int _ => cases h4; simp [PyData.eqv]
    | str _ => cases h4; simp [PyData.eqv]
    | _ => simp [pln] at h2
  | .int i, e, p, q, h1, h2, h3, h4 => by
    cases h3
    cases e with
    | tup es =>
      obtain ⟨qs, e2, _⟩ := toPs_pln es (by simpa [pln] using h2)
      have : toP (.tup es) = some (.tuple qs) := by unfold toP; rw [e2]; rfl
      rw [this] at h4; cases h4
      simp [PyData.eqv]
    | rol es =>
      obtain ⟨qs, e2, _⟩ := toPs_pln es (by simpa [pln] using h2)
      have : toP (.rol es) = some (.list qs) := by unfold toP; rw [e2]; rfl
      rw [this] at h4; cases h4
      simp [PyData.eqv]
    | non => cases h4; simp [PyData.eqv]
    | int _ => cases h4; simp [PyData.eqv]
    | str _ => cases h4; simp [PyData.eqv]
    | _ => simp [pln] at h2
  | .str x, e, p, q, h1, h2, h3, h4 => by
    cases h3
    cases e with
    | tup es =>
      obtain ⟨qs, e2, _⟩ := toPs_pln es (by simpa [pln] using h2)
      have : toP (.tup es) = some (.tuple qs) := by unfold toP; rw [e2]; rfl
      rw [this] at h4; cases h4
      simp [PyData.eqv]
    | rol es =>
      obtain ⟨qs, e2, _⟩ := toPs_pln es (by simpa [pln] using h2)
      have : toP (.rol es) = some (.list qs) := by unfold toP; rw [e2]; rfl
      rw [this] at h4; cases h4
      simp [PyData.eqv]
    | non => cases h4; simp [PyData.eqv]
    | int _ => cases h4; simp [PyData.eqv]
    | str _ => cases h4; simp [PyData.eqv]
    | _ => simp [pln] at h2
  | .bl _, _, _, _, h, _, _, _ => by simp [pln] at h
  | .ref _, _, _, _, h, _, _, _ => by simp [pln] at h
  | .dic _ _, _, _, _, h, _, _, _ => by simp [pln] at h
  | .dicT _ _, _, _, _, h, _, _, _ => by simp [pln] at h
  | .obj _ _ _, _, _, _, h, _, _, _ => by simp [pln] at h
theorem eqvs_iff : ∀ (ds es : List D) (ps qs : List PyData), plns ds = true → plns es = true → toPs ds = some ps → toPs es = some qs → (PyData.eqvAll ps qs = true ↔ ds = es)
  | [], [], ps, qs, _, _, h3, h4 => by cases h3; cases h4; simp [PyData.eqvAll]
  | [], e :: es, ps, qs, _, h2, h3, h4 => by
    cases h3
    obtain ⟨g1, g2⟩ := Bool.and_eq_true_iff.mp (show (pln e && plns es) = true by simpa [plns] using h2)
    obtain ⟨q', e1, _⟩ := toP_pln e g1
    obtain ⟨qs', e2, _⟩ := toPs_pln es g2
    unfold toPs at h4; rw [e1, e2] at h4; cases h4
    simp [PyData.eqvAll]
  | d :: ds, [], ps, qs, h1, _, h3, h4 => by
    cases h4
    obtain ⟨g1, g2⟩ := Bool.and_eq_true_iff.mp (show (pln d && plns ds) = true by simpa [plns] using h1)
    obtain ⟨q', e1, _⟩ := toP_pln d g1
    obtain ⟨qs', e2, _⟩ := toPs_pln ds g2
    unfold toPs at h3; rw [e1, e2] at h3; cases h3
    simp [PyData.eqvAll]
  | d :: ds, e :: es, ps, qs, h1, h2, h3, h4 => by
    obtain ⟨f1, f2⟩ := Bool.and_eq_true_iff.mp (show (pln d && plns ds) = true by simpa [plns] using h1)
    obtain ⟨p', e3, _⟩ := toP_pln d f1
    obtain ⟨ps', e4, _⟩ := toPs_pln ds f2
    obtain ⟨g1, g2⟩ := Bool.and_eq_true_iff.mp (show (pln e && plns es) = true by simpa [plns] using h2)
    obtain ⟨q', e1, _⟩ := toP_pln e g1
    obtain ⟨qs', e2, _⟩ := toPs_pln es g2
    unfold toPs at h3; rw [e3, e4] at h3; cases h3
    unfold toPs at h4; rw [e1, e2] at h4; cases h4
    rw [PyData.eqvAll, Bool.and_eq_true_iff, eqv_iff d e p' q' f1 g1 e3 e1, eqvs_iff ds es ps' qs' f2 g2 e4 e2, List.cons.injEq]
end
theorem pln_flat {d : D} (h : pln d = true) : flatD d = true ∨ (∃ ds, d = .tup ds) ∨ ∃ ds, d = .rol ds := by
  cases d <;> simp [pln, flatD] at *
theorem eqF_iff {d e : D} (h1 : pln d = true) (h2 : pln e = true) (f1 : flatD d = true) (f2 : flatD e = true) : eqF d e = true ↔ d = e := by
  cases d <;> cases e <;> simp [pln, flatD, eqF] at *
/-- == of plain data is equality -/
theorem eqK_iff (m : Mu) {d e : D} (h1 : pln d = true) (h2 : pln e = true) (s1 : sok d = true) (s2 : sok e = true) (l1 : dep d ≤ 60) (l2 : dep e ≤ 60) : ∃ b, eqK m d e = some b ∧ (b = true ↔ d = e) := by
  have shp : ∀ {x : D} {p : PyData}, toP x = some p → p.canLay0 = sok x → p.depth = dep x → sok x = true → dep x ≤ 60 → SeqAt.shaped p = true := fun e a b c d => by
    unfold SeqAt.shaped
    rw [a, c, Bool.true_and]
    exact decide_eq_true (by rw [b]; omega)
  have tpm : ∀ x : D, pln x = true → toPm m x = toP x := fun x hx => by cases x <;> first | rfl | simp [pln] at hx
  by_cases f1 : flatD d = true
  · by_cases f2 : flatD e = true
    · exact ⟨eqF d e, by unfold eqK; rw [f1, f2]; rfl, eqF_iff h1 h2 f1 f2⟩
    · refine ⟨false, ?_, ?_⟩
      · unfold eqK isSeq
        simp only [f1, f2, Bool.and_false, Bool.false_eq_true, if_false, if_true]
        rcases pln_flat h2 with c | ⟨ds, rfl⟩ | ⟨ds, rfl⟩
        · exact absurd c f2
        · rfl
        · rfl
      · exact ⟨fun h => (nomatch h), fun h => absurd (h ▸ f1) f2⟩
  · by_cases f2 : flatD e = true
    · refine ⟨false, ?_, ?_⟩
      · unfold eqK isSeq
        simp only [f1, f2, Bool.and_true, Bool.false_eq_true, if_false, if_true]
        rcases pln_flat h1 with c | ⟨ds, rfl⟩ | ⟨ds, rfl⟩
        · exact absurd c f1
        · rfl
        · rfl
      · exact ⟨fun h => (nomatch h), fun h => absurd (h ▸ f2) f1⟩
    · obtain ⟨p, e1, _, p2, p3⟩ := toP_pln d h1
      obtain ⟨q, e2, _, q2, q3⟩ := toP_pln e h2
      refine ⟨PyData.eqv p q, ?_, eqv_iff d e p q h1 h2 e1 e2⟩
      unfold eqK
      simp only [f1, f2, Bool.and_false, Bool.false_eq_true, if_false, tpm d h1, tpm e h2, e1, e2]
      rw [shp e1 p3 p2 s1 l1, shp e2 q3 q2 s2 l2]
      rfl
theorem eqK_yes (m : Mu) {d : D} (h1 : pln d = true) (s1 : sok d = true) (l1 : dep d ≤ 60) : eqK m d d = some true := by
  obtain ⟨b, e, h⟩ := eqK_iff m h1 h1 s1 s1 l1 l1
  rw [e, h.mpr rfl]
/-- in, of plain data, is being a member -/
theorem inP_iff {x : D} {ds : List D} (h1 : pln x = true) (h2 : plns ds = true) : inP x ds = true ↔ x ∈ ds := by
  unfold inP
  rw [List.any_eq_true]
  constructor
  · rintro ⟨y, hy, e⟩
    obtain ⟨p, e1, _⟩ := toP_pln y (plns_iff.mp h2 y hy)
    obtain ⟨q, e2, _⟩ := toP_pln x h1
    unfold eqP at e
    rw [e1, e2] at e
    rw [← (eqv_iff y x p q (plns_iff.mp h2 y hy) h1 e1 e2).mp e]
    exact hy
  · intro hx
    refine ⟨x, hx, ?_⟩
    obtain ⟨q, e2, _⟩ := toP_pln x h1
    unfold eqP
    rw [e2]
    exact (eqv_iff x x q q h1 h1 e2 e2).mpr rfl
theorem inP_any {x : D} {p : PyData} (hx : toP x = some p) : ∀ {ds : List D} {ps : List PyData}, toPs ds = some ps → (ps.any fun z => PyData.eqv z p) = inP x ds
  | [], _, h => by cases h; rfl
  | d :: ds, _, h => by
    unfold toPs at h
    cases e : toP d with
    | none => rw [e] at h; cases h
    | some q =>
      cases e2 : toPs ds with
      | none => rw [e, e2] at h; cases h
      | some qs =>
        rw [e, e2] at h; cases h
        have ih := inP_any hx e2
        unfold inP at ih ⊢
        rw [List.any_cons, List.any_cons, ih]
        unfold eqP
        rw [e, hx]
/-- the reading of in, of plain data -/
def dInPP (f : Bool → Bool) : D2 := fun x y m Q => ∃ ds, seqOf m y = some ds ∧ pln x = true ∧ plns ds = true ∧ dep x ≤ 60 ∧ Q (.bl (f (inP x ds))) m
theorem lr_notInPP {K : PySem.W.Frag} : LR K (rInP K true) (dInPP not) := fun x y H dx dy m Qd Q rm rx ry ⟨ds, e, h1, h2, h3, h⟩ k => by
  obtain ⟨p, e1, p1, p2, _⟩ := toP_pln dx h1
  obtain ⟨ps, e2, q1, q2, _⟩ := toPs_pln ds h2
  exact lr_inP (neg := true) x y H dx dy m Qd Q rm rx ry ⟨ds, p, ps, e, e1, e2, q1, p1, by rw [p2]; exact Nat.le_trans (Nat.min_le_right _ _) h3, by rw [inP_any e1 e2]; exact h⟩ k
end PD
namespace PD
open PySem PySem.Spec PyProof.Rows L2
def tFz (t : TS) : TS := fun E τ H => t { E with nx := fun τ' H' => ∃ q u, H' q = some u ∧ Mut (some u) ∧ ∀ od, E.nx τ' (upd H' q (.frz od u)) } τ H
theorem ps_fz {X : Cx} {st : Stmt} {t : TS} (h : PS X st t) : PS X st (tFz t) := by
  refine ⟨fun pz s τ H D I hw => ?_⟩
  refine thn (h.run pz s τ H _ I hw) fun f s1 q => ?_
  cases f with
  | next =>
    obtain ⟨τ', H', I2, p, u, hp, mu, q⟩ := q
    obtain ⟨od, I3⟩ := I2.lock hp mu
    exact ⟨τ', _, I3, q od⟩
  | brk => exact q
  | cont => exact q
  | ret v => exact q
def dFz (i : Nat) (d : DS) : DS := fun E s m => d { E with nx := fun s' m' => ∃ p ds, s'[i]? = some (some (.ref p)) ∧ m' p = some (.lst ds) ∧ E.nx (s'.set i (some (.rol ds))) (mdel m' p) } s m
def dFzD (i : Nat) (d : DS) : DS := fun E s m => d { E with nx := fun s' m' => ∃ p kvs, s'[i]? = some (some (.ref p)) ∧ m' p = some (.dct kvs) ∧ E.nx (s'.set i (some (dicOf kvs))) (mdel m' p) } s m
theorem RS.put {K : PySem.W.Frag} {H : Hp} {sd : Sd} {s : L2.St} (r : RS K H sd s) {i : Nat} {d : D} {v : V} (e : s[i]? = some (some v)) (q : Rep K H d v) : RS K H (sd.set i (some d)) s := by
  have z := r.set q i
  have e2 : s.set i (some v) = s := by
    apply List.ext_getElem?
    intro j
    rw [List.getElem?_set]
    by_cases hij : i = j
    · subst hij
      have hl : i < s.length := (List.getElem?_eq_some_iff.mp e).1
      rw [if_pos rfl, if_pos hl, e]
    · rw [if_neg hij]
  rw [e2] at z
  exact z
theorem gs_fz {X : Cx} {st : Stmt} {d : DS} (i : Nat) (h : GS X st d) : GS X st (dFz i d) := by
  obtain ⟨t, p, l⟩ := h.ex
  refine ⟨_, ps_fz p, fun s H sd m Ed E rs rm h k1 k2 k3 k4 => ?_⟩
  refine l s H sd m _ _ rs rm h ?_ k2 k3 k4
  rintro s' H' sd' m' t' rs' rm' ⟨p, ds, e1, e2, q⟩
  obtain ⟨v, e3, r3⟩ := rs'.at_ i _ e1
  cases r3
  obtain ⟨vs, e4, r4⟩ := rm' p _ e2
  have tt : ∀ od, TX H' (upd H' p (.frz od (.lst vs))) := fun od => .lst e4
  exact ⟨p, _, e4, trivial, fun od => k1 _ _ _ _ (t'.trans (tt od)) ((rs'.mono (tt od)).put e3 (.rol (.inl ⟨od, upd_same⟩) (r4.mono (tt od)))) (rm'.frz e4) q⟩
theorem dFrzD_v {d : DE} {s : Sd} {m : Mu} {Q : DK} : dFrzD d s m Q = d s m fun x m1 => ∃ p kvs, x = .ref p ∧ m1 p = some (.dct kvs) ∧ Q (dicOf kvs) (mdel m1 p) := rfl
theorem dFrzT_v {d : DE} {s : Sd} {m : Mu} {Q : DK} : dFrzT d s m Q = d s m fun x m1 => ∃ p kvs, x = .ref p ∧ m1 p = some (.dcT kvs) ∧ Q (dicTOf kvs) (mdel m1 p) := rfl
def dIZipL (a : DA) : DI := fun s m R => a s m fun ds m1 => match ds with
  | [.tup xs, .tup ys] => R (zipD xs ys) (fun _ => True) m1
  | [x, y] => ∃ xs ys, lsq m1 x = some xs ∧ lsq m1 y = some ys ∧ R (zipD xs ys) (fun m' => lsq m' x = some xs ∧ lsq m' y = some ys) m1
  | _ => False
section
variable {X : Cx}
theorem gi_zipL {e e2 : Expr} {p pos tpos : Pos} {elts : List Expr} {kk : Nat} {da : DA} (hg : Gl X "zip") (hm : X.mg "zip" = none) (ha : GA X [e, e2] da)
    (hs : starEach [e, e2] X.env = (false, eval e X.env) :: starEach [e2] X.env := by rfl) (hpl : (backTo pos (starEach [e2] X.env)).any (·.1) = false := by rfl) :
    GIE X (.Tuple elts kk tpos) (.Call (.Name "zip" p) [e, e2] [] pos) (dIZipL da) := by
  obtain ⟨ta, q, l⟩ := ha.ex
  refine ⟨_, RZ.pi_zipA hg hm q hs hpl, fun s H sd m Rd R rs rm h k => ?_⟩
  refine l s H sd m _ _ rs rm h fun vs H1 ds m1 t1 rm1 r1 h1 => ?_
  split at h1
  · rename_i xs ys
    match r1, h1 with
    | .cons (.tup (a := a) (vs := us) sa ra) (.cons (.tup (a := b) (vs := ws) sb rb) .nil), h1 =>
      refine ⟨a, b, us, ws, rfl, .inr ⟨sa, sb, k _ H1 _ (fun _ => True) m1 t1 rm1 ⟨fun i H' m' t' _ _ hi => ?_, fun i H' x H2 m' t' rm' _ hi hy => ?_, fun i H' m' t' _ _ hi => ?_⟩ h1⟩⟩
      · rw [zipD_len] at hi
        have l1 := ra.length
        have l2 := rb.length
        exact ⟨us, ws, us[i]'(by omega), ws[i]'(by omega), t'.sqT sa, t'.sqT sb, List.getElem?_eq_getElem _, List.getElem?_eq_getElem _⟩
      · obtain ⟨T, x1, y1, rfl, hT, rfl, f, g⟩ := hy
        obtain ⟨d, e, q1⟩ := ra.getV (f _ (t'.sqT sa))
        obtain ⟨d2, e2, q2⟩ := rb.getV (g _ (t'.sqT sb))
        exact zip_item rm' hT e e2 (q1.mono t') (q2.mono t')
      · rw [zipD_len] at hi
        have l1 := ra.length
        have l2 := rb.length
        exact ⟨us, ws, t'.sqT sa, t'.sqT sb, by omega⟩
  · rename_i x y _
    obtain ⟨xs, ys, e1, e2, q1⟩ := h1
    obtain ⟨v, u, rfl, rv, ru⟩ := repL2 r1
    obtain ⟨a, us, rfl, sl, r⟩ := lsq_rep rm1 rv e1
    obtain ⟨b, ws, rfl, sl2, r2⟩ := lsq_rep rm1 ru e2
    refine ⟨a, b, us, ws, rfl, .inl ⟨sl, sl2, k _ H1 _ (fun m' => lsq m' x = some xs ∧ lsq m' y = some ys) m1 t1 rm1 ⟨fun i H' m' t' rm' st hi => ?_, fun i H' z H2 m' t' rm' st hi hy => ?_, fun i H' m' t' rm' st hi => ?_⟩ q1⟩⟩
    · rw [zipD_len] at hi
      obtain ⟨a', us', ea, sl', r'⟩ := lsq_rep rm' (rv.mono t') st.1
      obtain ⟨b', ws', eb, sl2', r2'⟩ := lsq_rep rm' (ru.mono t') st.2
      cases ea; cases eb
      have l1 := r'.length
      have l2 := r2'.length
      exact ⟨us', ws', us'[i]'(by omega), ws'[i]'(by omega), sl', sl2', List.getElem?_eq_getElem _, List.getElem?_eq_getElem _⟩
    · obtain ⟨T, x1, y1, rfl, hT, rfl, f, g⟩ := hy
      obtain ⟨a', us', ea, sl', r'⟩ := lsq_rep rm' (rv.mono t') st.1
      obtain ⟨b', ws', eb, sl2', r2'⟩ := lsq_rep rm' (ru.mono t') st.2
      cases ea; cases eb
      obtain ⟨d, e, q1⟩ := r'.getV (f _ sl')
      obtain ⟨d2, e2, q2⟩ := r2'.getV (g _ sl2')
      exact zip_item rm' hT e e2 q1 q2
    · rw [zipD_len] at hi
      obtain ⟨a', us', ea, sl', r'⟩ := lsq_rep rm' (rv.mono t') st.1
      obtain ⟨b', ws', eb, sl2', r2'⟩ := lsq_rep rm' (ru.mono t') st.2
      cases ea; cases eb
      have l1 := r'.length
      have l2 := r2'.length
      exact ⟨us', ws', sl', sl2', by omega⟩
  · exact h1.elim
end
end PD
namespace PD
open PySem PySem.Spec PyProof.Rows L2
/-- a loop that leaves the store as it was -/
theorem loop_chk {β : Type} {st : Mu → Prop} {g : DG} {tb : DS} {E : DEnds} {m : Mu} (Sl : Sd → Prop) (e : β → D) {us : List β} (hst : st m)
    (hs : ∀ u ∈ us, ∀ s (R : Sd → Mu → Prop), Sl s → (∀ s', Sl s' → R s' m) → g (e u) s m fun s2 m2 => tb { E with nx := R, ct := R, bk := E.nx } s2 m2)
    (he : ∀ s, Sl s → E.nx s m) {s : Sd} (h : Sl s) : dLoop st g tb E (us.map e) s m := by
  refine loop_inv (fun rem s' m' => ∃ pre post, us = pre ++ post ∧ rem = post.map e ∧ Sl s' ∧ m' = m) ?_ ?_ ⟨[], us, rfl, rfl, h, rfl⟩
  · rintro d rem s' m' R hR ⟨pre, post, e1, e2, a, rfl⟩
    cases post with
    | nil => cases e2
    | cons u post =>
      rw [List.map_cons] at e2
      injection e2 with e2 e3
      subst e2
      exact ⟨hst, hs u (by rw [e1]; simp) s' _ a fun s'' a' => hR _ _ ⟨pre ++ [u], post, by rw [e1]; simp, e3, a', rfl⟩⟩
  · rintro s' m' ⟨pre, post, e1, e2, a, rfl⟩
    exact ⟨hst, he _ a⟩
/-- a loop with a store of its own, by an invariant over what is done -/
theorem loop_pre {β : Type} {st : Mu → Prop} {g : DG} {tb : DS} {E : DEnds} (J : List β → Sd → Mu → Prop) (e : β → D) {us : List β} (hst : ∀ pre s m, J pre s m → st m)
    (hs : ∀ pre u post, us = pre ++ u :: post → ∀ s m (R : Sd → Mu → Prop), J pre s m → (∀ s' m', J (pre ++ [u]) s' m' → R s' m') → g (e u) s m fun s2 m2 => tb { E with nx := R, ct := R, bk := E.nx } s2 m2)
    (he : ∀ s m, J us s m → E.nx s m) {s : Sd} {m : Mu} (h : J [] s m) : dLoop st g tb E (us.map e) s m := by
  refine loop_inv (fun rem s' m' => ∃ pre post, us = pre ++ post ∧ rem = post.map e ∧ J pre s' m') ?_ ?_ ⟨[], us, rfl, rfl, h⟩
  · rintro d rem s' m' R hR ⟨pre, post, e1, e2, a⟩
    cases post with
    | nil => cases e2
    | cons u post =>
      rw [List.map_cons] at e2
      injection e2 with e2 e3
      subst e2
      exact ⟨hst _ _ _ a, hs pre u post e1 s' m' _ a fun s'' m'' a' => hR _ _ ⟨pre ++ [u], post, by rw [e1]; simp, e3, a'⟩⟩
  · rintro s' m' ⟨pre, post, e1, e2, a⟩
    cases post with
    | cons u post => cases e2
    | nil =>
      rw [List.append_nil] at e1
      subst e1
      exact ⟨hst _ _ _ a, he _ _ a⟩
theorem comp_pT {β : Type} {st : Mu → Prop} {g : DG} {t : DT} {e : DE} {p : Addr} {s : Sd} {Q : DK} {m : Mu} (i : β → D) (o : β → D) (c : β → Bool) (hst : ∀ a, st (mset m p (.lst a))) {us : List β} (hz : us.length ≤ 100000)
    (h : ∀ u ∈ us, ∀ a (R1 : D → Mu → Prop) (R2 : Mu → Prop), (c u = true → R1 (o u) (mset m p (.lst a))) → (c u = false → R2 (mset m p (.lst a))) → g (i u) s (mset m p (.lst a)) fun s2 m2 => t s2 m2 fun b m3 => if b = true then e s2 m3 R1 else R2 m3)
    (hq : Q (.ref p) (mset m p (.lst ((us.filter c).map o)))) : dComp st g t e p s Q (us.map i) [] (mset m p (.lst [])) := comp_pureT (γ := Nat) i o c hst hz h hq
/-- all items kept -/
theorem comp_all {β : Type} {st : Mu → Prop} {g : DG} {e : DE} {p : Addr} {s : Sd} {Q : DK} {m : Mu} (i : β → D) (o : β → D) (hst : ∀ a, st (mset m p (.lst a))) {us : List β} (hz : us.length ≤ 100000)
    (h : ∀ u ∈ us, ∀ a (R1 : D → Mu → Prop), R1 (o u) (mset m p (.lst a)) → g (i u) s (mset m p (.lst a)) fun s2 m2 => e s2 m2 R1)
    (hq : Q (.ref p) (mset m p (.lst (us.map o)))) : dComp st g dYes e p s Q (us.map i) [] (mset m p (.lst [])) :=
  comp_pureT (γ := Nat) i o (fun _ => true) hst hz (fun u hu a R1 R2 k1 _ => by simpa [dYes] using h u hu a R1 (k1 rfl)) (by rw [filter_yes]; exact hq)
/-- {k: v for x in xs}, texts for keys, by what is made -/
theorem dcomp_pure {β : Type} {st : Mu → Prop} {g : DG} {tk te : DE} {p : Addr} {s : Sd} {Q : DK} {m : Mu} (e : β → D) (kv : β → Key × D) {us : List β} (hst : ∀ a, st (mset m p (.dct a))) (hz : us.length ≤ 100000)
    (hnd : (us.map fun u => (kv u).1).Nodup)
    (h : ∀ u ∈ us, ∀ a (R : D → D → Mu → Prop), (∀ y, toKey y = some (kv u).1 → R y (kv u).2 (mset m p (.dct a))) → g (e u) s (mset m p (.dct a)) fun s2 m2 => tk s2 m2 fun y m4 => te s2 m4 fun z m5 => R y z m5)
    (hq : Q (.ref p) (mset m p (.dct (us.map kv)))) : dDComp st g dYes tk te p s Q (us.map e) [] (mset m p (.dct [])) := by
  have go : ∀ (post pre : List β), us = pre ++ post → dDComp st g dYes tk te p s Q (post.map e) (pre.map kv) (mset m p (.dct (pre.map kv))) := by
    intro post
    induction post with
    | nil =>
      intro pre e1
      rw [List.append_nil] at e1
      subst e1
      exact ⟨hst _, mset_same, hq⟩
    | cons u post ih =>
      intro pre e1
      refine ⟨hst _, ?_⟩
      have hn : (kv u).1 ∉ (pre.map kv).map (·.1) := by
        rw [e1, List.map_append, List.nodup_append] at hnd
        intro hc
        rw [List.map_map] at hc
        exact hnd.2.2 _ hc _ (List.mem_cons_self ..) rfl
      have hput : putKD (pre.map kv) (kv u).1 (kv u).2 = (pre ++ [u]).map kv := by
        unfold putKD
        rw [if_neg, List.map_append]
        · rfl
        · intro c
          rw [List.any_eq_true] at c
          obtain ⟨x, h1, h2⟩ := c
          exact hn (List.mem_map.mpr ⟨x, h1, of_decide_eq_true h2⟩)
      have hl : (pre.map kv).length < sizeLine := by
        rw [List.length_map]
        have : pre.length < us.length := by rw [e1]; simp
        exact Nat.lt_of_lt_of_le (by omega : pre.length < 100000) (by decide)
      have := h u (by rw [e1]; simp) (pre.map kv) (fun y z m5 => ∃ k, toKey y = some k ∧ m5 p = some (.dct (pre.map kv)) ∧ (pre.map kv).length < sizeLine ∧ dDComp st g dYes tk te p s Q (post.map e) (putKD (pre.map kv) k z) (mset m5 p (.dct (putKD (pre.map kv) k z)))) fun y hy => by
        refine ⟨_, hy, mset_same, hl, ?_⟩
        rw [hput, mset_mset]
        exact ih (pre ++ [u]) (by rw [e1]; simp)
      simpa [dYes] using this
  exact go us [] rfl
end PD
namespace PD
open PySem PySem.Spec PyProof.Rows L2
section
variable {X : Cx} {P : Program} {w : World}
theorem ge_set0P {p pos : Pos} (hP : X.prog = P) (hw : X.w = w) (hg : Gl X "set") (hm : X.mg "set" = none) : GE X (.Call (.Name "set" p) [] [] pos) (dSet0 P w) := by
  subst hP hw; exact ge_set0 hg hm
theorem ge_saddP {o e : Expr} {es : List Expr} {de : DE} {da : DA} {apos cpos : Pos} (hP : X.prog = P) (hw : X.w = w) (ho : GE X o de) (ha : GA X (e :: es) da)
    (base9 : attributeBase o "add" X.env (eval o X.env) = eval o X.env := by rfl)
    (few9 : ((backTo cpos (starEach (e :: es) X.env)).all (fun x => !x.1) && (backToKw cpos (keywordEach [] X.env)).all (fun x => x.1.isSome)
      && decide ((e :: es).length + ([] : List Keyword).length + (if ([] : List Keyword).isEmpty then 0 else 1) < 30)) = true := by rfl)
    (line9 : (apos.endLine == cpos.line) = true := by rfl) (hs : starEach (e :: es) X.env = (false, eval e X.env) :: starEach es X.env := by rfl) (plain9 : (backTo cpos (starEach es X.env)).any (·.1) = false := by rfl) :
    GE X (.Call (.Attribute o "add" apos) (e :: es) [] cpos) (dSAdd P w de da) := by
  subst hP hw; exact ge_sadd ho ha base9 few9 line9 hs plain9
end
end PD
namespace PD
open PySem PySem.Spec PyProof.Rows L2
end PD
namespace PD
open PySem PySem.Spec PyProof.Rows L2
def dctTOf (m : Mu) : D → Option (List (List Key × D))
  | .dicT ks ds => some (ks.zip ds)
  | .ref a => match m a with | some (.dcT kvs) => some kvs | _ => none
  | _ => none
def toKeyT : D → Option (List Key)
  | .tup ds => toKeys ds
  | _ => none
def dGetTV (x y : D) (m : Mu) (Q : DK) : Prop := ∃ kvs, dctTOf m x = some kvs ∧ ∃ k, toKeyT y = some k ∧ ∃ d, valD kvs k = some d ∧ Q d m
def dInTV (f : Bool → Bool) (y x : D) (m : Mu) (Q : DK) : Prop := ∃ kvs, dctTOf m x = some kvs ∧ ∃ k, toKeyT y = some k ∧ Q (.bl (f (valD kvs k).isSome)) m
def dGet2TV (x y z : D) (m : Mu) (Q : DK) : Prop := ∃ kvs, dctTOf m x = some kvs ∧ ∃ k, toKeyT y = some k ∧ Q ((valD kvs k).getD z) m
def dDGetTU (dd dk : DE) : DE := fun s m Q => dd s m fun x m1 => dk s m1 fun y m2 => dGetTV x y m2 Q
def dDInTU (f : Bool → Bool) (dk dd : DE) : DE := fun s m Q => dk s m fun y m1 => dd s m1 fun x m2 => dInTV f y x m2 Q
def dDGet2TU (dd dk dx : DE) : DE := fun s m Q => dd s m fun x m1 => (dctTOf m1 x).isSome = true ∧ dk s m1 fun y m2 => dx s m2 fun z m3 => dGet2TV x y z m3 Q
def dDCompT (st : Mu → Prop) (g : DG) (t : DT) (tk te : DE) (p : Addr) (s : Sd) (Q : DK) : List D → List (List Key × D) → Mu → Prop
  | [], acc => fun m => st m ∧ m p = some (.dcT acc) ∧ Q (.ref p) m
  | d :: es, acc => fun m => st m ∧ g d s m fun s2 m2 => t s2 m2 fun b m3 =>
      if b = true then tk s2 m3 fun y m4 => te s2 m4 fun z m5 => ∃ k, toKeyT y = some k ∧ m5 p = some (.dcT acc) ∧ acc.length < sizeLine ∧ dDCompT st g t tk te p s Q es (putKD acc k z) (mset m5 p (.dcT (putKD acc k z))) else dDCompT st g t tk te p s Q es acc m3
def dDcT (di : DI) (g : DG) (t : DT) (tk te : DE) (vs : List Nat) : DE := fun s m Q => di s m fun es st m1 => ∀ p, m1 p = none → dDCompT st g t tk te p (wipeD s vs) Q es [] (mset m1 p (.dcT []))
def dFzT (i : Nat) (d : DS) : DS := fun E s m => d { E with nx := fun s' m' => ∃ p kvs, s'[i]? = some (some (.ref p)) ∧ m' p = some (.dcT kvs) ∧ E.nx (s'.set i (some (dicTOf kvs))) (mdel m' p) } s m
def dIsB (f : Bool → Bool) : D2 := fun x y m Q => match x, y with
  | .bl a, .bl b => Q (.bl (f (decide (a = b)))) m
  | _, _ => False
theorem lr_isB {K : PySem.W.Frag} : LR K rIsB (dIsB id) := fun x y H dx dy m Qd Q rm rx ry h k => by
  cases rx with
  | bl a => cases ry with
    | bl b => exact ⟨a, b, rfl, rfl, k _ H _ m (.refl H) rm (.bl _) h⟩
    | _ => exact h.elim
  | _ => exact h.elim
theorem lr_isNotB {K : PySem.W.Frag} : LR K rNotB (dIsB not) := fun x y H dx dy m Qd Q rm rx ry h k => by
  cases rx with
  | bl a => cases ry with
    | bl b => exact ⟨a, b, rfl, rfl, k _ H _ m (.refl H) rm (.bl _) h⟩
    | _ => exact h.elim
  | _ => exact h.elim
theorem dIsB_b {f : Bool → Bool} {a b : Bool} {m : Mu} {Q : DK} : dIsB f (.bl a) (.bl b) m Q = Q (.bl (f (decide (a = b)))) m := rfl
def dStrI : DC := fun ds m Q => match ds with
  | [.int i] => i.natAbs.log2 < 1920 ∧ Q (.str (toString i)) m
  | _ => False
theorem dStrI_i {i : Int} {m : Mu} {Q : DK} : dStrI [.int i] m Q = (i.natAbs.log2 < 1920 ∧ Q (.str (toString i)) m) := rfl
def revT (x : Str) : Str := ⟨x.cps.toList.reverse.toArray⟩
def dRevT (d : DE) : DE := fun s m Q => d s m fun x m1 => ∃ z, x = .str z ∧ z.length ≤ sizeLine ∧ Q (.str (revT z)) m1
theorem strIx_rev (x : Str) : ((Builtin.Str.strSliceIndices none none (-1) x.length).filterMap (x.cps[·]?)).toArray = x.cps.toList.reverse.toArray := by
  show ((sliceRange ((x.cps.size : Int) - 1) (-1) (-1)).filterMap (x.cps[·]?)).toArray = _
  rw [PySem.W.krv_sliceRange, PySem.W.krv_range, List.filterMap_reverse, PySem.W.krv_all]
section
variable {X : Cx}
def tRevT (te : TE) : TE := fun τ H Q => te τ H fun x H1 => ∃ z, x = .str z ∧ z.length ≤ sizeLine ∧ Q (.str (revT z)) H1
theorem pe_revT {e : Expr} {te : TE} {k : Nat} {p1 p2 p3 pos : Pos} (he : PE X e te) : PE X (.Subscript e (.Slice none none (some (.UnaryOp .USub (.Constant (.int 1) k p1) p2)) p3) pos) (tRevT te) := by
  refine ⟨fun pz s τ H Q I h => ?_⟩
  refine Subscript_ (thn (he.run pz s τ H _ I h) fun v tA ⟨x, H1, iA, r1, q1⟩ => ?_)
  obtain ⟨z, ex, hz, q⟩ := q1
  subst ex
  obtain ⟨tk9, rfl⟩ := r1
  have st9 : PO X (some (.UnaryOp .USub (.Constant (.int 1) k p1) p2)) (tPart (tUn (rU fun i => .int (-i)) (tC (.int 1)))) := po_some (pe_un un_neg pe_int)
  refine wpAny_Slice (thn (po_none.run pz tA τ H1 (fun o H2 => o = none ∧ H2 = H1) iA ⟨rfl, rfl⟩) fun vl tB ⟨l, H2, iB, pl, el, e2⟩ => ?_)
  subst el e2
  refine thn (po_none.run pz tB τ H2 (fun o H3 => o = none ∧ H3 = H2) iB ⟨rfl, rfl⟩) fun vu tC ⟨u, H3, iC, pu, eu, e3⟩ => ?_
  subst eu e3
  refine thn (st9.run pz tC τ H3 (fun o H4 => o = some (-1) ∧ H4 = H3) iC ⟨1, rfl, -1, rfl, rfl, rfl⟩) fun vs tD ⟨o, H4, iD, ps, eo, e4⟩ => ?_
  subst eo e4
  have iE : Inv X pz τ H4 { tD with heap := tD.heap.push { cls := .type "slice", data := .fields #[vl, vu, vs] } } := iD.kept (t' := tD.toks) fun b ob q => Heap.get?_push_of_some _ q
  obtain ⟨l, rfl, el⟩ := IsPart.raw pl
  obtain ⟨u, rfl, eu⟩ := IsPart.raw pu
  obtain ⟨st, rfl, es⟩ := IsPart.raw ps
  show wpAny (model X.prog X.w) X.A (subscriptTail e (.Slice none none (some (.UnaryOp .USub (.Constant (.int 1) k p1) p2)) p3) (.str z tk9) (.ref tD.heap.objs.size)) (EP X pz τ Q) X.xe { tD with heap := tD.heap.push { cls := .type "slice", data := .fields #[partValue l, partValue u, partValue st] } }
  refine tail_any (ops := [.str z tk9, .ref tD.heap.objs.size]) (typeIs_str _ _ _) (PySem.F.slot_str_getitem.lookup) ?_ (by with_unfolding_all rfl)
  cases l with
  | some l => cases el
  | none =>
  cases u with
  | some u => cases eu
  | none =>
  cases st with
  | none => cases es
  | some st =>
  obtain ⟨i, t3⟩ := st
  cases es
  refine wpAny_getItem_str_slice (l := none) (u := none) (st := some (-1, t3)) ⟨_, Heap.get?_push_size _ rfl, rfl, rfl⟩ rfl ?_
  show Made.post (if (((-1 : Int) == 1) && _) = true then _ else Made.str ⟨((Builtin.Str.strSliceIndices none none (-1) z.length).filterMap (z.cps[·]?)).toArray⟩) (EP X pz τ Q) _
  rw [show ((-1 : Int) == 1) = false from rfl, Bool.false_and, if_neg (by decide), strIx_rev]
  refine ⟨?_, .str (revT z), H4, iE.tok _, ⟨_, rfl⟩, q⟩
  show (revT z).length ≤ sizeLine
  have : (revT z).length = z.length := by unfold revT; show z.cps.toList.reverse.toArray.size = z.cps.size; simp
  omega
theorem ge_revT {e : Expr} {de : DE} {k : Nat} {p1 p2 p3 pos : Pos} (he : GE X e de) : GE X (.Subscript e (.Slice none none (some (.UnaryOp .USub (.Constant (.int 1) k p1) p2)) p3) pos) (dRevT de) := by
  obtain ⟨te, p, l⟩ := he.ex
  refine .of ⟨_, pe_revT p, fun s H sd m Qd Q rs rm h k => ?_⟩
  refine l s H sd m _ _ rs rm h fun v H1 dv m1 t1 rm1 r1 h1 => ?_
  obtain ⟨z, rfl, hz, q⟩ := h1
  cases r1
  exact ⟨z, rfl, hz, k _ _ _ _ t1 rm1 (.str _) q⟩
theorem revT_tx {l : List Nat} : revT (tx l) = tx l.reverse := by unfold revT; rw [cps_tx]; rfl
end
end PD
namespace PD
open PySem PySem.Spec PyProof.Rows L2
end PD
namespace PD
open PySem PySem.Spec PyProof.Rows L2 RZ
/-- what can be walked: the state of its iterator, and what it is -/
structure Wk where
  It : Heap → Addr → Addr → Nat → Prop
  Sq : Heap → Addr → Array Value → Prop
  e1 : ∀ {h h' : Heap} {a b l : Addr} {i : Nat}, It h a l i → Heap.ExtBut b h h' → a ≠ b → It h' a l i
  e2 : ∀ {h h' : Heap} {a b : Addr} {xs : Array Value}, Sq h a xs → Heap.ExtBut b h h' → a ≠ b → Sq h' a xs
  same : ∀ {h h' : Heap} {a l : Addr} {i : Nat}, It h a l i → (∀ o, h.get? a = some o → h'.get? a = some o) → It h' a l i
  flds : ∀ {h : Heap} {a l : Addr} {i : Nat}, It h a l i → ∃ o fs, h.get? a = some o ∧ o.data = .fields fs
  item : ∀ {prog : Program} {w : World} {A : Around} {E : Value → Shared → Prop} {s : Shared} {it l : Addr} {i : Nat} {xs : Array Value} {x : Value} {Q : Value → Shared → Prop}, It s.heap it l i → Sq s.heap l xs → xs[i]? = some x →
    (∀ h', It h' it l (i + 1) → Heap.SameBut it s.heap h' → Q x { s with heap := h' }) → wpAny (model prog w) A (Builtin.SmallTypes.nextOf (.ref it)) Q E s
  stop : ∀ {prog : Program} {w : World} {A : Around} {E : Value → Shared → Prop} {s : Shared} {it l : Addr} {i : Nat} {xs : Array Value} {Q : Value → Shared → Prop}, A.handled = none → It s.heap it l i → Sq s.heap l xs → xs[i]? = none →
    (∀ h' e, Heap.ExtBut it s.heap h' → (∃ o, h'.get? e = some o ∧ o.cls = .type "StopIteration") → E (.ref e) { s with heap := h' }) → wpAny (model prog w) A (Builtin.SmallTypes.nextOf (.ref it)) Q E s
def wkL : Wk where
  It := Heap.IsListIter
  Sq := Heap.IsList
  e1 := Heap.IsListIter.extBut
  e2 := Heap.IsList.extBut
  same := Heap.IsListIter.at
  flds := fun ⟨o, a, _, c⟩ => ⟨o, _, a, c⟩
  item := wpAny_nextOf_list_item
  stop := wpAny_nextOf_list_end
def wkT : Wk where
  It := Heap.IsTupleIter
  Sq := Heap.IsTuple
  e1 := Heap.IsTupleIter.extBut
  e2 := Heap.IsTuple.extBut
  same := Heap.IsTupleIter.at
  flds := fun ⟨o, a, _, c⟩ => ⟨o, _, a, c⟩
  item := nextOf_tuple_item
  stop := nextOf_tuple_end
end PD
namespace PD
open PySem PySem.Spec PyProof.Rows L2 RZ
section
variable {prog : Program} {w : World} {A : Around} {E : Value → Shared → Prop} {s : Shared} {j k : Wk} {z TI TO i1 i2 l1 l2 : Addr} {n1 n2 : Nat} {xs ys : Array Value} {a b : Value}
/-- what a zip stands on, at one turn -/
structure ZAt (j k : Wk) (z TI TO i1 i2 l1 l2 : Addr) (n1 n2 : Nat) (xs ys : Array Value) (a b : Value) (h : Heap) : Prop where
  hz : IsZip h z TI TO .none
  ti : IsPair h TI (.ref i1) (.ref i2)
  to : IsPair h TO a b
  t1 : j.It h i1 l1 n1
  t2 : k.It h i2 l2 n2
  s1 : j.Sq h l1 xs
  s2 : k.Sq h l2 ys
theorem zipW_item {x y : Value} {Q : Value → Shared → Prop} (D : ZipApart z TI TO i1 i2 l1 l2) (Z : ZAt j k z TI TO i1 i2 l1 l2 n1 n2 xs ys a b s.heap) (hx : xs[n1]? = some x) (hy : ys[n2]? = some y)
    (hQ : ∀ h', IsZip h' z TI TO (rawInt s.heap.objs.size) → IsPair h' TO x y → j.It h' i1 l1 (n1 + 1) → k.It h' i2 l2 (n2 + 1) → IsPair h' s.heap.objs.size x y → h'.objs.size = s.heap.objs.size + 1 →
      (∀ c o, c ≠ z → c ≠ TO → c ≠ i1 → c ≠ i2 → s.heap.get? c = some o → h'.get? c = some o) → Q (.ref s.heap.objs.size) { s with heap := h' }) :
    wpAny (model prog w) A (Builtin.«zip.__next__» ⟨[.ref z], []⟩) (fun fin s' => ∃ v, fin = .done (.ret v) ∧ Q v s') E s := by
  obtain ⟨Zz, Zi, Zo, Z1, Z2, Y1, Y2⟩ := Z
  -- the pair's place is taken
  show wpAny _ _ (field (.ref z) 2 >>= _) _ _ s
  refine wpAny_bind (wpAny_field (x := .bool false) Zz rfl rfl ?_)
  show wpAny _ _ (field (.ref z) 3 >>= _) _ _ s
  refine wpAny_bind (wpAny_field (x := .ref TI) Zz rfl rfl (wpAny_bind (wpAny_seqItems Zi rfl ?_)))
  show wpAny _ _ (Builtin.SmallTypes.ownedTupleIsFree (.ref z) >>= _) _ _ s
  unfold Builtin.SmallTypes.ownedTupleIsFree
  refine wpAny_bind (wpAny_bind (wpAny_field (x := .none) Zz rfl rfl (wpAny_pure ?_)))
  rw [if_pos (by rfl)]
  refine wpAny_bind (wpAny_rule (wpAny_bind (wpAny_field (x := .ref TO) Zz rfl rfl (wpAny_bind (wpAny_setField_rec Zz (by simp) fun hA zA kA => wpAny_bind ?_)))))
  have zA' : IsZip hA z TI TO .ellipsis := zA
  clear zA
  simp only [List.forIn_nil, List.forIn_cons, List.zipIdx_nil, List.zipIdx_cons]
  have uA := kA.extBut
  -- the first item
  refine wpAny_bind (wpAny_bind (wpAny_onRaise ?_))
  show wpAny _ _ (Builtin.SmallTypes.nextOf (.ref i1) >>= _) _ _ { s with heap := hA }
  refine wpAny_bind (j.item (j.e1 Z1 uA D.i1z) (j.e2 Y1 uA D.l1z) hx fun hB tB kB => wpAny_pure ?_)
  have uB := kB.extBut
  have pB : IsPair hB TO a b := uB _ _ D.TOi1 (uA _ _ D.TOz Zo)
  refine wpAny_bind (wpAny_seqItems pB rfl (wpAny_bind (wpAny_updateSeq_pair pB fun hC pC kC => wpAny_bind (wpAny_letGo (wpAny_pure ?_)))))
  have pC' : IsPair hC TO x b := pC
  have uC := kC.extBut
  -- the second
  refine wpAny_bind (wpAny_bind (wpAny_onRaise ?_))
  show wpAny _ _ (Builtin.SmallTypes.nextOf (.ref i2) >>= _) _ _ { s with heap := hC }
  refine wpAny_bind (k.item (k.e1 (k.e1 (k.e1 Z2 uA D.i2z) uB (Ne.symm D.i12)) uC (Ne.symm D.TOi2)) (k.e2 (k.e2 (k.e2 Y2 uA D.l2z) uB D.l2i1) uC D.l2TO) hy fun hD tD kD => wpAny_pure ?_)
  have uD := kD.extBut
  have pD9 : IsPair hD TO x b := uD _ _ D.TOi2 pC'
  refine wpAny_bind (wpAny_seqItems pD9 rfl (wpAny_bind (wpAny_updateSeq_pair pD9 fun hE pE kE => wpAny_bind (wpAny_letGo (wpAny_pure (wpAny_pure ?_))))))
  have pE' : IsPair hE TO x y := pE
  have uE := kE.extBut
  refine wpAny_bind (wpAny_seqItems pE' rfl (wpAny_bind (wpAny_newTuple ?_)))
  have es : hE.objs.size = s.heap.objs.size := by rw [kE.1, kD.1, kC.1, kB.1, kA.1]
  have far : ∀ c o, c ≠ z → c ≠ TO → c ≠ i1 → c ≠ i2 → s.heap.get? c = some o → hE.get? c = some o := fun c o n1 n2 n3 n4 e => uE _ _ n2 (uD _ _ n4 (uC _ _ n2 (uB _ _ n3 (uA _ _ n1 e))))
  have zE : IsZip hE z TI TO .ellipsis := uE _ _ (Ne.symm D.TOz) (uD _ _ (Ne.symm D.i2z) (uC _ _ (Ne.symm D.TOz) (uB _ _ (Ne.symm D.i1z) zA')))
  have f1 : j.It hE i1 l1 (n1 + 1) := j.e1 (j.e1 (j.e1 tB uC (Ne.symm D.TOi1)) uD D.i12) uE (Ne.symm D.TOi1)
  have f2 : k.It hE i2 l2 (n2 + 1) := k.e1 tD uE (Ne.symm D.TOi2)
  have lz : z < hE.objs.size := Heap.lt_size zE
  -- the new pair is handed out
  show wpAny _ _ (Builtin.SmallTypes.ownedTupleHandOut (.ref z) (.ref hE.objs.size) >>= _) _ _ _
  unfold Builtin.SmallTypes.ownedTupleHandOut
  have zF : IsZip (hE.push { cls := .type "tuple", data := .seq #[x, y] }) z TI TO .ellipsis := Heap.get?_push_of_some _ zE
  refine wpAny_bind (wpAny_bind (wpAny_setField_rec zF (by simp) fun hG zG kG => ?_))
  have zG' : IsZip hG z TI TO (rawInt hE.objs.size) := zG
  refine wpAny_setField_rec zG' (by simp) fun hI zI kI => wpAny_pure ⟨_, rfl, ?_⟩
  have zI' : IsZip hI z TI TO (rawInt hE.objs.size) := zI
  have up : ∀ c o, c ≠ z → hE.get? c = some o → hI.get? c = some o := fun c o n e => kI.extBut _ _ n (kG.extBut _ _ n (Heap.get?_push_of_some _ e))
  have own : IsPair hI hE.objs.size x y := kI.extBut _ _ (Nat.ne_of_gt lz) (kG.extBut _ _ (Nat.ne_of_gt lz) (Heap.get?_push_size _ rfl))
  have sI : hI.objs.size = hE.objs.size + 1 := by rw [kI.1, kG.1, Heap.size_push]
  show Q (.ref hE.objs.size) _
  rw [es] at zI' own sI ⊢
  exact hQ hI zI' (up _ _ D.TOz pE') (j.same f1 fun o e => up _ o D.i1z e) (k.same f2 fun o e => up _ o D.i2z e) own sI fun c o n1 n2 n3 n4 e => up c o n1 (far c o n1 n2 n3 n4 e)
theorem zipW_stop {Q : Fin → Shared → Prop} (hh : A.handled = none) (D : ZipApart z TI TO i1 i2 l1 l2) (Z : ZAt j k z TI TO i1 i2 l1 l2 n1 n2 xs ys a b s.heap) (hend : xs[n1]? = none ∨ ys[n2]? = none)
    (hE : ∀ h' e, (∀ c o, c ≠ z → c ≠ TO → c ≠ i1 → c ≠ i2 → s.heap.get? c = some o → h'.get? c = some o) → (∃ o, h'.get? e = some o ∧ o.cls = .type "StopIteration") → E (.ref e) { s with heap := h' }) :
    wpAny (model prog w) A (Builtin.«zip.__next__» ⟨[.ref z], []⟩) Q E s := by
  obtain ⟨Zz, Zi, Zo, Z1, Z2, Y1, Y2⟩ := Z
  show wpAny _ _ (field (.ref z) 2 >>= _) _ _ s
  refine wpAny_bind (wpAny_field (x := .bool false) Zz rfl rfl ?_)
  show wpAny _ _ (field (.ref z) 3 >>= _) _ _ s
  refine wpAny_bind (wpAny_field (x := .ref TI) Zz rfl rfl (wpAny_bind (wpAny_seqItems Zi rfl ?_)))
  show wpAny _ _ (Builtin.SmallTypes.ownedTupleIsFree (.ref z) >>= _) _ _ s
  unfold Builtin.SmallTypes.ownedTupleIsFree
  refine wpAny_bind (wpAny_bind (wpAny_field (x := .none) Zz rfl rfl (wpAny_pure ?_)))
  rw [if_pos (by rfl)]
  refine wpAny_bind (wpAny_rule (wpAny_bind (wpAny_field (x := .ref TO) Zz rfl rfl (wpAny_bind (wpAny_setField_rec Zz (by simp) fun hA zA kA => wpAny_bind ?_)))))
  have zA' : IsZip hA z TI TO .ellipsis := zA
  clear zA
  simp only [List.forIn_nil, List.forIn_cons, List.zipIdx_nil, List.zipIdx_cons]
  have uA := kA.extBut
  refine wpAny_bind (wpAny_bind (wpAny_onRaise ?_))
  show wpAny _ _ (Builtin.SmallTypes.nextOf (.ref i1) >>= _) _ _ { s with heap := hA }
  -- the error goes on; the place is given back
  have back : ∀ {hN : Heap} {e : Addr}, IsZip hN z TI TO .ellipsis → (∃ o, hN.get? e = some o ∧ o.cls = .type "StopIteration") → (∀ c o, c ≠ z → c ≠ TO → c ≠ i1 → c ≠ i2 → s.heap.get? c = some o → hN.get? c = some o) →
      ∀ h', Heap.SameBut z hN h' → E (.ref e) { s with heap := h' } := fun {hN e} zN ⟨o, eo, co⟩ far h' kN => by
    have ne : e ≠ z := fun q => by rw [q, zN] at eo; cases eo; simp at co
    exact hE h' e (fun c q n1 n2 n3 n4 x => kN.extBut _ _ n1 (far c q n1 n2 n3 n4 x)) ⟨o, kN.extBut _ _ ne eo, co⟩
  cases hx : xs[n1]? with
  | none =>
    refine wpAny_bind (j.stop hh (j.e1 Z1 uA D.i1z) (j.e2 Y1 uA D.l1z) hx fun hB e uB st => ?_)
    have zB : IsZip hB z TI TO .ellipsis := uB _ _ (Ne.symm D.i1z) zA'
    exact wpAny_setField_rec zB (by simp) fun hC _ kC => back zB st (fun c o n1 _ n3 _ q => uB _ _ n3 (uA _ _ n1 q)) hC kC
  | some x =>
    have hy : ys[n2]? = none := hend.resolve_left fun q => by rw [hx] at q; cases q
    refine wpAny_bind (j.item (j.e1 Z1 uA D.i1z) (j.e2 Y1 uA D.l1z) hx fun hB tB kB => wpAny_pure ?_)
    have uB := kB.extBut
    have pB : IsPair hB TO a b := uB _ _ D.TOi1 (uA _ _ D.TOz Zo)
    refine wpAny_bind (wpAny_seqItems pB rfl (wpAny_bind (wpAny_updateSeq_pair pB fun hC pC kC => wpAny_bind (wpAny_letGo (wpAny_pure ?_)))))
    have uC := kC.extBut
    refine wpAny_bind (wpAny_bind (wpAny_onRaise ?_))
    show wpAny _ _ (Builtin.SmallTypes.nextOf (.ref i2) >>= _) _ _ { s with heap := hC }
    refine wpAny_bind (k.stop hh (k.e1 (k.e1 (k.e1 Z2 uA D.i2z) uB (Ne.symm D.i12)) uC (Ne.symm D.TOi2)) (k.e2 (k.e2 (k.e2 Y2 uA D.l2z) uB D.l2i1) uC D.l2TO) hy fun hD e uD st => ?_)
    have zD : IsZip hD z TI TO .ellipsis := uD _ _ (Ne.symm D.i2z) (uC _ _ (Ne.symm D.TOz) (uB _ _ (Ne.symm D.i1z) zA'))
    exact wpAny_setField_rec zD (by simp) fun hF _ kF => back zD st (fun c o n1 n2 n3 n4 q => uD _ _ n4 (uC _ _ n2 (uB _ _ n3 (uA _ _ n1 q)))) hF kF
end
end PD
namespace PD
open PySem PySem.Spec PyProof.Rows L2 RZ
section
variable {prog : Program} {w : World} {A : Around} {E : Value → Shared → Prop} {s : Shared} {j k : Wk} {z TI TO i1 i2 l1 l2 : Addr} {n1 n2 : Nat} {xs ys : Array Value} {a b : Value}
theorem nextW_item {x y : Value} {Q : Option Value → Shared → Prop} (D : ZipApart z TI TO i1 i2 l1 l2) (Z : ZAt j k z TI TO i1 i2 l1 l2 n1 n2 xs ys a b s.heap) (hx : xs[n1]? = some x) (hy : ys[n2]? = some y)
    (hQ : ∀ h', IsZip h' z TI TO (rawInt s.heap.objs.size) → IsPair h' TO x y → j.It h' i1 l1 (n1 + 1) → k.It h' i2 l2 (n2 + 1) → IsPair h' s.heap.objs.size x y → h'.objs.size = s.heap.objs.size + 1 →
      (∀ c o, c ≠ z → c ≠ TO → c ≠ i1 → c ≠ i2 → s.heap.get? c = some o → h'.get? c = some o) → Q (some (.ref s.heap.objs.size)) { s with heap := h' }) :
    wpAny (model prog w) A (pyNext (.ref z)) Q E s := by
  have ty : s.TypeIs (.ref z) "zip" := ⟨_, Z.hz, rfl⟩
  have run := fun {A : Around} => zipW_item (prog := prog) (w := w) (A := A) (E := fun e s' => wants (fun (r : Value) s => Q (some r) s) E (.error e) s') (Q := fun v s' => Q (some v) s') D Z hx hy hQ
  unfold pyNext
  refine wpAny_bind (wpAny_attempt (wpAny_callSpecial?_slot (name := Str.ofString "__next__") ty F.slot_zip_next (wpAny_call_entry F.slot_zip_next ty F.entry_zip_next ?_ (F.args_zip_next_1 _))))
  exact zipW_item D Z hx hy fun h' a1 a2 a3 a4 a5 a6 a7 => wpAny_pure (hQ h' a1 a2 a3 a4 a5 a6 a7)
theorem nextW_stop {Q : Option Value → Shared → Prop} (hh : A.handled = none) (D : ZipApart z TI TO i1 i2 l1 l2) (Z : ZAt j k z TI TO i1 i2 l1 l2 n1 n2 xs ys a b s.heap) (hend : xs[n1]? = none ∨ ys[n2]? = none)
    (hQ : ∀ h', (∀ c o, c ≠ z → c ≠ TO → c ≠ i1 → c ≠ i2 → s.heap.get? c = some o → h'.get? c = some o) → Q none { s with heap := h' }) : wpAny (model prog w) A (pyNext (.ref z)) Q E s := by
  have ty : s.TypeIs (.ref z) "zip" := ⟨_, Z.hz, rfl⟩
  unfold pyNext
  refine wpAny_bind (wpAny_attempt (wpAny_callSpecial?_slot (name := Str.ofString "__next__") ty F.slot_zip_next (wpAny_call_entry F.slot_zip_next ty F.entry_zip_next ?_ (F.args_zip_next_1 _))))
  exact zipW_stop hh D Z hend fun h' e far ⟨o, ho, hc⟩ => wpAny_bind (wpAny_isInstance (T := "StopIteration") (b := true) ⟨o, ho, hc⟩ isSubtype_stop (wpAny_pure (hQ _ far)))
end
/-- the heap behind zip(list, tuple) -/
def zw1 (h : Heap) (l : Addr) : Heap := h.push { cls := .type "list_iterator", data := .fields #[.ref l, .int 0 0] }
def zw2 (h : Heap) (l t : Addr) : Heap := (zw1 h l).push { cls := .type "tuple_iterator", data := .fields #[.ref t, .int 0 0] }
def zw3 (h : Heap) (l t : Addr) : Heap := (zw2 h l t).push { cls := .type "tuple", data := .seq #[.ref h.objs.size, .ref (zw1 h l).objs.size] }
def zw4 (h : Heap) (l t : Addr) : Heap := (zw3 h l t).push { cls := .type "tuple", data := .seq #[.none, .none] }
def zw5 (h : Heap) (l t : Addr) : Heap := (zw4 h l t).push { cls := .type "zip", data := .fields #[.none, .bool false, .bool false, .ref (zw2 h l t).objs.size, .ref (zw3 h l t).objs.size] }
theorem meets_zipW (l t : Addr) (xs ys : Array Value) : Meets (Builtin.«zip.__new__» ⟨[.type "zip", .ref l, .ref t], []⟩) (fun _ R s => s.heap.IsList l xs ∧ s.heap.IsTuple t ys ∧ R (.ok (.ret (.ref (zw4 s.heap l t).objs.size))) { s with heap := zw5 s.heap l t }) :=
  .of_wp fun prog w A R s h => by
    obtain ⟨hp, g, d, tk, os⟩ := s
    obtain ⟨isL, isT, h⟩ := h
    have sub := sub_zip
    have isL1 : Heap.IsList (Shared.heap ⟨hp, g, d, tk, os⟩) l xs := isL
    have isT1 : Heap.IsTuple (Shared.heap ⟨hp.push { cls := .type "list_iterator", data := .fields #[.ref l, .int 0 0] }, g, d, tk, os⟩) t ys := Heap.IsTuple.push isT _
    wp_walk using wpAny_pyIter_list isL1, wpAny_pyIter_tuple isT1
    exact ⟨_, rfl, h⟩
theorem zw_sizes (h : Heap) (l t : Addr) : (zw1 h l).objs.size = h.objs.size + 1 ∧ (zw2 h l t).objs.size = h.objs.size + 2 ∧ (zw3 h l t).objs.size = h.objs.size + 3 ∧ (zw4 h l t).objs.size = h.objs.size + 4 ∧ (zw5 h l t).objs.size = h.objs.size + 5 := by
  have q1 : (zw1 h l).objs.size = h.objs.size + 1 := Heap.size_push ..
  have q2 : (zw2 h l t).objs.size = h.objs.size + 2 := by unfold zw2; rw [Heap.size_push, q1]
  have q3 : (zw3 h l t).objs.size = h.objs.size + 3 := by unfold zw3; rw [Heap.size_push, q2]
  have q4 : (zw4 h l t).objs.size = h.objs.size + 4 := by unfold zw4; rw [Heap.size_push, q3]
  exact ⟨q1, q2, q3, q4, by unfold zw5; rw [Heap.size_push, q4]⟩
theorem call_zipW {prog : Program} {w : World} {A : Around} {E : Value → Shared → Prop} {s : Shared} {l t : Addr} {xs ys : Array Value} {Q : Value → Shared → Prop} (isL : s.heap.IsList l xs) (isT : s.heap.IsTuple t ys)
    (h : ∀ h', (∀ c o, s.heap.get? c = some o → h'.get? c = some o) → ZAt wkL wkT (s.heap.objs.size + 4) (s.heap.objs.size + 2) (s.heap.objs.size + 3) s.heap.objs.size (s.heap.objs.size + 1) l t 0 0 xs ys .none .none h' → Q (.ref (s.heap.objs.size + 4)) { s with heap := h' }) :
    wpAny (model prog w) A (call (.type "zip") [.ref l, .ref t]) Q E s := by
  refine callType_new F.called_zip (by decide) (F.typeCall_zip_2 _ _) (F.newCall_zip_2 _ _) (fun obj => F.args_object_init_3 obj _ _) F.entry_zip_new (meets_zipW l t xs ys) ⟨isL, isT, ?_⟩
  obtain ⟨q1, q2, q3, q4, q5⟩ := zw_sizes s.heap l t
  have up5 : ∀ {c : Addr} {o : Obj}, (zw4 s.heap l t).get? c = some o → (zw5 s.heap l t).get? c = some o := fun e => Heap.get?_push_of_some _ e
  have up4 : ∀ {c : Addr} {o : Obj}, (zw3 s.heap l t).get? c = some o → (zw5 s.heap l t).get? c = some o := fun e => up5 (Heap.get?_push_of_some _ e)
  have up3 : ∀ {c : Addr} {o : Obj}, (zw2 s.heap l t).get? c = some o → (zw5 s.heap l t).get? c = some o := fun e => up4 (Heap.get?_push_of_some _ e)
  have up2 : ∀ {c : Addr} {o : Obj}, (zw1 s.heap l).get? c = some o → (zw5 s.heap l t).get? c = some o := fun e => up3 (Heap.get?_push_of_some _ e)
  have up1 : ∀ {c : Addr} {o : Obj}, s.heap.get? c = some o → (zw5 s.heap l t).get? c = some o := fun e => up2 (Heap.get?_push_of_some _ e)
  have o5 : (zw5 s.heap l t).get? (zw4 s.heap l t).objs.size = some _ := Heap.get?_push_size _ rfl
  have o4 : (zw5 s.heap l t).get? (zw3 s.heap l t).objs.size = some _ := up5 (Heap.get?_push_size _ rfl)
  have o3 : (zw5 s.heap l t).get? (zw2 s.heap l t).objs.size = some _ := up4 (Heap.get?_push_size _ rfl)
  have o2 : (zw5 s.heap l t).get? (zw1 s.heap l).objs.size = some _ := up3 (Heap.get?_push_size _ rfl)
  have o1 : (zw5 s.heap l t).get? s.heap.objs.size = some _ := up2 (Heap.get?_push_size _ rfl)
  rw [q4, q2, q3] at o5
  rw [q3] at o4
  rw [q2, q1] at o3
  rw [q1] at o2
  show _ ∧ _
  rw [q4]
  obtain ⟨ol, el, cl⟩ := id isL
  obtain ⟨ot, et, ct⟩ := id isT
  exact ⟨⟨_, o5, rfl⟩, h _ (fun c o e => up1 e) ⟨o5, o3, o4, ⟨_, o1, rfl, rfl⟩, ⟨_, o2, rfl, rfl⟩, ⟨ol, up1 el, cl⟩, ⟨ot, up1 et, ct⟩⟩⟩
/-- the list at a and the tuple at b -/
def ItzW (K : PySem.W.Frag) (a b : Addr) : It :=
  ⟨fun i H => ∃ (xs ys : List V) (x y : V), SqL K H a xs ∧ SqT K H b ys ∧ xs[i]? = some x ∧ ys[i]? = some y,
    fun i H v H' => ∃ T x y, v = .ref T ∧ H T = none ∧ H' = upd H T (.tup [x, y]) ∧ (∀ xs, SqL K H a xs → xs[i]? = some x) ∧ ∀ ys, SqT K H b ys → ys[i]? = some y,
    fun i H => ∃ xs ys : List V, SqL K H a xs ∧ SqT K H b ys ∧ (xs.length ≤ i ∨ ys.length ≤ i)⟩
def zfp (z TI TO i1 i2 : Addr) : List Addr := [z, TI, TO, i1, i2]
theorem mem_zfp {c z TI TO i1 i2 : Addr} (h : c ∈ zfp z TI TO i1 i2) : c = z ∨ c = TI ∨ c = TO ∨ c = i1 ∨ c = i2 := by unfold zfp at h; simpa using h
theorem turn_zipW {P : Program} {w : World} {K : PySem.W.Frag} {elts : List Expr} {kk : Nat} {tpos : Pos} {a b z TI TO i1 i2 : Addr} (D : ZipApart z TI TO i1 i2 a b) :
    Turn P w K (.Tuple elts kk tpos) (ItzW K a b) (zfp z TI TO i1 i2) z (fun i h => IsZip h z TI TO .none ∧ IsPair h TI (.ref i1) (.ref i2) ∧ (∃ x y, IsPair h TO x y) ∧ h.IsListIter i1 a i ∧ h.IsTupleIter i2 b i) where
  mem := by unfold zfp; simp
  obj := fun i h ⟨pz, pi, ⟨x, y, po⟩, p1, p2⟩ c hc => by
    obtain ⟨o1, f1, g1, d1⟩ := wkL.flds p1
    obtain ⟨o2, f2, g2, d2⟩ := wkT.flds p2
    rcases mem_zfp hc with q | q | q | q | q <;> subst q
    · exact ⟨_, pz, fun v q => nomatch q⟩
    · exact ⟨_, pi, fun v q => nomatch q⟩
    · exact ⟨_, po, fun v q => nomatch q⟩
    · exact ⟨o1, g1, fun v q => by rw [d1] at q; cases q⟩
    · exact ⟨o2, g2, fun v q => by rw [d2] at q; cases q⟩
  keep := fun i h h' ⟨pz, pi, ⟨x, y, po⟩, p1, p2⟩ stay => by
    have on : ∀ c, c = z ∨ c = TI ∨ c = TO ∨ c = i1 ∨ c = i2 → ∀ o, h.get? c = some o → h'.get? c = some o := fun c hc => stay c (by unfold zfp; simpa using hc)
    exact ⟨on z (by simp) _ pz, on TI (by simp) _ pi, ⟨x, y, on TO (by simp) _ po⟩, wkL.same p1 (on i1 (by simp)), wkT.same p2 (on i2 (by simp))⟩
  item := by
    rintro X rfl rfl rfl hc i pz s τ H E I hf ⟨Zz, Zi, ⟨x0, y0, Zo⟩, Z1, Z2⟩ ⟨xs, ys, x, y, qx, qy, hx, hy⟩
    obtain ⟨us, ru, pu, _⟩ := I.list qx
    obtain ⟨vs, rv, pv, _⟩ := I.tuple qy
    obtain ⟨u, hu, wu⟩ := ru.get hx
    obtain ⟨v, hv, wv⟩ := rv.get hy
    have lz : z < s.heap.objs.size := Heap.lt_size Zz
    refine nextW_item (j := wkL) (k := wkT) (x := u) (y := v) D ⟨Zz, Zi, Zo, Z1, Z2, pu.isList, pv⟩ (by simpa using hu) (by simpa using hv) fun h' nz no n1 n2 nT ns far => ?_
    refine ⟨_, rfl, wpAny_letOwnedTupleGo_zip (s := { s with heap := h' }) nz fun h2 nz2 sb => ?_⟩
    have pT : h2.get? s.heap.objs.size = some { cls := .type "tuple", data := .seq #[u, v] } := (sb.2 _ (Nat.ne_of_gt lz)).trans nT
    have okT : ObjOk X.prog X.w (upd H s.heap.objs.size (.tup [x, y])) h2 s.heap.objs.size (.tup [x, y]) := ⟨by show 2 ≤ sizeLine; decide, [u, v], .cons wu (.cons wv .nil), _, pT, rfl, _, rfl⟩
    have out : ∀ c o, c ∉ zfp z TI TO i1 i2 → s.heap.get? c = some o → h2.get? c = some o := fun c o hn e => by
      have ne : ∀ d, d = z ∨ d = TI ∨ d = TO ∨ d = i1 ∨ d = i2 → c ≠ d := fun d hd q => hn (by subst q; unfold zfp; simpa using hd)
      exact (sb.2 c (ne z (by simp))).trans (far c o (ne z (by simp)) (ne TO (by simp)) (ne i1 (by simp)) (ne i2 (by simp)) e)
    have I2 := I.turnedNew (t' := s.toks) (ch := zfp z TI TO i1 i2) (fun c o hb q => out c o hb q) hf (Nat.le_refl _) okT
    refine ⟨.ref s.heap.objs.size, _, I2, rfl, ⟨_, x, y, rfl, I.hok.fresh (Nat.le_refl _), rfl, fun l hl => ?_, fun l hl => ?_⟩, ⟨nz2, (sb.2 _ D.TIz).trans (far _ _ D.TIz D.TITO D.TIi1 D.TIi2 Zi), ⟨u, v, (sb.2 _ D.TOz).trans no⟩, ?_, ?_⟩, fun c hcm => ?_⟩
    · rw [I.list_inj hl qx]; exact hx
    · rw [I.tuple_inj hl qy]; exact hy
    · exact wkL.same n1 fun o q => (sb.2 _ D.i1z).trans q
    · exact wkT.same n2 fun o q => (sb.2 _ D.i2z).trans q
    · obtain ⟨o1, f1, g1, _⟩ := wkL.flds Z1
      obtain ⟨o2, f2, g2, _⟩ := wkT.flds Z2
      have hlt : c < s.heap.objs.size := by
        rcases mem_zfp hcm with q | q | q | q | q <;> subst q
        · exact lz
        · exact Heap.lt_size Zi
        · exact Heap.lt_size Zo
        · exact Heap.lt_size g1
        · exact Heap.lt_size g2
      rw [upd_ne (Nat.ne_of_lt hlt)]
      exact (hf c hcm).1
  done := by
    rintro X rfl rfl rfl hc i pz s τ H E I hf ⟨Zz, Zi, ⟨x0, y0, Zo⟩, Z1, Z2⟩ ⟨xs, ys, qx, qy, hend⟩
    obtain ⟨us, ru, pu, _⟩ := I.list qx
    obtain ⟨vs, rv, pv, _⟩ := I.tuple qy
    have c1 := ru.length
    have c2 := rv.length
    refine nextW_stop (j := wkL) (k := wkT) (xs := us.toArray) (ys := vs.toArray) (I.ok.hd hc) D ⟨Zz, Zi, Zo, Z1, Z2, pu.isList, pv⟩ (hend.imp (fun q => ?_) fun q => ?_) fun h' far => ⟨rfl, ?_⟩
    · rw [List.getElem?_toArray]; exact List.getElem?_eq_none (by omega)
    · rw [List.getElem?_toArray]; exact List.getElem?_eq_none (by omega)
    · refine I.turnedL (t' := s.toks) (ch := zfp z TI TO i1 i2) (fun c o hn e => ?_) hf
      have ne : ∀ d, d = z ∨ d = TI ∨ d = TO ∨ d = i1 ∨ d = i2 → c ≠ d := fun d hd q => hn (by subst q; unfold zfp; simpa using hd)
      exact far c o (ne z (by simp)) (ne TO (by simp)) (ne i1 (by simp)) (ne i2 (by simp)) e
  self := fun A i s Q E st h => wpAny_pyIter_zip st.1 h
def iZipW (K : PySem.W.Frag) (ta : TA) : TI := fun τ H R => ta τ H fun vs H1 => ∃ a b xs ys, vs = [.ref a, .ref b] ∧ SqL K H1 a xs ∧ SqT K H1 b ys ∧ R (ItzW K a b) H1
theorem pi_zipW {X : Cx} {e e2 : Expr} {ta : TA} {p pos tpos : Pos} {elts : List Expr} {kk : Nat} (hg : Gl X "zip") (hm : X.mg "zip" = none) (ha : PA X [e, e2] ta)
    (hs : starEach [e, e2] X.env = (false, eval e X.env) :: starEach [e2] X.env := by rfl) (hpl : (backTo pos (starEach [e2] X.env)).any (·.1) = false := by rfl) :
    PI X (.Tuple elts kk tpos) (.Call (.Name "zip" p) [e, e2] [] pos) (iZipW X.K ta) := by
  refine ⟨fun pz s τ H R I h => ?_⟩
  refine Call_ (ld_blt I hg hm PyProof.Rows.boot_zip (PyProof.Rows.callWith_type1 (thn (ha.run pos pz s τ H _ I h) fun us sA ⟨vs, HA, IA, rA, a, b, xs, ys, ex, qx, qy, q⟩ => ?_) hs hpl))
  subst ex
  obtain ⟨u, v, rfl, ru, rv⟩ := vals2 rA
  cases ru
  cases rv
  obtain ⟨its, _, pl, _⟩ := IA.list qx
  obtain ⟨jts, _, pt, _⟩ := IA.tuple qy
  obtain ⟨ot, et, _⟩ := id pt
  refine call_zipW pl.isList pt fun h' stay Z => wpAny_pyIter_zip Z.hz ?_
  have IB : Inv X pz τ HA { sA with heap := h' } := IA.kept (t' := sA.toks) stay
  refine ⟨sA.heap.objs.size + 4, zfp (sA.heap.objs.size + 4) (sA.heap.objs.size + 2) (sA.heap.objs.size + 3) sA.heap.objs.size (sA.heap.objs.size + 1), _, _, HA, rfl, IB, turn_zipW (PySem.W.ktu_apart sA.heap.objs.size a b pl.lt (Heap.lt_size et)), ⟨Z.hz, Z.ti, ⟨_, _, Z.to⟩, Z.t1, Z.t2⟩, fun c hcm => ?_, q⟩
  have le : sA.heap.objs.size ≤ c := by
    rcases mem_zfp hcm with q | q | q | q | q <;> subst q
    · exact Nat.le_add_right _ 4
    · exact Nat.le_add_right _ 2
    · exact Nat.le_add_right _ 3
    · exact Nat.le_refl _
    · exact Nat.le_add_right _ 1
  exact IA.fpOk le (IA.hok.fresh le)
/-- zip(list, tuple) -/
def dIZipW (a : DA) : DI := fun s m R => a s m fun ds m1 => ∃ x xs ys, ds = [x, .tup ys] ∧ lsq m1 x = some xs ∧ R (zipD xs ys) (fun m' => lsq m' x = some xs) m1
theorem gi_zipW {X : Cx} {e e2 : Expr} {p pos tpos : Pos} {elts : List Expr} {kk : Nat} {da : DA} (hg : Gl X "zip") (hm : X.mg "zip" = none) (ha : GA X [e, e2] da)
    (hs : starEach [e, e2] X.env = (false, eval e X.env) :: starEach [e2] X.env := by rfl) (hpl : (backTo pos (starEach [e2] X.env)).any (·.1) = false := by rfl) :
    GIE X (.Tuple elts kk tpos) (.Call (.Name "zip" p) [e, e2] [] pos) (dIZipW da) := by
  obtain ⟨ta, q, l⟩ := ha.ex
  refine ⟨_, pi_zipW hg hm q hs hpl, fun s H sd m Rd R rs rm h k => ?_⟩
  refine l s H sd m _ _ rs rm h fun vs H1 ds m1 t1 rm1 r1 ⟨x, xs, ys, ed, e1, q1⟩ => ?_
  subst ed
  obtain ⟨v, u, rfl, rv, ru⟩ := repL2 r1
  obtain ⟨a, us, rfl, sl, r⟩ := lsq_rep rm1 rv e1
  cases ru with
  | @tup _ b ws sb rb =>
    refine ⟨a, b, us, ws, rfl, sl, sb, k _ H1 _ (fun m' => lsq m' x = some xs) m1 t1 rm1 ⟨fun i H' m' t' rm' st hi => ?_, fun i H' z H2 m' t' rm' st hi hy => ?_, fun i H' m' t' rm' st hi => ?_⟩ q1⟩
    · rw [zipD_len] at hi
      obtain ⟨a', us', ea, sl', r'⟩ := lsq_rep rm' (rv.mono t') st
      cases ea
      have c1 := r'.length
      have c2 := rb.length
      exact ⟨us', ws, us'[i]'(by omega), ws[i]'(by omega), sl', t'.sqT sb, List.getElem?_eq_getElem _, List.getElem?_eq_getElem _⟩
    · obtain ⟨T, x1, y1, rfl, hT, rfl, f, g⟩ := hy
      obtain ⟨a', us', ea, sl', r'⟩ := lsq_rep rm' (rv.mono t') st
      cases ea
      obtain ⟨d, e, q1⟩ := r'.getV (f _ sl')
      obtain ⟨d2, e2, q2⟩ := rb.getV (g _ (t'.sqT sb))
      exact zip_item rm' hT e e2 q1 (q2.mono t')
    · rw [zipD_len] at hi
      obtain ⟨a', us', ea, sl', r'⟩ := lsq_rep rm' (rv.mono t') st
      cases ea
      have c1 := r'.length
      have c2 := rb.length
      exact ⟨us', ws, sl', t'.sqT sb, by omega⟩
end PD
namespace PD
open PySem PySem.Spec PyProof.Rows L2
def dBML (d : DM) (a : DE) (b : DA) : DE := fun s m Q => a s m fun x m1 => (lsq m1 x).isSome = true ∧ b s m1 fun ds m2 => d x ds m2 Q
end PD
namespace PD
open PySem PySem.Spec PyProof.Rows L2
def dTupS : DC := fun ds m Q => ∃ x : Str, ds = [.str x] ∧ x.length ≤ 1000 ∧ Q (.tup (sgn x)) m
theorem dTupS_s {x : Str} {m : Mu} {Q : DK} : dTupS [.str x] m Q = (x.length ≤ 1000 ∧ Q (.tup (sgn x)) m) := propext ⟨fun ⟨y, e, h⟩ => by cases e; exact h, fun h => ⟨x, rfl, h⟩⟩
end PD
namespace Bk
open PySem PySem.Spec PyProof.Rows L2 PD
inductive MW | sign | none | run
  deriving DecidableEq
def MW.s : MW → Str
  | .sign => "sign"
  | .none => "none"
  | .run => "run"
inductive Mark | sign (l : List Nat) | none | run (lo : Int) (hi : Option Int)
def oi : Option Int → D
  | some i => .int i
  | none => .non
def Mark.d : Mark → D
  | .sign l => .tup [.str "sign", .str (tx l)]
  | .none => .tup [.str "none"]
  | .run lo hi => .tup [.str "run", .int lo, oi hi]
def Mark.w : Mark → MW
  | .sign _ => .sign
  | .none => .none
  | .run _ _ => .run
inductive Piece | lot (n : Str) | plain (ms : List Mark)
def Piece.d : Piece → D
  | .lot n => .tup [.str "lot", .str n]
  | .plain ms => .tup [.str "plain", .tup (ms.map Mark.d)]
abbrev Ref := Nat × Nat
def refD (r : Ref) : D := .tup [.int (r.1 : Int), .int (r.2 : Int)]
structure Test where
  nm : Str
  a : Ref
  b : Ref
def Test.d (t : Test) : D := .tup [.str t.nm, refD t.a, refD t.b]
structure Way where
  mr : Str
  ps : List Piece
  ts : List Test
def Way.d (w : Way) : D := .tup [.str w.mr, .tup (w.ps.map Piece.d), .tup (w.ts.map Test.d)]
abbrev Knd := Option (List MW)
def Piece.k : Piece → Knd
  | .lot _ => none
  | .plain ms => some (ms.map Mark.w)
def kindD : Knd → D
  | none => .str "lot"
  | some ws => .tup (ws.map fun w => .str w.s)
def Way.k (w : Way) : List Knd := w.ps.map Piece.k
def kindsD (ks : List Knd) : D := .tup (ks.map kindD)
def wordsD (ls : List (List Nat)) : D := .tup (ls.map fun l => .str (tx l))
def pairD (p : Str × List (List Nat)) : D := .tup [.str p.1, wordsD p.2]
def waysD (ws : List Way) : D := .tup (ws.map Way.d)
def lotD (l : Str × List Way) : D := .tup [.str l.1, waysD l.2]
structure Prog where
  sg : List Nat
  rows : Nat
  pairs : List (Str × List (List Nat))
  nums : List D
  start : Str
  lots : List (Str × List Way)
  js : List D
  as : List D
def Prog.d (p : Prog) : D := .tup [.str "program", .str (tx p.sg), .int (p.rows : Int), .tup (p.pairs.map pairD), .tup p.nums, .str p.start, .tup (p.lots.map lotD), .tup p.js, .tup p.as]
def Prog.ways (p : Prog) : List Way := p.lots.flatMap (·.2)
def fnd {α : Type} (l : List (Str × α)) (n : Str) : Option α := (l.find? fun p => decide (p.1 = n)).map (·.2)
def sDic {α : Type} (f : α → D) (l : List (Str × α)) : List (Key × D) := l.map fun p => (.inr p.1, f p.2)
theorem fnd_cons {α : Type} {p : Str × α} {l : List (Str × α)} {n : Str} : fnd (p :: l) n = if p.1 = n then some p.2 else fnd l n := by
  unfold fnd
  by_cases h : p.1 = n
  · rw [if_pos h, List.find?_cons_of_pos (by simpa using h)]; rfl
  · rw [if_neg h, List.find?_cons_of_neg (by simpa using h)]
theorem fnd_none {α : Type} {n : Str} : ∀ {l : List (Str × α)}, fnd l n = none ↔ n ∉ l.map (·.1)
  | [] => by simp [fnd]
  | p :: l => by
    rw [fnd_cons]
    by_cases h : p.1 = n
    · simp [h]
    · rw [if_neg h, fnd_none, List.map_cons, List.mem_cons, not_or]
      exact ⟨fun z => ⟨fun e => h e.symm, z⟩, fun z => z.2⟩
theorem fnd_mem {α : Type} {n : Str} {a : α} : ∀ {l : List (Str × α)}, fnd l n = some a → (n, a) ∈ l
  | [], h => by simp [fnd] at h
  | p :: l, h => by
    rw [fnd_cons] at h
    split at h
    · rename_i e; cases h; subst e; exact List.mem_cons_self ..
    · exact List.mem_cons_of_mem _ (fnd_mem h)
theorem fnd_some {α : Type} {n : Str} {l : List (Str × α)} (h : n ∈ l.map (·.1)) : ∃ a, fnd l n = some a := by
  cases e : fnd l n with
  | some a => exact ⟨a, rfl⟩
  | none => exact absurd h (fnd_none.mp e)
theorem valD_s {α : Type} {f : α → D} {n : Str} : ∀ {l : List (Str × α)}, valD (sDic f l) (.inr n) = (fnd l n).map f
  | [] => rfl
  | p :: l => by
    have ih := valD_s (f := f) (n := n) (l := l)
    rw [fnd_cons]
    unfold sDic at ih ⊢
    rw [List.map_cons]
    by_cases h : p.1 = n
    · rw [if_pos h]; simp [valD, h]
    · rw [if_neg h, ← ih]
      have h' : ¬ (Sum.inr p.1 : Key) = .inr n := fun e => h (Sum.inr.inj e)
      simp [valD, h']
theorem put_new {α : Type} {f : α → D} {n : Str} {a : α} {l : List (Str × α)} (h : n ∉ l.map (·.1)) : putKD (sDic f l) (.inr n) (f a) = sDic f (l ++ [(n, a)]) := by
  unfold putKD
  rw [if_neg]
  · unfold sDic; rw [List.map_append]; rfl
  · intro e
    rw [List.any_eq_true] at e
    obtain ⟨kv, h1, h2⟩ := e
    unfold sDic at h1
    obtain ⟨p, h3, rfl⟩ := List.mem_map.mp h1
    exact h (List.mem_map.mpr ⟨p, h3, Sum.inr.inj (of_decide_eq_true h2)⟩)
theorem sDic_len {α : Type} {f : α → D} {l : List (Str × α)} : (sDic f l).length = l.length := by unfold sDic; rw [List.length_map]
def insK (acc : List (Str × List Knd)) (w : Way) : List (Str × List Knd) := if w.mr ∈ acc.map (·.1) then acc else acc ++ [(w.mr, w.k)]
def kbm (ws : List Way) : List (Str × List Knd) := ws.foldl insK []
theorem insK_keys {acc : List (Str × List Knd)} {w : Way} {n : Str} : n ∈ (insK acc w).map (·.1) ↔ n ∈ acc.map (·.1) ∨ n = w.mr := by
  unfold insK
  split
  · rename_i h
    exact ⟨.inl, fun z => z.elim id fun e => e ▸ h⟩
  · rw [List.map_append, List.mem_append]; simp
theorem foldK_keys : ∀ (ws : List Way) (acc : List (Str × List Knd)) (n : Str), n ∈ (ws.foldl insK acc).map (·.1) ↔ n ∈ acc.map (·.1) ∨ n ∈ ws.map Way.mr
  | [], acc, n => by simp
  | w :: ws, acc, n => by
    rw [List.foldl_cons, foldK_keys ws, insK_keys, List.map_cons, List.mem_cons, or_assoc]
theorem foldK_mem : ∀ (ws : List Way) (acc : List (Str × List Knd)) (x : Str × List Knd), x ∈ ws.foldl insK acc → x ∈ acc ∨ ∃ w ∈ ws, x = (w.mr, w.k)
  | [], acc, x, h => .inl h
  | w :: ws, acc, x, h => by
    rw [List.foldl_cons] at h
    rcases foldK_mem ws _ x h with h | ⟨v, hv, e⟩
    · unfold insK at h
      split at h
      · exact .inl h
      · rcases List.mem_append.mp h with h | h
        · exact .inl h
        · exact .inr ⟨w, List.mem_cons_self .., List.mem_singleton.mp h⟩
    · exact .inr ⟨v, List.mem_cons_of_mem _ hv, e⟩
theorem kbm_keys {ws : List Way} {n : Str} : n ∈ (kbm ws).map (·.1) ↔ n ∈ ws.map Way.mr := by
  unfold kbm; rw [foldK_keys]; simp
theorem kbm_fnd {ws : List Way} {w : Way} (hw : w ∈ ws) : ∃ v ∈ ws, v.mr = w.mr ∧ fnd (kbm ws) w.mr = some v.k := by
  obtain ⟨ks, e⟩ := fnd_some (kbm_keys.mpr (List.mem_map.mpr ⟨w, hw, rfl⟩))
  have := fnd_mem e
  rcases foldK_mem ws [] _ this with h | ⟨v, hv, e2⟩
  · exact (List.not_mem_nil h).elim
  · injection e2 with e3 e4
    exact ⟨v, hv, e3.symm, by rw [e, e4]⟩
theorem insK_len {acc : List (Str × List Knd)} {w : Way} : (insK acc w).length ≤ acc.length + 1 := by
  unfold insK; split
  · omega
  · rw [List.length_append, List.length_singleton]; omega
theorem foldK_len : ∀ (ws : List Way) (acc : List (Str × List Knd)), (ws.foldl insK acc).length ≤ acc.length + ws.length
  | [], acc => Nat.le_refl _
  | w :: ws, acc => by
    rw [List.foldl_cons, List.length_cons]
    have := foldK_len ws (insK acc w)
    have := insK_len (acc := acc) (w := w)
    omega
def refsOf (i : Nat) (S : MW → Bool) (ws : List MW) : List Ref := ((ws.zipIdx).filter fun p => S p.1).map fun p => (i, p.2)
def refsTo (S : MW → Bool) (ks : List Knd) : List Ref := (ks.zipIdx).flatMap fun p => match p.1 with | none => [] | some ws => refsOf p.2 S ws
abbrev isSg : MW → Bool := fun w => w == .sign
theorem enumD_map {α : Type} (f : α → D) : ∀ (l : List α) (n : Nat), enumD n (l.map f) = (l.zipIdx n).map fun p => .tup [.int (p.2 : Int), f p.1]
  | [], _ => rfl
  | x :: l, n => by rw [List.map_cons, enumD, List.zipIdx_cons, List.map_cons, enumD_map f l (n + 1)]
theorem refsOf_len {i : Nat} {S : MW → Bool} {ws : List MW} : (refsOf i S ws).length ≤ ws.length := by
  unfold refsOf
  rw [List.length_map]
  exact Nat.le_trans (List.length_filter_le _ _) (by rw [List.length_zipIdx]; exact Nat.le_refl _)
theorem flat_le {α β : Type} {f : α → List β} {n : Nat} : ∀ {l : List α}, (∀ x ∈ l, (f x).length ≤ n) → (l.flatMap f).length ≤ l.length * n
  | [], _ => by simp
  | x :: l, h => by
    rw [List.flatMap_cons, List.length_append, List.length_cons, Nat.succ_mul]
    have := flat_le (l := l) (f := f) (n := n) fun y hy => h y (List.mem_cons_of_mem _ hy)
    have := h x (List.mem_cons_self ..)
    omega
def lettersOf : Piece → List (List Nat)
  | .lot _ => []
  | .plain ms => ms.filterMap fun m => match m with | .sign l => some l | _ => none
def wayLetters (y : Way) : List (List Nat) := y.ps.flatMap lettersOf
def OverSg (sg l : List Nat) : Prop := (∀ c ∈ l, c ∈ sg) ∧ l.length ≤ 1000
def PieceOk (p : Prog) : Piece → Prop
  | .lot n => n ∈ p.lots.map (·.1)
  | .plain ms => ms.length ≤ 10 ∧ ∀ l, Mark.sign l ∈ ms → OverSg p.sg l
structure Sizes (p : Prog) : Prop where
  pr : p.pairs.length ≤ 100
  lt : p.lots.length ≤ 100
  wd : ∀ q ∈ p.pairs, q.2.length ≤ 100
  ws : ∀ l ∈ p.lots, l.2.length ≤ 100
  wy : ∀ w ∈ p.ways, w.ps.length ≤ 100 ∧ w.ts.length ≤ 100
structure Good (p : Prog) : Prop extends Sizes p where
  ll : (p.ways.flatMap wayLetters).length ≤ 100000
  ndP : (p.pairs.map (·.1)).Nodup
  ndL : (p.lots.map (·.1)).Nodup
  wp : ∀ q ∈ p.pairs, ∀ l ∈ q.2, OverSg p.sg l
  pc : ∀ w ∈ p.ways, ∀ q ∈ w.ps, PieceOk p q
  st : p.start ∈ p.lots.map (·.1)
  mkk : ∀ w ∈ p.ways, ∀ v ∈ p.ways, w.mr = v.mr → w.k = v.k
  ts : ∀ w ∈ p.ways, ∀ t ∈ w.ts, t.nm ∈ p.pairs.map (·.1) ∧ t.a ∈ refsTo isSg w.k ∧ t.b ∈ refsTo isSg w.k
structure Good0 (p : Prog) : Prop extends Good p where
  nn : p.nums = []
  nj : p.js = []
  na : p.as = []
theorem Sizes.ways {p : Prog} (h : Sizes p) : p.ways.length ≤ 10000 := by
  have := flat_le (f := fun l : Str × List Way => l.2) (n := 100) h.ws
  have h1 := h.lt
  unfold Prog.ways
  omega
def bkFs : List Str := ["program", "signs", "rows", "start", "_ways", "_kinds", "_pairs", "_numbers", "_sorts", "_formulas", "_asks"]
def bkVs (p : Prog) (nv sv fv av : D) : List D := [p.d, .str (tx p.sg), .int (p.rows : Int), .str p.start, dicOf (sDic waysD p.lots), dicOf (sDic kindsD (kbm p.ways)), dicOf (sDic wordsD p.pairs), nv, sv, fv, av]
def bookD (C : Addr) (p : Prog) (nv sv fv av : D) : D := .obj C bkFs (bkVs p nv sv fv av)
def book0 (C : Addr) (p : Prog) : D := bookD C p (dicOf []) (dicOf []) (dicTOf []) (dicOf [])
section
variable {p : Prog} {nv sv fv av : D}
theorem bk_program : lookF "program" bkFs (bkVs p nv sv fv av) = some p.d := by rfl
theorem bk_signs : lookF "signs" bkFs (bkVs p nv sv fv av) = some (.str (tx p.sg)) := by rfl
theorem bk_rows : lookF "rows" bkFs (bkVs p nv sv fv av) = some (.int (p.rows : Int)) := by rfl
theorem bk_start : lookF "start" bkFs (bkVs p nv sv fv av) = some (.str p.start) := by rfl
theorem bk_ways : lookF "_ways" bkFs (bkVs p nv sv fv av) = some (dicOf (sDic waysD p.lots)) := by rfl
theorem bk_kinds : lookF "_kinds" bkFs (bkVs p nv sv fv av) = some (dicOf (sDic kindsD (kbm p.ways))) := by rfl
theorem bk_pairs : lookF "_pairs" bkFs (bkVs p nv sv fv av) = some (dicOf (sDic wordsD p.pairs)) := by rfl
theorem bk_numbers : lookF "_numbers" bkFs (bkVs p nv sv fv av) = some nv := by rfl
theorem bk_sorts : lookF "_sorts" bkFs (bkVs p nv sv fv av) = some sv := by rfl
theorem bk_formulas : lookF "_formulas" bkFs (bkVs p nv sv fv av) = some fv := by rfl
theorem bk_asks : lookF "_asks" bkFs (bkVs p nv sv fv av) = some av := by rfl
theorem bk_m1 : lookF "ways" bkFs (bkVs p nv sv fv av) = none := by rfl
theorem bk_m2 : lookF "in_pairs" bkFs (bkVs p nv sv fv av) = none := by rfl
theorem bk_m3 : lookF "number_for" bkFs (bkVs p nv sv fv av) = none := by rfl
theorem bk_m4 : lookF "kinds" bkFs (bkVs p nv sv fv av) = none := by rfl
theorem bk_m5 : lookF "parts" bkFs (bkVs p nv sv fv av) = none := by rfl
theorem bk_m6 : lookF "lots" bkFs (bkVs p nv sv fv av) = none := by rfl
theorem bk_m7 : lookF "makers" bkFs (bkVs p nv sv fv av) = none := by rfl
theorem bk_m8 : lookF "judges" bkFs (bkVs p nv sv fv av) = none := by rfl
theorem bk_m9 : lookF "sort_of" bkFs (bkVs p nv sv fv av) = none := by rfl
theorem bk_ma : lookF "formula" bkFs (bkVs p nv sv fv av) = none := by rfl
theorem bk_mb : lookF "asks" bkFs (bkVs p nv sv fv av) = none := by rfl
theorem bk_mc : lookF "ask" bkFs (bkVs p nv sv fv av) = none := by rfl
end
theorem dMethV_bk {C : Addr} {mn : Str} {n : Nat} {sd : SpD} {p : Prog} {nv sv fv av : D} {a : (List D → Mu → Prop) → Prop} {Q : DK} : dMethV C mn n sd (bookD C p nv sv fv av) a Q = (lookF mn bkFs (bkVs p nv sv fv av) = none ∧ a fun es m2 => es.length + 1 = n ∧ sd (bookD C p nv sv fv av :: es) m2 Q) := dMethV_o
theorem dFldV_bk {C : Addr} {f : Str} {p : Prog} {nv sv fv av : D} {m : Mu} {Q : DK} : dFldV C f (bookD C p nv sv fv av) m Q = ∃ v, lookF f bkFs (bkVs p nv sv fv av) = some v ∧ Q v m := dFldV_o
theorem atI_5 {α : Type} {a b c d e f : α} {xs : List α} : atI (a :: b :: c :: d :: e :: f :: xs) 5 = some f := atI_nat (j := 5) rfl
theorem atI_6 {α : Type} {a b c d e f g : α} {xs : List α} : atI (a :: b :: c :: d :: e :: f :: g :: xs) 6 = some g := atI_nat (j := 6) rfl
theorem atI_7 {α : Type} {a b c d e f g h : α} {xs : List α} : atI (a :: b :: c :: d :: e :: f :: g :: h :: xs) 7 = some h := atI_nat (j := 7) rfl
theorem atI_8 {α : Type} {a b c d e f g h i : α} {xs : List α} : atI (a :: b :: c :: d :: e :: f :: g :: h :: i :: xs) 8 = some i := atI_nat (j := 8) rfl
section
variable {p : Prog} {m : Mu} {Q : DK}
theorem pd_sg : dIx p.d (.int 1) m Q = Q (.str (tx p.sg)) m := by
  unfold Prog.d
  rw [dIx_t]
  exact propext ⟨fun ⟨d, e, h⟩ => by cases (rfl : atI _ _ = some _).symm.trans e; exact h, fun h => ⟨_, rfl, h⟩⟩
theorem pd_rows : dIx p.d (.int 2) m Q = Q (.int (p.rows : Int)) m := by
  unfold Prog.d
  rw [dIx_t]
  exact propext ⟨fun ⟨d, e, h⟩ => by cases (rfl : atI _ _ = some _).symm.trans e; exact h, fun h => ⟨_, rfl, h⟩⟩
theorem pd_pairs : dIx p.d (.int 3) m Q = Q (.tup (p.pairs.map Bk.pairD)) m := by
  unfold Prog.d
  rw [dIx_t]
  exact propext ⟨fun ⟨d, e, h⟩ => by cases (rfl : atI _ _ = some _).symm.trans e; exact h, fun h => ⟨_, rfl, h⟩⟩
theorem pd_nums : dIx p.d (.int 4) m Q = Q (.tup p.nums) m := by
  unfold Prog.d
  rw [dIx_t]
  exact propext ⟨fun ⟨d, e, h⟩ => by cases (rfl : atI _ _ = some _).symm.trans e; exact h, fun h => ⟨_, rfl, h⟩⟩
theorem pd_start : dIx p.d (.int 5) m Q = Q (.str p.start) m := by
  unfold Prog.d
  rw [dIx_t]
  exact propext ⟨fun ⟨d, e, h⟩ => by cases (rfl : atI _ _ = some _).symm.trans e; exact h, fun h => ⟨_, rfl, h⟩⟩
theorem pd_lots : dIx p.d (.int 6) m Q = Q (.tup (p.lots.map lotD)) m := by
  unfold Prog.d
  rw [dIx_t]
  exact propext ⟨fun ⟨d, e, h⟩ => by cases (rfl : atI _ _ = some _).symm.trans e; exact h, fun h => ⟨_, rfl, h⟩⟩
theorem pd_js : dIx p.d (.int 7) m Q = Q (.tup p.js) m := by
  unfold Prog.d
  rw [dIx_t]
  exact propext ⟨fun ⟨d, e, h⟩ => by cases (rfl : atI _ _ = some _).symm.trans e; exact h, fun h => ⟨_, rfl, h⟩⟩
theorem pd_as : dIx p.d (.int 8) m Q = Q (.tup p.as) m := by
  unfold Prog.d
  rw [dIx_t]
  exact propext ⟨fun ⟨d, e, h⟩ => by cases (rfl : atI _ _ = some _).symm.trans e; exact h, fun h => ⟨_, rfl, h⟩⟩
end
end Bk
namespace PD
open PySem PySem.Spec PyProof.Rows L2
end PD
namespace PD
open PySem PySem.Spec PyProof.Rows L2
end PD
namespace PD
open PySem PySem.Spec PyProof.Rows L2 TXS
section
variable {X : Cx}
def rLenTx (P : Program) (w : World) : List V → Hp → VK → Prop := fun vs H Q => ∃ (a : Addr) (l : List Str), vs = [.ref a] ∧ H a = some (SetTx P w a l) ∧ l.length ≤ 1000 ∧ Q (.int l.length) H
theorem cr_lenTx : CallR X (.builtin "len") (rLenTx X.prog X.w) := by
  intro pins s σ H vs us Q I r h
  obtain ⟨a, l, rfl, ha, hz, q⟩ := h
  rw [Vals.ref1 r]
  obtain ⟨dat, e, F, S, nd⟩ : TxAt X.prog X.w s.heap a l := (I.hok a _ ha).1
  refine PySem.call_len_set e ⟨rfl, rfl, rfl⟩ rfl F.fit (by rw [F.sz]; omega) ⟨.int l.length, H, I.tok _, ⟨_, by rw [F.sz]⟩, q⟩
def dLenTx (P : Program) (w : World) : DC := fun ds m Q => ∃ (a : Addr) (l : List Str), ds = [.ref a] ∧ m a = some (.oth (SetTx P w a l)) ∧ l.length ≤ 1000 ∧ Q (.int l.length) m
theorem lc_lenTx {K : PySem.W.Frag} {P : Program} {w : World} : LC K (rLenTx P w) (dLenTx P w) := fun vs H ds m Qd Q rm r ⟨a, l, e, ha, hz, q⟩ k => by
  subst e
  exact ⟨a, l, one_ref r, rm a _ ha, hz, k _ H _ m (.refl H) rm (.int _) q⟩
end
end PD
namespace PD
open PySem PySem.Spec PyProof.Rows L2
end PD
namespace PySem
open Sem (wp)
namespace F
theorem zip_no_len : typeLookup (.type "zip") "__len__" = pure none := by rw [typeLookup_type, builtinLookup_eq_fast]; kernel_rfl
theorem zip_no_hint : typeLookup (.type "zip") "__length_hint__" = pure none := by rw [typeLookup_type, builtinLookup_eq_fast]; kernel_rfl
theorem typeCall_zip_1 (a : Value) : checkTypeCall "zip" ⟨[a], []⟩ = pure () := by kernel_rfl
theorem newCall_zip_1 (a : Value) : checkBuiltinCall "zip.__new__" ⟨[.type "zip", a], []⟩ = pure () := by kernel_rfl
end F
/-- a zip while at d a list is being filled; item i is a new tuple of Con i -/
structure ZSrc (prog : Program) (w : World) (A : Around) (I d : Addr) (wr : List Addr) (n : Nat) (Con : Nat → Array Value) (St : Nat → Heap → Prop) : Prop where
  off : d ∉ wr
  frame : ∀ i h h', St i h → (∀ b o, b ≠ d → h.get? b = some o → h'.get? b = some o) → St i h'
  ty : ∀ i (s : Shared), St i s.heap → s.TypeIs (.ref I) "zip"
  item : ∀ i (s : Shared) (Q : Option Value → Shared → Prop) (E : Value → Shared → Prop), i < n → St i s.heap → d < s.heap.objs.size →
    (∀ h', h'.get? s.heap.objs.size = some { cls := .type "tuple", data := .seq (Con i) } → St (i + 1) h' → (∀ b o, b ∉ wr → s.heap.get? b = some o → h'.get? b = some o) → Q (some (.ref s.heap.objs.size)) { s with heap := h' }) → wpAny (model prog w) A (pyNext (.ref I)) Q E s
  done : ∀ (s : Shared) (Q : Option Value → Shared → Prop) (E : Value → Shared → Prop), St n s.heap →
    (∀ h', (∀ b o, b ∉ wr → s.heap.get? b = some o → h'.get? b = some o) → Q none { s with heap := h' }) → wpAny (model prog w) A (pyNext (.ref I)) Q E s
  self : ∀ i (s : Shared) (Q : Value → Shared → Prop) (E : Value → Shared → Prop), St i s.heap → Q (.ref I) s → wpAny (model prog w) A (pyIter (.ref I)) Q E s
/-- the tuples given out so far -/
structure GoodL (base : Nat) (Con : Nat → Array Value) (h : Heap) (L : List Addr) : Prop where
  nd : L.Nodup
  ge : ∀ T ∈ L, base ≤ T
  at_ : ∀ (j : Nat) (T : Addr), L[j]? = some T → h.get? T = some { cls := .type "tuple", data := .seq (Con j) }
theorem GoodL.lt {base : Nat} {Con : Nat → Array Value} {h : Heap} {L : List Addr} (g : GoodL base Con h L) {T : Addr} (hT : T ∈ L) : T < h.objs.size := by
  obtain ⟨j, hj, e⟩ := List.mem_iff_getElem.mp hT
  exact Heap.lt_size (g.at_ j T (by rw [List.getElem?_eq_getElem hj, e]))
theorem GoodL.keep {base : Nat} {Con : Nat → Array Value} {h h' : Heap} {L : List Addr} (g : GoodL base Con h L) (k : ∀ b o, base ≤ b → h.get? b = some o → h'.get? b = some o) : GoodL base Con h' L :=
  ⟨g.nd, g.ge, fun j T e => k _ _ (g.ge T (List.mem_of_getElem? e)) (g.at_ j T e)⟩
theorem GoodL.push {base : Nat} {Con : Nat → Array Value} {h h' : Heap} {L : List Addr} (g : GoodL base Con h L) (hb : base ≤ h.objs.size) (k : ∀ b o, base ≤ b → h.get? b = some o → h'.get? b = some o)
    (e : h'.get? h.objs.size = some { cls := .type "tuple", data := .seq (Con L.length) }) : GoodL base Con h' (L ++ [h.objs.size]) := by
  refine ⟨?_, ?_, ?_⟩
  · rw [List.nodup_append]
    refine ⟨g.nd, by simp, fun a ha b hb' => ?_⟩
    rw [List.mem_singleton.mp hb']
    exact Nat.ne_of_lt (g.lt ha)
  · intro T hT
    rcases List.mem_append.mp hT with hT | hT
    · exact g.ge T hT
    · rw [List.mem_singleton.mp hT]; exact hb
  · intro j T eT
    rw [List.getElem?_append] at eT
    split at eT
    · exact (g.keep k).at_ j T eT
    · rename_i hj
      have : j = L.length := by
        have := List.getElem?_eq_some_iff.mp eT
        obtain ⟨h1, _⟩ := this
        simp only [List.length_singleton] at h1
        omega
      subst this
      rw [Nat.sub_self] at eT
      cases eT
      exact e
abbrev lstObj (L : List Addr) (c : Nat) : Obj := { cls := .type "list", dict := none, data := .seq (L.map Value.ref).toArray c, slots := #[] }
section
variable {prog : Program} {w : World} {A : Around} {R : Result → Shared → Prop} {I d : Addr} {wr : List Addr} {n : Nat} {Con : Nat → Array Value} {St : Nat → Heap → Prop}
theorem loopZ (S : ZSrc prog w A.in1 I d wr n Con St) (hn : n ≤ sizeLine) (res : Value) (base : Nat) (hwr : ∀ b ∈ wr, b < base) (hd : d < base) {s : Shared} {h₀ : Heap}
    (hR : ∀ h' L c', L.length = n → GoodL base Con h' L → h'.get? d = some (lstObj L c') → (∀ b o, b ≠ d → b ∉ wr → h₀.get? b = some o → h'.get? b = some o) → R (.ok (.ret res)) { s with heap := h' }) :
    ∀ (k i : Nat) (h : Heap) (L : List Addr) (c : Nat), n - i = k → i ≤ n → St i h → base ≤ h.objs.size → GoodL base Con h L → L.length = i → h.get? d = some (lstObj L c) →
      (∀ b o, b ≠ d → b ∉ wr → h₀.get? b = some o → h.get? b = some o) → codeAny (model prog w) A (.builtin "list.extend.loop" ⟨[.ref d, .ref I, res], []⟩) R { s with heap := h } := by
  have nwr : ∀ b, base ≤ b → b ∉ wr := fun b hb hm => Nat.lt_irrefl _ (Nat.lt_of_lt_of_le (hwr b hm) hb)
  intro k
  induction k with
  | zero =>
    intro i h L c hk hi st hs g hL hdd kp
    have hin : i = n := by omega
    subst hin
    refine codeAny_builtin F.entry_extend_loop ?_
    rw [Around.under_plainId F.plain_extend_loop _]
    show wpAny _ A.in1 (pyNext (.ref I) >>= _) _ _ _
    refine wpAny_bind (S.done { s with heap := h } _ _ st fun h' hk' => ?_)
    exact wpAny_pure (hR h' L c hL (g.keep fun b o hb e => hk' b o (nwr b hb) e) (hk' d _ S.off hdd) fun b o h1 h2 e => hk' b o h2 (kp b o h1 h2 e))
  | succ k ih =>
    intro i h L c hk hi st hs g hL hdd kp
    have hlt : i < n := by omega
    refine codeAny_builtin F.entry_extend_loop ?_
    rw [Around.under_plainId F.plain_extend_loop _]
    show wpAny _ A.in1 (pyNext (.ref I) >>= _) _ _ _
    refine wpAny_bind (S.item i { s with heap := h } _ _ hlt st (Nat.lt_of_lt_of_le hd hs) fun h' hT st' hk' => ?_)
    have hd' := hk' d _ S.off hdd
    have g' : GoodL base Con h' (L ++ [h.objs.size]) := g.push hs (fun b o hb e => hk' b o (nwr b hb) e) (by rw [hL]; exact hT)
    have hs' : base ≤ h'.objs.size := Nat.le_trans hs (Nat.le_of_lt (Heap.lt_size hT))
    show wpAny _ A.in1 (updateSeq d (·.push (.ref h.objs.size)) >>= _) _ _ _
    refine wpAny_bind ?_
    have eL : ((L.map Value.ref).toArray.push (.ref h.objs.size)) = ((L ++ [h.objs.size]).map Value.ref).toArray := by simp
    refine wpAny_updateSeq hd' rfl (wpAny_pure ⟨plainId_quiet F.plain_extend_loop _, ?_⟩) (by simp only [List.size_toArray, List.length_map]; omega) (by show ((L.map Value.ref).toArray.push (.ref h.objs.size)).size ≤ sizeLine + 1; rw [Array.size_push]; simp only [List.size_toArray, List.length_map]; omega)
    have oth : ∀ b o, b ≠ d → h'.get? b = some o → (h'.update d (Obj.mapSeq (·.push (.ref h.objs.size)))).get? b = some o := fun b o hb e => (Heap.get?_update_other _ _ (Ne.symm hb)).trans e
    have self := Heap.get?_update_self (Obj.mapSeq (·.push (Value.ref h.objs.size))) hd' rfl
    obtain ⟨c2, ec⟩ : ∃ c2, Obj.mapSeq (·.push (Value.ref h.objs.size)) (lstObj L c) = lstObj (L ++ [h.objs.size]) c2 := ⟨_, by unfold lstObj; rw [← eL]; rfl⟩
    refine ih (i + 1) _ (L ++ [h.objs.size]) c2 (by omega) hlt (S.frame _ _ _ st' fun b o hb e => oth b o hb e) ?_ (g'.keep fun b o hb e => oth b o (Nat.ne_of_gt (Nat.lt_of_lt_of_le hd hb)) e) (by rw [List.length_append, hL]; rfl) ?_ fun b o h1 h2 e => oth b o h1 (hk' b o h2 (kp b o h1 h2 e))
    · exact Nat.le_trans hs (Nat.le_of_lt (Heap.lt_size (oth _ _ (Nat.ne_of_gt (Nat.lt_of_lt_of_le hd hs)) hT)))
    · rw [self]
      rw [ec]
end
section
variable {prog : Program} {w : World} {A : Around} {E : Value → Shared → Prop} {s : Shared} {I : Addr} {wr : List Addr} {n : Nat} {Con : Nat → Array Value} {St : Nat → Heap → Prop}
theorem collectZ {Q : List Value → Shared → Prop} (S : ZSrc prog w A.in1 I s.heap.objs.size wr n Con St) (hn : n ≤ sizeLine) (hst : St 0 s.heap) (hI : I < s.heap.objs.size) (hwr : ∀ b ∈ wr, b < s.heap.objs.size)
    (hQ : ∀ h' L, L.length = n → GoodL (s.heap.objs.size + 1) Con h' L → (∀ b o, b ∉ wr → s.heap.get? b = some o → h'.get? b = some o) → Q (L.map Value.ref) { s with heap := h' }) : wpAny (model prog w) A (collect (.ref I)) Q E s := by
  have hSI : s.heap.objs.size ≠ I := Nat.ne_of_gt hI
  unfold collect
  refine wpAny_bind (wpAny_runValue (codeAny_builtin F.entry_proto_collect ?_))
  rw [Around.under_plainId F.plain_proto_collect _]
  show wpAny _ A.in1 (newList [] >>= fun l => again (.builtin "list.__iadd__" ⟨[l, .ref I], []⟩)) _ _ s
  refine wpAny_bind (wpAny_newObj_type ?_)
  refine wpAny_pure ⟨plainId_quiet F.plain_list_iadd _, codeAny_builtin F.entry_list_iadd ?_⟩
  rw [Around.under_plainId F.plain_list_iadd _]
  have hst₁ : St 0 (s.heap.push { cls := .type "list", data := .seq ([] : List Value).toArray }) := S.frame 0 _ _ hst fun b o _ e => Heap.get?_push_of_some _ e
  have ty₁ : ({ s with heap := s.heap.push { cls := .type "list", data := .seq ([] : List Value).toArray } } : Shared).TypeIs (.ref I) "zip" := S.ty 0 { s with heap := s.heap.push { cls := .type "list", data := .seq ([] : List Value).toArray } } hst₁
  show wpAny _ A.in1 (Builtin.List.listExtendWith (.ref s.heap.objs.size) (.ref I) (.ref s.heap.objs.size)) _ _ _
  unfold Builtin.List.listExtendWith
  refine wpAny_bind (wpAny_typeOf ty₁ ?_)
  have h1 : Builtin.List.listSameRef (.ref s.heap.objs.size) (.ref I) = false := by simp [Builtin.List.listSameRef, hSI]
  have h2 : (Value.type "zip" == Value.type "list") = false := by decide
  have h3 : (Value.type "zip" == Value.type "tuple") = false := by decide
  simp only [h1, h2, h3, Bool.or_false, Bool.false_eq_true, if_false]
  refine wpAny_bind (S.self 0 _ _ _ hst₁ ?_)
  refine wpAny_bind (wpAny_holding ?_)
  unfold Builtin.List.listLengthHint
  refine wpAny_bind (wpAny_specialOf ty₁ F.zip_no_len ?_)
  show wpAny _ A.in1 (specialOf (Value.ref I) (Str.ofString "__length_hint__") >>= _) _ _ _
  refine wpAny_bind (wpAny_specialOf ty₁ F.zip_no_hint ?_)
  refine wpAny_pure ?_
  show wpAny _ A.in1 (rule "list.extend.makes-room" >>= fun _ => Builtin.List.listTouch (.ref s.heap.objs.size) >>= fun _ =>
    again (.builtin "list.extend.loop" ⟨[.ref s.heap.objs.size, .ref I, .ref s.heap.objs.size], []⟩)) _ _ _
  refine wpAny_bind (wpAny_rule ?_)
  have hS₁ : (s.heap.push { cls := .type "list", data := .seq ([] : List Value).toArray }).get? s.heap.objs.size = some { cls := .type "list", data := .seq ([] : List Value).toArray } := Heap.get?_push_size _ rfl
  refine wpAny_bind ?_
  show wpAny _ A.in1 (updateSeq s.heap.objs.size (·.push .none) >>= fun _ => updateSeq s.heap.objs.size (·.pop)) _ _ _
  refine wpAny_bind (wpAny_updateSeq hS₁ rfl ?_)
  have hS₂ := Heap.get?_update_self (Obj.mapSeq (·.push Value.none)) hS₁ rfl
  refine wpAny_updateSeq hS₂ rfl ?_
  have hS₃ := Heap.get?_update_self (Obj.mapSeq (·.pop)) hS₂ rfl
  have oth : ∀ b o, b ≠ s.heap.objs.size → (s.heap.push { cls := .type "list", data := .seq ([] : List Value).toArray }).get? b = some o →
      (((s.heap.push { cls := .type "list", data := .seq ([] : List Value).toArray }).update s.heap.objs.size (Obj.mapSeq (·.push Value.none))).update s.heap.objs.size (Obj.mapSeq (·.pop))).get? b = some o :=
    fun b o hb e => (Heap.get?_update_other _ _ (Ne.symm hb)).trans ((Heap.get?_update_other _ _ (Ne.symm hb)).trans e)
  have lt : ∀ b o, s.heap.get? b = some o → b ≠ s.heap.objs.size := fun b o e => Nat.ne_of_lt (Heap.lt_size e)
  refine wpAny_pure ⟨plainId_quiet F.plain_extend_loop _, loopZ S hn _ (s.heap.objs.size + 1) (fun b hb => Nat.lt_succ_of_lt (hwr b hb)) (Nat.lt_succ_self _) (s := s) (h₀ := s.heap) (fun h' L c' hL g hd kp => ?_) n 0 _ [] _ rfl (Nat.zero_le _)
    (S.frame 0 _ _ hst₁ fun b o hb e => oth b o hb e) (Nat.succ_le_of_lt (Heap.lt_size hS₃)) ⟨List.nodup_nil, fun _ h => (List.not_mem_nil h).elim, fun j T e => by simp at e⟩ rfl hS₃ fun b o h1 _ e => oth b o h1 (Heap.get?_push_of_some _ e)⟩
  show wpAny _ A (load s.heap.objs.size >>= _) _ _ _
  refine wpAny_bind (wpAny_load hd ?_)
  refine wpAny_pure ?_
  have := hQ h' L hL g fun b o hb e => kp b o (lt b o e) hb e
  simpa using this
theorem code_tuple_new_zip {Q₁ : Value → Shared → Prop} (S : ZSrc prog w A.in1.in1 I s.heap.objs.size wr n Con St) (hn : n ≤ sizeLine) (hst : St 0 s.heap) (hI : I < s.heap.objs.size) (hwr : ∀ b ∈ wr, b < s.heap.objs.size)
    (h : ∀ h' L, L.length = n → GoodL (s.heap.objs.size + 1) Con h' L → (∀ b o, b ∉ wr → s.heap.get? b = some o → h'.get? b = some o) → Q₁ (.ref h'.objs.size) { s with heap := h'.push { cls := .type "tuple", data := .seq (L.map Value.ref).toArray } }) :
    codeAny (model prog w) A (.call (.builtin "tuple.__new__") ⟨[.type "tuple", .ref I], []⟩) (wants Q₁ E) s := by
  refine codeAny_of_tree ?_
  show wpAny _ A.in1 (do checkBuiltinCall "tuple.__new__" ⟨[.type "tuple", .ref I], []⟩; again (.builtin "tuple.__new__" ⟨[.type "tuple", .ref I], []⟩)) _ _ s
  refine wpAny_bind (wpAny_of_eq (F.newCall_tuple_1 _) (wpAny_pure ⟨plainId_quiet F.plain_tuple_new _, codeAny_builtin F.entry_tuple_new ?_⟩))
  rw [Around.under_plainId F.plain_tuple_new _]
  have hsub := sub_tuple_self
  have hinit := init_tuple_lookup
  have hmh := madeHere_tuple
  have hTI := S.ty 0 s hst
  wp_walk using wpAny_typeOf hTI, collectZ S hn hst hI hwr
  intro h' L hL g hk
  show wpAny _ _ (Builtin.Tuple.tupleExact (L.map Value.ref).toArray >>= fun v => ret v) _ _ _
  unfold Builtin.Tuple.tupleExact
  refine wpAny_bind (wpAny_newObj_type ?_ (by show (L.map Value.ref).toArray.size ≤ sizeLine; simp only [List.size_toArray, List.length_map]; omega))
  refine wpAny_pure ?_
  exact h h' L hL g hk
theorem call_tuple_zip {Q : Value → Shared → Prop} (S : ZSrc prog w A.in1.in1.in1 I s.heap.objs.size wr n Con St) (hn : n ≤ sizeLine) (hst : St 0 s.heap) (hI : I < s.heap.objs.size) (hwr : ∀ b ∈ wr, b < s.heap.objs.size)
    (hQ : ∀ h' L, L.length = n → GoodL (s.heap.objs.size + 1) Con h' L → (∀ b o, b ∉ wr → s.heap.get? b = some o → h'.get? b = some o) → Q (.ref h'.objs.size) { s with heap := h'.push { cls := .type "tuple", data := .seq (L.map Value.ref).toArray } }) :
    wpAny (model prog w) A (call (.type "tuple") [.ref I]) Q E s := by
  refine callType_codes (Q₁ := fun obj s₁ => s₁.TypeIs obj "tuple" ∧ Q obj s₁) F.called_tuple (F.typeCall_tuple_1 _) F.entry_object_init
    (code_tuple_new_zip S hn hst hI hwr fun h' L hL g hk => ⟨⟨_, Heap.get?_push_size _ rfl, rfl⟩, hQ h' L hL g hk⟩) fun obj s₁ h₁ => ?_
  exact ⟨h₁.1, F.args_object_init_2 obj _, object_init_meets F.called_tuple.init.lookup F.called_tuple.made (by decide) prog w A.in1 _ s₁ ⟨h₁.1, rfl, h₁.2⟩⟩
end
end PySem
namespace PySem
open Sem (wp)
abbrev IsOne (h : Heap) (T : Addr) (a : Value) : Prop := h.get? T = some { cls := .type "tuple", data := .seq #[a] }
structure ZipA1 (z TI TO i1 l1 : Addr) : Prop where
  TIz : TI ≠ z
  TOz : TO ≠ z
  i1z : i1 ≠ z
  TITO : TI ≠ TO
  TIi1 : TI ≠ i1
  TOi1 : TO ≠ i1
  l1z : l1 ≠ z
  l1TO : l1 ≠ TO
  l1i1 : l1 ≠ i1
section
variable {prog : Program} {w : World} {A : Around} {E : Value → Shared → Prop} {s : Shared}
theorem upd_one {T : Addr} {a x : Value} {Q : Unit → Shared → Prop} (hT : IsOne s.heap T a) (h : ∀ h', IsOne h' T x → Heap.SameBut T s.heap h' → Q () { s with heap := h' }) :
    wpAny (model prog w) A (updateSeq T (·.setIfInBounds 0 x)) Q E s := by
  refine wpAny_updateSeq hT rfl (h _ ?_ (Heap.SameBut.update ..))
  show Heap.get? _ _ = _
  rw [Heap.get?_update_self _ hT rfl]
  simp [Obj.mapSeq]
theorem next1 {z TI TO i1 l1 : Addr} {k1 : Nat} {xs : Array Value} {x a : Value} {Q : Value → Shared → Prop} (D : ZipA1 z TI TO i1 l1) (hz : IsZip s.heap z TI TO .none) (hTI : IsOne s.heap TI (.ref i1)) (hTO : IsOne s.heap TO a)
    (h1 : s.heap.IsListIter i1 l1 k1) (hl1 : s.heap.IsList l1 xs) (hx : xs[k1]? = some x)
    (hQ : ∀ h', IsZip h' z TI TO (rawInt s.heap.objs.size) → h'.IsListIter i1 l1 (k1 + 1) → IsOne h' s.heap.objs.size x →
      (∀ c o, c ≠ z → c ≠ TO → c ≠ i1 → s.heap.get? c = some o → h'.get? c = some o) → Q (.ref s.heap.objs.size) { s with heap := h' }) :
    wpAny (model prog w) A (Builtin.«zip.__next__» ⟨[.ref z], []⟩) (fun fin s' => ∃ v, fin = .done (.ret v) ∧ Q v s') E s := by
  show wpAny _ _ (field (.ref z) 2 >>= _) _ _ _
  refine wpAny_bind (wpAny_field hz rfl (x := .bool false) rfl ?_)
  show wpAny _ _ (field (.ref z) 3 >>= _) _ _ _
  refine wpAny_bind (wpAny_field hz rfl (x := .ref TI) rfl ?_)
  refine wpAny_bind (wpAny_seqItems hTI rfl ?_)
  show wpAny _ _ (Builtin.SmallTypes.ownedTupleIsFree (.ref z) >>= _) _ _ _
  refine wpAny_bind ?_
  unfold Builtin.SmallTypes.ownedTupleIsFree
  refine wpAny_bind (wpAny_field hz rfl (x := .none) rfl (wpAny_pure ?_))
  simp only [if_true]
  refine wpAny_bind (wpAny_rule ?_)
  refine wpAny_bind (wpAny_field hz rfl (x := .ref TO) rfl ?_)
  refine wpAny_bind (wpAny_setField_rec hz (by simp) fun h₁ hz₁ hs₁ => ?_)
  replace hz₁ : IsZip h₁ z TI TO .ellipsis := hz₁
  refine wpAny_bind ?_
  simp only [List.zipIdx_cons, List.zipIdx_nil, List.forIn_cons, List.forIn_nil]
  refine wpAny_bind (wpAny_bind (wpAny_onRaise ?_))
  show wpAny _ _ (Builtin.SmallTypes.nextOf (.ref i1) >>= _) _ _ _
  refine wpAny_bind (wpAny_nextOf_list_item (h1.extBut hs₁.extBut D.i1z) (hl1.extBut hs₁.extBut D.l1z) hx fun h₂ h1₂ hs₂ => wpAny_pure ?_)
  have hTO₂ : IsOne h₂ TO a := hs₂.extBut _ _ D.TOi1 (hs₁.extBut _ _ D.TOz hTO)
  refine wpAny_bind (wpAny_seqItems hTO₂ rfl ?_)
  refine wpAny_bind (upd_one hTO₂ fun h₃ hTO₃ hs₃ => ?_)
  refine wpAny_bind (wpAny_letGo (wpAny_pure (wpAny_pure ?_)))
  refine wpAny_bind (wpAny_seqItems hTO₃ rfl ?_)
  refine wpAny_bind (wpAny_newTuple ?_)
  have hsz : h₃.objs.size = s.heap.objs.size := by rw [hs₃.1, hs₂.1, hs₁.1]
  have hz₃ : IsZip h₃ z TI TO .ellipsis := hs₃.extBut _ _ D.TOz.symm (hs₂.extBut _ _ D.i1z.symm hz₁)
  have hk₃ : ∀ c o, c ≠ z → c ≠ TO → c ≠ i1 → s.heap.get? c = some o → h₃.get? c = some o := fun c o c1 c2 c3 e => hs₃.extBut _ _ c2 (hs₂.extBut _ _ c3 (hs₁.extBut _ _ c1 e))
  have h1₃ : h₃.IsListIter i1 l1 (k1 + 1) := h1₂.extBut hs₃.extBut D.TOi1.symm
  have hzlt : z < h₃.objs.size := Heap.lt_size hz₃
  show wpAny _ _ (Builtin.SmallTypes.ownedTupleHandOut (.ref z) (.ref h₃.objs.size) >>= _) _ _ _
  refine wpAny_bind ?_
  unfold Builtin.SmallTypes.ownedTupleHandOut
  have hz₆ : IsZip (h₃.push { cls := .type "tuple", data := .seq #[x] }) z TI TO .ellipsis := Heap.get?_push_of_some _ hz₃
  refine wpAny_bind (wpAny_setField_rec hz₆ (by simp) fun h₇ hz₇ hs₇ => ?_)
  replace hz₇ : IsZip h₇ z TI TO (rawInt h₃.objs.size) := hz₇
  refine wpAny_setField_rec hz₇ (by simp) fun h₈ hz₈ hs₈ => ?_
  replace hz₈ : IsZip h₈ z TI TO (rawInt h₃.objs.size) := hz₈
  have up : ∀ c o, c ≠ z → h₃.get? c = some o → h₈.get? c = some o := fun c o c1 e => hs₈.extBut _ _ c1 (hs₇.extBut _ _ c1 (Heap.get?_push_of_some _ e))
  have hT₈ : IsOne h₈ h₃.objs.size x := hs₈.extBut _ _ (Nat.ne_of_gt hzlt) (hs₇.extBut _ _ (Nat.ne_of_gt hzlt) (Heap.get?_push_size _ rfl))
  rw [hsz] at hz₈ hT₈
  refine wpAny_pure ⟨_, rfl, ?_⟩
  show Q (.ref h₃.objs.size) _
  rw [hsz]
  exact hQ h₈ hz₈ (h1₃.at fun o e => up _ o D.i1z e) hT₈ fun c o c1 c2 c3 e => up c o c1 (hk₃ c o c1 c2 c3 e)
theorem end1 {z TI TO i1 l1 : Addr} {k1 : Nat} {xs : Array Value} {a : Value} {Q : Fin → Shared → Prop} (hh : A.handled = none) (D : ZipA1 z TI TO i1 l1) (hz : IsZip s.heap z TI TO .none) (hTI : IsOne s.heap TI (.ref i1)) (hTO : IsOne s.heap TO a)
    (h1 : s.heap.IsListIter i1 l1 k1) (hl1 : s.heap.IsList l1 xs) (hx : xs[k1]? = none)
    (hE : ∀ h' e, (∀ c o, c ≠ z → c ≠ TO → c ≠ i1 → s.heap.get? c = some o → h'.get? c = some o) → (∃ o, h'.get? e = some o ∧ o.cls = .type "StopIteration") → E (.ref e) { s with heap := h' }) :
    wpAny (model prog w) A (Builtin.«zip.__next__» ⟨[.ref z], []⟩) Q E s := by
  show wpAny _ _ (field (.ref z) 2 >>= _) _ _ _
  refine wpAny_bind (wpAny_field hz rfl (x := .bool false) rfl ?_)
  show wpAny _ _ (field (.ref z) 3 >>= _) _ _ _
  refine wpAny_bind (wpAny_field hz rfl (x := .ref TI) rfl ?_)
  refine wpAny_bind (wpAny_seqItems hTI rfl ?_)
  show wpAny _ _ (Builtin.SmallTypes.ownedTupleIsFree (.ref z) >>= _) _ _ _
  refine wpAny_bind ?_
  unfold Builtin.SmallTypes.ownedTupleIsFree
  refine wpAny_bind (wpAny_field hz rfl (x := .none) rfl (wpAny_pure ?_))
  simp only [if_true]
  refine wpAny_bind (wpAny_rule ?_)
  refine wpAny_bind (wpAny_field hz rfl (x := .ref TO) rfl ?_)
  refine wpAny_bind (wpAny_setField_rec hz (by simp) fun h₁ hz₁ hs₁ => ?_)
  replace hz₁ : IsZip h₁ z TI TO .ellipsis := hz₁
  refine wpAny_bind ?_
  simp only [List.zipIdx_cons, List.zipIdx_nil, List.forIn_cons, List.forIn_nil]
  refine wpAny_bind (wpAny_bind (wpAny_onRaise ?_))
  show wpAny _ _ (Builtin.SmallTypes.nextOf (.ref i1) >>= _) _ _ _
  refine wpAny_bind (wpAny_nextOf_list_end hh (h1.extBut hs₁.extBut D.i1z) (hl1.extBut hs₁.extBut D.l1z) hx fun h₂ e hs₂ he => ?_)
  obtain ⟨oe, hoe, hce⟩ := he
  have hz₂ : IsZip h₂ z TI TO .ellipsis := hs₂ _ _ D.i1z.symm hz₁
  have hez : e ≠ z := fun x => by subst x; rw [hz₂] at hoe; cases hoe; simp at hce
  refine wpAny_setField_rec hz₂ (by simp) fun h₃ _ hs₃ => hE h₃ e (fun c o c1 _ c3 x => hs₃.extBut _ _ c1 (hs₂ _ _ c3 (hs₁.extBut _ _ c1 x))) ⟨oe, hs₃.extBut _ _ hez hoe, hce⟩
theorem next1_held {z TI TO T i1 l1 : Addr} {f : Bool} {oT : Obj} {k1 : Nat} {xs : Array Value} {x : Value} {Q : Value → Shared → Prop} (D : ZipA1 z TI TO i1 l1) (hz : IsZipHeld s.heap z TI TO T f) (hT : s.heap.get? T = some oT) (hTI : IsOne s.heap TI (.ref i1))
    (h1 : s.heap.IsListIter i1 l1 k1) (hl1 : s.heap.IsList l1 xs) (hx : xs[k1]? = some x)
    (hQ : ∀ h', IsZipHeld h' z TI TO T true → h'.IsListIter i1 l1 (k1 + 1) → IsOne h' s.heap.objs.size x →
      (∀ c o, c ≠ z → c ≠ i1 → s.heap.get? c = some o → h'.get? c = some o) → Q (.ref s.heap.objs.size) { s with heap := h' }) :
    wpAny (model prog w) A (Builtin.«zip.__next__» ⟨[.ref z], []⟩) (fun fin s' => ∃ v, fin = .done (.ret v) ∧ Q v s') E s := by
  show wpAny _ _ (field (.ref z) 2 >>= _) _ _ _
  refine wpAny_bind (wpAny_field hz rfl (x := .bool false) rfl ?_)
  show wpAny _ _ (field (.ref z) 3 >>= _) _ _ _
  refine wpAny_bind (wpAny_field hz rfl (x := .ref TI) rfl ?_)
  refine wpAny_bind (wpAny_seqItems hTI rfl ?_)
  show wpAny _ _ (Builtin.SmallTypes.ownedTupleIsFree (.ref z) >>= _) _ _ _
  refine wpAny_bind (wpAny_tupleHeld_zip hz hT fun h₁ hz₁ hs₁ => ?_)
  simp only [Bool.false_eq_true, if_false]
  refine wpAny_bind ?_
  rw [← Array.forIn_toList]
  simp only [List.forIn_cons, List.forIn_nil]
  refine wpAny_bind (wpAny_bind (wpAny_holding ?_))
  show wpAny _ _ (Builtin.SmallTypes.nextOf (.ref i1) >>= _) _ _ _
  refine wpAny_bind (wpAny_nextOf_list_item (s := { s with heap := h₁ }) (h1.extBut hs₁.extBut D.i1z) (hl1.extBut hs₁.extBut D.l1z) hx fun h₂ h1₂ hs₂ => wpAny_pure ?_)
  refine wpAny_pure (wpAny_pure ?_)
  show wpAny _ _ (newTuple [x] >>= _) _ _ _
  refine wpAny_bind (wpAny_newTuple ?_)
  have hsz : h₂.objs.size = s.heap.objs.size := by rw [hs₂.1, hs₁.1]
  have hz₂ : IsZipHeld h₂ z TI TO T true := hs₂.extBut _ _ D.i1z.symm hz₁
  have hk : ∀ c o, c ≠ z → c ≠ i1 → s.heap.get? c = some o → h₂.get? c = some o := fun c o c1 c2 e => hs₂.extBut _ _ c2 (hs₁.extBut _ _ c1 e)
  refine wpAny_pure ⟨_, rfl, ?_⟩
  show Q (.ref h₂.objs.size) _
  have hp : IsOne (h₂.push { cls := .type "tuple", data := .seq #[x] }) h₂.objs.size x := Heap.get?_push_size _ rfl
  rw [hsz] at hp ⊢
  exact hQ _ (Heap.get?_push_of_some _ hz₂) (h1₂.at fun o e => Heap.get?_push_of_some _ e) hp fun c o c1 c2 e => Heap.get?_push_of_some _ (hk c o c1 c2 e)
theorem end1_held {z TI TO T i1 l1 : Addr} {f : Bool} {oT : Obj} {k1 : Nat} {xs : Array Value} {Q : Fin → Shared → Prop} (hh : A.handled = none) (D : ZipA1 z TI TO i1 l1) (hz : IsZipHeld s.heap z TI TO T f) (hT : s.heap.get? T = some oT) (hTI : IsOne s.heap TI (.ref i1))
    (h1 : s.heap.IsListIter i1 l1 k1) (hl1 : s.heap.IsList l1 xs) (hx : xs[k1]? = none)
    (hE : ∀ h' e, (∀ c o, c ≠ z → c ≠ i1 → s.heap.get? c = some o → h'.get? c = some o) → (∃ o, h'.get? e = some o ∧ o.cls = .type "StopIteration") → E (.ref e) { s with heap := h' }) :
    wpAny (model prog w) A (Builtin.«zip.__next__» ⟨[.ref z], []⟩) Q E s := by
  show wpAny _ _ (field (.ref z) 2 >>= _) _ _ _
  refine wpAny_bind (wpAny_field hz rfl (x := .bool false) rfl ?_)
  show wpAny _ _ (field (.ref z) 3 >>= _) _ _ _
  refine wpAny_bind (wpAny_field hz rfl (x := .ref TI) rfl ?_)
  refine wpAny_bind (wpAny_seqItems hTI rfl ?_)
  show wpAny _ _ (Builtin.SmallTypes.ownedTupleIsFree (.ref z) >>= _) _ _ _
  refine wpAny_bind (wpAny_tupleHeld_zip hz hT fun h₁ hz₁ hs₁ => ?_)
  simp only [Bool.false_eq_true, if_false]
  refine wpAny_bind ?_
  rw [← Array.forIn_toList]
  simp only [List.forIn_cons, List.forIn_nil]
  refine wpAny_bind (wpAny_bind (wpAny_holding ?_))
  show wpAny _ _ (Builtin.SmallTypes.nextOf (.ref i1) >>= _) _ _ _
  refine wpAny_bind (wpAny_nextOf_list_end (s := { s with heap := h₁ }) hh (h1.extBut hs₁.extBut D.i1z) (hl1.extBut hs₁.extBut D.l1z) hx fun h₂ e hs₂ he => ?_)
  exact hE h₂ e (fun c o c1 c2 x => hs₂ _ _ c2 (hs₁.extBut _ _ c1 x)) he
theorem pn1 {z : Addr} {Q : Option Value → Shared → Prop} (hTy : s.TypeIs (.ref z) "zip") (h : wpAny (model prog w) A.in1 (Builtin.«zip.__next__» ⟨[.ref z], []⟩) (fun fin s' => ∃ v, fin = .done (.ret v) ∧ Q (some v) s') (fun e s' => (∃ a o, e = .ref a ∧ s'.heap.get? a = some o ∧ o.cls = .type "StopIteration") ∧ Q none s') s) :
    wpAny (model prog w) A (pyNext (.ref z)) Q E s := by
  unfold pyNext
  refine wpAny_bind (wpAny_attempt (wpAny_callSpecial?_slot (name := Str.ofString "__next__") hTy F.slot_zip_next
    (wpAny_call_entry F.slot_zip_next hTy F.entry_zip_next (wpAny_mono h (fun fin s' hq => ?_) fun e s' hq => ?_) (F.args_zip_next_1 _))))
  · obtain ⟨v, e, q⟩ := hq
    exact ⟨v, e, wpAny_pure q⟩
  · obtain ⟨⟨a, o, rfl, ho, hc⟩, q⟩ := hq
    refine wpAny_bind (wpAny_isInstance (T := "StopIteration") (b := true) ⟨o, ho, hc⟩ isSubtype_stop ?_)
    exact wpAny_pure q
end
end PySem
namespace PySem
open Sem (wp)
abbrev z1H1 (h : Heap) (l1 : Addr) : Heap := h.push { cls := .type "list_iterator", data := .fields #[.ref l1, .int 0 0] }
abbrev z1H2 (h : Heap) (l1 : Addr) : Heap := (z1H1 h l1).push { cls := .type "tuple", data := .seq #[.ref h.objs.size] }
abbrev z1H3 (h : Heap) (l1 : Addr) : Heap := (z1H2 h l1).push { cls := .type "tuple", data := .seq #[.none] }
abbrev z1H4 (h : Heap) (l1 : Addr) : Heap := (z1H3 h l1).push { cls := .type "zip", data := .fields #[.none, .bool false, .bool false, .ref (z1H1 h l1).objs.size, .ref (z1H2 h l1).objs.size] }
theorem meets_zip_new1 (l1 : Addr) (xs : Array Value) :
    Meets (Builtin.«zip.__new__» ⟨[.type "zip", .ref l1], []⟩) (fun _ R s => s.heap.IsList l1 xs ∧ R (.ok (.ret (.ref (z1H3 s.heap l1).objs.size))) { s with heap := z1H4 s.heap l1 }) :=
  .of_wp fun prog w A R s h => by
    obtain ⟨hp, g, d, tk, os⟩ := s; obtain ⟨hl1, h⟩ := h
    have hsub := sub_zip
    have hL1 : Heap.IsList (Shared.heap ⟨hp, g, d, tk, os⟩) l1 xs := hl1
    wp_walk using wpAny_pyIter_list hL1
    exact ⟨_, rfl, h⟩
section
variable {prog : Program} {w : World} {A : Around} {E : Value → Shared → Prop} {s : Shared}
theorem call_zip_1 {l1 : Addr} {xs : Array Value} {Q : Value → Shared → Prop} (hl1 : s.heap.IsList l1 xs)
    (h : ∀ h', IsZip h' (s.heap.objs.size + 3) (s.heap.objs.size + 1) (s.heap.objs.size + 2) .none → IsOne h' (s.heap.objs.size + 1) (.ref s.heap.objs.size) →
      IsOne h' (s.heap.objs.size + 2) .none → h'.IsListIter s.heap.objs.size l1 0 → h'.objs.size = s.heap.objs.size + 4 →
      (∀ c o, s.heap.get? c = some o → h'.get? c = some o) → Q (.ref (s.heap.objs.size + 3)) { s with heap := h' }) :
    wpAny (model prog w) A (call (.type "zip") [.ref l1]) Q E s := by
  refine callType_new F.called_zip (by decide) (F.typeCall_zip_1 _) (F.newCall_zip_1 _) (fun obj => F.args_object_init_2 obj _) F.entry_zip_new
    (meets_zip_new1 l1 xs) ⟨hl1, ?_⟩
  have z1 : (z1H1 s.heap l1).objs.size = s.heap.objs.size + 1 := Heap.size_push ..
  have z2 : (z1H2 s.heap l1).objs.size = s.heap.objs.size + 2 := by rw [Heap.size_push, z1]
  have z3 : (z1H3 s.heap l1).objs.size = s.heap.objs.size + 3 := by rw [Heap.size_push, z2]
  have z4 : (z1H4 s.heap l1).objs.size = s.heap.objs.size + 4 := by rw [Heap.size_push, z3]
  have g4 : (z1H4 s.heap l1).get? (z1H3 s.heap l1).objs.size = some _ := Heap.get?_push_size _ rfl
  have g3 : (z1H4 s.heap l1).get? (z1H2 s.heap l1).objs.size = some _ := Heap.get?_push_of_some _ (Heap.get?_push_size _ rfl)
  have g2 : (z1H4 s.heap l1).get? (z1H1 s.heap l1).objs.size = some _ := Heap.get?_push_of_some _ (Heap.get?_push_of_some _ (Heap.get?_push_size _ rfl))
  have g1 : (z1H4 s.heap l1).get? s.heap.objs.size = some _ := Heap.get?_push_of_some _ (Heap.get?_push_of_some _ (Heap.get?_push_of_some _ (Heap.get?_push_size _ rfl)))
  show _ ∧ _
  rw [z1, z2, z3] at g4
  rw [z1] at g2
  rw [z2] at g3
  rw [z3]
  exact ⟨⟨_, g4, rfl⟩, h _ g4 g2 g3 ⟨_, g1, rfl, rfl⟩ z4 fun c o x =>
    Heap.get?_push_of_some _ (Heap.get?_push_of_some _ (Heap.get?_push_of_some _ (Heap.get?_push_of_some _ x)))⟩
theorem it_zip {z : Addr} {Q : Value → Shared → Prop} (hT : s.TypeIs (.ref z) "zip") (h : Q (.ref z) s) : wpAny (model prog w) A (pyIter (.ref z)) Q E s := by
  refine wpAny_pyIter_slot hT F.slot_zip_iter (wpAny_call_entry F.slot_zip_iter hT F.entry_zip_iter ?_ (F.args_zip_iter_1 _))
  show wpAny _ _ (ret (.ref z)) _ _ s
  exact wpAny_pure ⟨_, rfl, "zip", _, hT, F.slot_zip_next.lookup, h⟩
theorem zsrc1 (hA : A.handled = none) {z TI TO i1 l1 d : Addr} (D : ZipA1 z TI TO i1 l1) (dz : d ≠ z) (dTI : d ≠ TI) (dTO : d ≠ TO) (di1 : d ≠ i1) (dl1 : d ≠ l1) (xs : Array Value) :
    ZSrc prog w A z d [z, TO, i1] xs.size (fun i => #[xs.getD i .none]) (fun i h => IsOne h TI (.ref i1) ∧ h.IsListIter i1 l1 i ∧ h.IsList l1 xs ∧
      ((IsZip h z TI TO .none ∧ ∃ a, IsOne h TO a) ∨ ∃ T f oT, IsZipHeld h z TI TO T f ∧ h.get? T = some oT ∧ T ≠ z ∧ T ≠ i1 ∧ T ≠ d)) where
  off := fun hm => by
    simp only [List.mem_cons, List.not_mem_nil, or_false] at hm
    rcases hm with e | e | e
    · exact dz e
    · exact dTO e
    · exact di1 e
  frame := fun i h₁ h₂ st hk => by
    obtain ⟨hTI, h1, hl1, hz⟩ := st
    refine ⟨hk _ _ (Ne.symm dTI) hTI, h1.at fun o e => hk _ o (Ne.symm di1) e, hl1.at fun o e => hk _ o (Ne.symm dl1) e, ?_⟩
    rcases hz with ⟨hz, a, hTO⟩ | ⟨T, f, oT, hz, hT, r1, r2, r4⟩
    · exact .inl ⟨hk _ _ (Ne.symm dz) hz, a, hk _ _ (Ne.symm dTO) hTO⟩
    · exact .inr ⟨T, f, oT, hk _ _ (Ne.symm dz) hz, hk _ _ r4 hT, r1, r2, r4⟩
  ty := fun i s st => by
    obtain ⟨_, _, _, ⟨hz, _⟩ | ⟨_, _, _, hz, _⟩⟩ := st
    · exact ⟨_, hz, rfl⟩
    · exact ⟨_, hz, rfl⟩
  item := fun i s₁ Q₁ E₁ hi st hds hQ => by
    obtain ⟨hTI, h1, hl1, hz⟩ := st
    have ex := Array.getElem?_eq_getElem hi
    have eg : xs.getD i .none = xs[i] := by rw [Array.getD_eq_getD_getElem?, ex]; rfl
    have lt : ∀ {c o}, s₁.heap.get? c = some o → s₁.heap.objs.size ≠ c := fun e => Nat.ne_of_gt (Heap.lt_size e)
    have n1 : s₁.heap.objs.size ≠ i1 := let ⟨_, e, _⟩ := h1; lt e
    rcases hz with ⟨hz, a, hTO⟩ | ⟨T, f, oT, hz, hT, r1, r2, r4⟩
    · refine pn1 ⟨_, hz, rfl⟩ (wpAny_mono (next1 D hz hTI hTO h1 hl1 ex (Q := fun v s' => Q₁ (some v) s') fun h' a1 a3 a5 hk => ?_) (fun _ _ q => q) fun _ _ z => z)
      exact hQ h' (by rw [eg]; exact a5) ⟨hk _ _ D.TIz D.TITO D.TIi1 hTI, a3, hl1.at fun o e => hk _ o D.l1z D.l1TO D.l1i1 e, .inr ⟨s₁.heap.objs.size, false, _, a1, a5, lt hz, n1, Nat.ne_of_gt hds⟩⟩
        fun c o hc e => hk c o (fun x => hc (by simp [x])) (fun x => hc (by simp [x])) (fun x => hc (by simp [x])) e
    · refine pn1 ⟨_, hz, rfl⟩ (wpAny_mono (next1_held D hz hT hTI h1 hl1 ex (Q := fun v s' => Q₁ (some v) s') fun h' a1 a3 a5 hk => ?_) (fun _ _ q => q) fun _ _ z => z)
      exact hQ h' (by rw [eg]; exact a5) ⟨hk _ _ D.TIz D.TIi1 hTI, a3, hl1.at fun o e => hk _ o D.l1z D.l1i1 e, .inr ⟨T, true, oT, a1, hk _ _ r1 r2 hT, r1, r2, r4⟩⟩
        fun c o hc e => hk c o (fun x => hc (by simp [x])) (fun x => hc (by simp [x])) e
  done := fun s₁ Q₁ E₁ st hQ => by
    obtain ⟨hTI, h1, hl1, hz⟩ := st
    have hend : xs[xs.size]? = none := Array.getElem?_eq_none (Nat.le_refl _)
    rcases hz with ⟨hz, a, hTO⟩ | ⟨T, f, oT, hz, hT, r1, r2, r4⟩
    · refine pn1 ⟨_, hz, rfl⟩ (end1 hA D hz hTI hTO h1 hl1 hend fun h' e hk he => ⟨?_, hQ h' fun c o hc e => hk c o (fun x => hc (by simp [x])) (fun x => hc (by simp [x])) (fun x => hc (by simp [x])) e⟩)
      obtain ⟨o, ho, hc⟩ := he
      exact ⟨_, o, rfl, ho, hc⟩
    · refine pn1 ⟨_, hz, rfl⟩ (end1_held hA D hz hT hTI h1 hl1 hend fun h' e hk he => ⟨?_, hQ h' fun c o hc e => hk c o (fun x => hc (by simp [x])) (fun x => hc (by simp [x])) e⟩)
      obtain ⟨o, ho, hc⟩ := he
      exact ⟨_, o, rfl, ho, hc⟩
  self := fun i s Q E st h => by
    obtain ⟨_, _, _, ⟨hz, _⟩ | ⟨_, _, _, hz, _⟩⟩ := st
    · exact it_zip ⟨_, hz, rfl⟩ h
    · exact it_zip ⟨_, hz, rfl⟩ h
theorem zsrc2 (hA : A.handled = none) {z TI TO i1 i2 l1 l2 d : Addr} (D : ZipApart z TI TO i1 i2 l1 l2) (dz : d ≠ z) (dTI : d ≠ TI) (dTO : d ≠ TO) (di1 : d ≠ i1) (di2 : d ≠ i2) (dl1 : d ≠ l1) (dl2 : d ≠ l2) (xs ys : Array Value) :
    ZSrc prog w A z d [z, TO, i1, i2] (min xs.size ys.size) (fun i => #[xs.getD i .none, ys.getD i .none]) (fun i h => IsPair h TI (.ref i1) (.ref i2) ∧ h.IsListIter i1 l1 i ∧ h.IsListIter i2 l2 i ∧ h.IsList l1 xs ∧ h.IsList l2 ys ∧
      ((IsZip h z TI TO .none ∧ ∃ a b, IsPair h TO a b) ∨ ∃ T f oT, IsZipHeld h z TI TO T f ∧ h.get? T = some oT ∧ T ≠ z ∧ T ≠ i1 ∧ T ≠ i2 ∧ T ≠ d)) where
  off := fun hm => by
    simp only [List.mem_cons, List.not_mem_nil, or_false] at hm
    rcases hm with e | e | e | e
    · exact dz e
    · exact dTO e
    · exact di1 e
    · exact di2 e
  frame := fun i h₁ h₂ st hk => by
    obtain ⟨hTI, h1, h2, hl1, hl2, hz⟩ := st
    refine ⟨hk _ _ (Ne.symm dTI) hTI, h1.at fun o e => hk _ o (Ne.symm di1) e, h2.at fun o e => hk _ o (Ne.symm di2) e, hl1.at fun o e => hk _ o (Ne.symm dl1) e, hl2.at fun o e => hk _ o (Ne.symm dl2) e, ?_⟩
    rcases hz with ⟨hz, a, b, hTO⟩ | ⟨T, f, oT, hz, hT, r1, r2, r3, r4⟩
    · exact .inl ⟨hk _ _ (Ne.symm dz) hz, a, b, hk _ _ (Ne.symm dTO) hTO⟩
    · exact .inr ⟨T, f, oT, hk _ _ (Ne.symm dz) hz, hk _ _ r4 hT, r1, r2, r3, r4⟩
  ty := fun i s st => by
    obtain ⟨_, _, _, _, _, ⟨hz, _⟩ | ⟨_, _, _, hz, _⟩⟩ := st
    · exact ⟨_, hz, rfl⟩
    · exact ⟨_, hz, rfl⟩
  item := fun i s₁ Q₁ E₁ hi st hds hQ => by
    obtain ⟨hTI, h1, h2, hl1, hl2, hz⟩ := st
    have hix : i < xs.size := Nat.lt_of_lt_of_le hi (Nat.min_le_left ..)
    have hiy : i < ys.size := Nat.lt_of_lt_of_le hi (Nat.min_le_right ..)
    have ex := Array.getElem?_eq_getElem hix
    have ey := Array.getElem?_eq_getElem hiy
    have egx : xs.getD i .none = xs[i] := by rw [Array.getD_eq_getD_getElem?, ex]; rfl
    have egy : ys.getD i .none = ys[i] := by rw [Array.getD_eq_getD_getElem?, ey]; rfl
    have lt : ∀ {c o}, s₁.heap.get? c = some o → s₁.heap.objs.size ≠ c := fun e => Nat.ne_of_gt (Heap.lt_size e)
    have n1 : s₁.heap.objs.size ≠ i1 := let ⟨_, e, _⟩ := h1; lt e
    have n2 : s₁.heap.objs.size ≠ i2 := let ⟨_, e, _⟩ := h2; lt e
    rcases hz with ⟨hz, a, b, hTO⟩ | ⟨T, f, oT, hz, hT, r1, r2, r3, r4⟩
    · refine wpAny_pyNext_zip_item D hz hTI hTO h1 h2 hl1 hl2 ex ey fun h' a1 a2 a3 a4 a5 a6 hk => ?_
      exact hQ h' (by rw [egx, egy]; exact a5) ⟨hk _ _ D.TIz D.TITO D.TIi1 D.TIi2 hTI, a3, a4, hl1.at fun o e => hk _ o D.l1z D.l1TO D.l1i1 D.l1i2 e, hl2.at fun o e => hk _ o D.l2z D.l2TO D.l2i1 D.l2i2 e,
        .inr ⟨s₁.heap.objs.size, false, _, a1, a5, lt hz, n1, n2, Nat.ne_of_gt hds⟩⟩
        fun c o hc e => hk c o (fun x => hc (by simp [x])) (fun x => hc (by simp [x])) (fun x => hc (by simp [x])) (fun x => hc (by simp [x])) e
    · refine wpAny_pyNext_zip_item_held D hz hT hTI h1 h2 hl1 hl2 ex ey fun h' a1 a3 a4 a5 a6 hk => ?_
      exact hQ h' (by rw [egx, egy]; exact a5) ⟨hk _ _ D.TIz D.TIi1 D.TIi2 hTI, a3, a4, hl1.at fun o e => hk _ o D.l1z D.l1i1 D.l1i2 e, hl2.at fun o e => hk _ o D.l2z D.l2i1 D.l2i2 e,
        .inr ⟨T, true, oT, a1, hk _ _ r1 r2 r3 hT, r1, r2, r3, r4⟩⟩
        fun c o hc e => hk c o (fun x => hc (by simp [x])) (fun x => hc (by simp [x])) (fun x => hc (by simp [x])) e
  done := fun s₁ Q₁ E₁ st hQ => by
    obtain ⟨hTI, h1, h2, hl1, hl2, hz⟩ := st
    have hend : xs[min xs.size ys.size]? = none ∨ ys[min xs.size ys.size]? = none := by
      rcases Nat.le_total xs.size ys.size with h | h
      · exact .inl (Array.getElem?_eq_none (by rw [Nat.min_eq_left h]; exact Nat.le_refl _))
      · exact .inr (Array.getElem?_eq_none (by rw [Nat.min_eq_right h]; exact Nat.le_refl _))
    rcases hz with ⟨hz, a, b, hTO⟩ | ⟨T, f, oT, hz, hT, r1, r2, r3, r4⟩
    · exact wpAny_pyNext_zip_end hA D hz hTI hTO h1 h2 hl1 hl2 hend fun h' hk => hQ h' fun c o hc e => hk c o (fun x => hc (by simp [x])) (fun x => hc (by simp [x])) (fun x => hc (by simp [x])) (fun x => hc (by simp [x])) e
    · exact wpAny_pyNext_zip_end_held hA D hz hT hTI h1 h2 hl1 hl2 hend fun h' hk => hQ h' fun c o hc e => hk c o (fun x => hc (by simp [x])) (fun x => hc (by simp [x])) (fun x => hc (by simp [x])) e
  self := fun i s Q E st h => by
    obtain ⟨_, _, _, _, _, ⟨hz, _⟩ | ⟨_, _, _, hz, _⟩⟩ := st
    · exact it_zip ⟨_, hz, rfl⟩ h
    · exact it_zip ⟨_, hz, rfl⟩ h
end
end PySem
namespace PD
open PySem PySem.Spec PyProof.Rows L2
def updT : Hp → List Addr → List (List V) → Hp
  | H, T :: L, r :: rows => updT (upd H T (.tup r)) L rows
  | H, _, _ => H
theorem updT_ne {b : Addr} : ∀ (L : List Addr) (rows : List (List V)) (H : Hp), b ∉ L → updT H L rows b = H b
  | [], _, _, _ => by unfold updT; rfl
  | T :: L, [], _, _ => by unfold updT; rfl
  | T :: L, r :: rows, H, h => by
    show updT (upd H T (.tup r)) L rows b = _
    rw [updT_ne L rows _ (fun z => h (List.mem_cons_of_mem _ z)), upd_ne (fun z : b = T => h (by rw [z]; exact List.mem_cons_self))]
theorem updT_at : ∀ (L : List Addr) (rows : List (List V)) (H : Hp) (j : Nat) (T : Addr) (r : List V), L.Nodup → L[j]? = some T → rows[j]? = some r → updT H L rows T = some (.tup r)
  | [], _, _, _, _, _, _, e, _ => by simp at e
  | T :: L, [], _, _, _, _, _, _, e => by simp at e
  | T :: L, r :: rows, H, 0, T', r', nd, e1, e2 => by
    rw [List.nodup_cons] at nd
    simp only [List.getElem?_cons_zero, Option.some.injEq] at e1 e2
    subst e1 e2
    show updT (upd H T (.tup r)) L rows T = _
    rw [updT_ne L rows _ nd.1, upd_same]
  | T :: L, r :: rows, H, j + 1, T', r', nd, e1, e2 => by
    rw [List.nodup_cons] at nd
    exact updT_at L rows _ j T' r' nd.2 (by simpa using e1) (by simpa using e2)
theorem updT_tx : ∀ (L : List Addr) (rows : List (List V)) (H : Hp), L.Nodup → (∀ T ∈ L, H T = none) → TX H (updT H L rows)
  | [], _, H, _, _ => by unfold updT; exact TX.refl H
  | T :: L, [], H, _, _ => by unfold updT; exact TX.refl H
  | T :: L, r :: rows, H, nd, hn => by
    rw [List.nodup_cons] at nd
    show TX H (updT (upd H T (.tup r)) L rows)
    exact (TX.new (hn T List.mem_cons_self)).trans (updT_tx L rows _ nd.2 fun T' h' => by rw [upd_ne (fun z : T' = T => nd.1 (by rw [← z]; exact h'))]; exact hn T' (List.mem_cons_of_mem _ h'))
theorem updT_rm {K : PySem.W.Frag} {m : Mu} : ∀ (L : List Addr) (rows : List (List V)) (H : Hp), L.Nodup → (∀ T ∈ L, H T = none) → RM K H m → RM K (updT H L rows) m
  | [], _, H, _, _, rm => by unfold updT; exact rm
  | T :: L, [], H, _, _, rm => by unfold updT; exact rm
  | T :: L, r :: rows, H, nd, hn, rm => by
    rw [List.nodup_cons] at nd
    exact updT_rm L rows _ nd.2 (fun T' h' => by rw [upd_ne (fun z : T' = T => nd.1 (by rw [← z]; exact h'))]; exact hn T' (List.mem_cons_of_mem _ h')) (rm.skip (hn T List.mem_cons_self))
section
variable {X : Cx} {pins : List (Addr × Obj)} {σ : L2.St} {H : Hp} {s : Shared}
/-- a tuple that stands already is told of -/
theorem inv_track {T : Addr} {ob : HO} (I : Inv X pins σ H s) (hf : FpOk X pins H T) (new : ObjOk X.prog X.w (upd H T ob) s.heap T ob) : Inv X pins σ (upd H T ob) s := by
  have hn : H T = none := hf.1
  have nit : ∀ b u, H b = some u → b ≠ T := fun b u e z => by rw [z, hn] at e; cases e
  have := I.step (g' := s.gens) (t' := s.toks) (d' := s.drawn) (h' := s.heap) (H' := upd H T ob) (ch := [T]) (fun b hb => ?_) (fun b o _ _ _ e _ => e) (fun b o _ _ _ e _ => ⟨o.slots, e⟩)
    (fun b o hc e n => ?_) (fun b o _ e => ⟨o, e⟩) (fun b xs e => ?_) (fun b o u e => ?_) (fun b ps e => ⟨#[], ?_⟩) (fun m hm => hm) (fun b u e => ?_) I.bare
  · exact this
  · rw [List.mem_singleton.mp hb]; exact ⟨hf.2.2.2.1, hf.2.1, hf.2.2.2.2.1, hf.2.2.2.2.2⟩
  · rw [upd_ne (fun z => hc (by simp [z]))]; exact n
  · rw [upd_ne (nit _ _ e)]; exact e
  · rw [upd_ne (nit _ _ e)]; exact e
  · rw [upd_ne (nit _ _ e), e]; simp
  · by_cases hb : b = T
    · subst hb
      rw [upd_same] at e
      cases e
      exact new
    · rw [upd_ne hb] at e
      exact (I.hok b u e).stay (fun c v _ q => q) (fun c q => by rw [upd_ne (nit _ _ q)]; exact q) fun c xs q => by rw [upd_ne (nit _ _ q)]; exact q
theorem inv_trackL : ∀ (L : List Addr) (rows : List (List V)) (H : Hp), Inv X pins σ H s → L.Nodup → (∀ T ∈ L, H T = none ∧ ∀ H' : Hp, H' T = none → FpOk X pins H' T) →
    (∀ (j : Nat) (T : Addr) (r : List V), L[j]? = some T → rows[j]? = some r → r.length ≤ sizeLine ∧ ∃ its : List Value, Vals r its ∧ IsTup s.heap T its.toArray) → Inv X pins σ (updT H L rows) s
  | [], _, H, I, _, _, _ => by unfold updT; exact I
  | T :: L, [], H, I, _, _, _ => by unfold updT; exact I
  | T :: L, r :: rows, H, I, nd, hn, ok => by
    rw [List.nodup_cons] at nd
    refine inv_trackL L rows (upd H T (.tup r)) (inv_track I ((hn T List.mem_cons_self).2 H (hn T List.mem_cons_self).1) (ok 0 T r rfl rfl)) nd.2 (fun T' h' => ⟨?_, (hn T' (List.mem_cons_of_mem _ h')).2⟩) fun j T' r' e1 e2 => ok (j + 1) T' r' (by simpa using e1) (by simpa using e2)
    rw [upd_ne (fun z : T' = T => nd.1 (by rw [← z]; exact h'))]; exact (hn T' (List.mem_cons_of_mem _ h')).1
theorem callWith_typeS {M : Model} {A : Around} {E : Value → Shared → Prop} {s : Shared} {env : Env} {T : String} {pos p : Pos} {e : Expr} {Q : Value → Shared → Prop}
    (h : wpAny M A (eval e env) (fun v s₁ => PySem.W.StarOf M A E v (fun vs s₂ => wpAny M A (call (.type T) vs) Q E s₂) s₁) E s) (he : starEach [.Starred e p] env = [(true, eval e env)]) :
    wpAny M A (callWith pos (.type T) [] (backTo pos (starEach [.Starred e p] env)) []) Q E s := by
  rw [he]
  refine PySem.W.ks_call (P := fun _ => True) rfl (fun _ _ => ⟨.machine, .inr (.inl rfl), PySem.W.Looks.of_pure rfl⟩) (PySem.W.ks_lone (wpAny_mono h (fun v s1 h1 => ?_) fun _ _ z => z))
  unfold PySem.W.StarOf at h1 ⊢
  exact wpAny_mono h1 (fun b s2 h2 => ⟨h2.1, wpAny_mono h2.2 (fun vs s3 h3 => ⟨trivial, by simpa using h3⟩) fun _ _ z => z⟩) fun _ _ z => z
/-- the rows of zip over one list or two -/
def zRows (K : PySem.W.Frag) (H : Hp) (a : Addr) (rows : List (List V)) : Prop :=
  (∃ l xs, (SqT K H a [.ref l] ∨ SqL K H a [.ref l]) ∧ SqL K H l xs ∧ rows = xs.map fun x => [x]) ∨
  ∃ l1 l2 xs ys, (SqT K H a [.ref l1, .ref l2] ∨ SqL K H a [.ref l1, .ref l2]) ∧ SqL K H l1 xs ∧ SqL K H l2 ys ∧ xs.length = ys.length ∧ rows = (xs.zip ys).map fun p => [p.1, p.2]
def tTupZipS (K : PySem.W.Frag) (te : TE) : TE := fun σ H Q => te σ H fun v H1 => ∃ a rows, v = .ref a ∧ zRows K H1 a rows ∧ ∀ (L : List Addr) (q : Addr), L.length = rows.length → L.Nodup → (∀ T ∈ L, H1 T = none) → updT H1 L rows q = none → Q (.ref q) (upd (updT H1 L rows) q (.tup (L.map V.ref)))
theorem vals_refs : ∀ L : List Addr, Vals (L.map V.ref) (L.map Value.ref)
  | [] => .nil
  | T :: L => .cons rfl (vals_refs L)
theorem tup_end {h' h'' : Heap} {L : List Addr} {rows : List (List V)} {Q : VK} {n : Nat} {Con : Nat → Array Value} {tk : Nat} (I : Inv X pins σ H s) (hL : L.length = n) (hn : n ≤ sizeLine) (g : GoodL (h'.objs.size + 1) Con h'' L) (hs : s.heap.objs.size ≤ h'.objs.size)
    (kp : ∀ b o, s.heap.get? b = some o → h''.get? b = some o) (hr : rows.length = n) (hc : ∀ (j : Nat) (r : List V), rows[j]? = some r → r.length ≤ sizeLine ∧ ∃ its : List Value, Vals r its ∧ Con j = its.toArray)
    (q : ∀ (L : List Addr) (q : Addr), L.length = rows.length → L.Nodup → (∀ T ∈ L, H T = none) → updT H L rows q = none → Q (.ref q) (upd (updT H L rows) q (.tup (L.map V.ref)))) :
    EP X pins σ Q (.ref h''.objs.size) { s with heap := h''.push { cls := .type "tuple", data := .seq (L.map Value.ref).toArray }, toks := tk } := by
  have I3 : Inv X pins σ H { s with heap := h'', toks := tk } := I.kept (t' := tk) kp
  have big : ∀ T ∈ L, s.heap.objs.size ≤ T := fun T hT => Nat.le_trans hs (Nat.le_trans (Nat.le_succ _) (g.ge T hT))
  have hnone : ∀ T ∈ L, H T = none := fun T hT => I.hok.fresh (big T hT)
  have I4 : Inv X pins σ (updT H L rows) { s with heap := h'', toks := tk } := inv_trackL L rows H I3 g.nd (fun T hT => ⟨hnone T hT, fun H' hn => I.fpOk (big T hT) hn⟩) fun j T r e1 e2 => by
    obtain ⟨h1, its, h2, h3⟩ := hc j r e2
    have := g.at_ j T e1
    rw [h3] at this
    exact ⟨h1, its, h2, _, this, rfl, _, rfl⟩
  refine ⟨.ref h''.objs.size, upd (updT H L rows) h''.objs.size (.tup (L.map V.ref)), I4.laid (t' := tk) (fun c o e => Heap.get?_push_of_some _ e) (Nat.le_refl _) (show ObjOk X.prog X.w _ _ _ (.tup (L.map V.ref)) from ⟨by rw [List.length_map, hL]; exact hn, L.map Value.ref, vals_refs L, IsTup.new _ _⟩), rfl,
    q L _ (hL.trans hr.symm) g.nd hnone (I4.hok.fresh (Nat.le_refl _))⟩
end
theorem ne_nat {a b : Nat} (h : a ≠ b) : (show Addr from a) ≠ (show Addr from b) := h
theorem apart1 (n l : Nat) (h : l < n) : ZipA1 (n + 3) (n + 1) (n + 2) n l := ⟨ne_nat (by omega), ne_nat (by omega), ne_nat (by omega), ne_nat (by omega), ne_nat (by omega), ne_nat (by omega), ne_nat (by omega), ne_nat (by omega), ne_nat (by omega)⟩
theorem lt3 {b n k : Nat} (hb : b ∈ ([n + 3, n + 2, n] : List Nat)) (hk : n + 4 ≤ k) : b < k := by
  simp only [List.mem_cons, List.not_mem_nil, or_false] at hb
  omega
theorem lt4 {b n k : Nat} (hb : b ∈ ([n + 4, n + 3, n, n + 1] : List Nat)) (hk : n + 5 ≤ k) : b < k := by
  simp only [List.mem_cons, List.not_mem_nil, or_false] at hb
  omega
theorem off3 {b n : Nat} (h : b < n) : b ∉ ([n + 3, n + 2, n] : List Nat) := fun hb => by
  simp only [List.mem_cons, List.not_mem_nil, or_false] at hb
  omega
theorem off4 {b n : Nat} (h : b < n) : b ∉ ([n + 4, n + 3, n, n + 1] : List Nat) := fun hb => by
  simp only [List.mem_cons, List.not_mem_nil, or_false] at hb
  omega
section
variable {X : Cx}
theorem pe_tupZipS {e : Expr} {te : TE} {p p2 p3 pos pos2 : Pos} (hc : X.calm = true) (hg : Gl X "tuple") (hm : X.mg "tuple" = none) (hg2 : Gl X "zip") (hm2 : X.mg "zip" = none) (he : PE X e te)
    (hs : starEach [.Starred e p3] X.env = [(true, eval e X.env)] := by rfl)
    (hs2 : starEach [.Call (.Name "zip" p2) [.Starred e p3] [] pos2] X.env = (false, eval (.Call (.Name "zip" p2) [.Starred e p3] [] pos2) X.env) :: starEach [] X.env := by rfl) :
    PE X (.Call (.Name "tuple" p) [.Call (.Name "zip" p2) [.Starred e p3] [] pos2] [] pos) (tTupZipS X.K te) := by
  refine ⟨fun pins s σ H Q I h => ?_⟩
  refine Call_ (ld_blt I hg hm boot_tuple (PyProof.Rows.callWith_type1 (args_cons (Call_ (ld_blt I hg2 hm2 PyProof.Rows.boot_zip (callWith_typeS (thn (he.run pins s σ H _ I h) fun u s1 ⟨v, H1, I1, r1, q1⟩ => ?_) hs))) hs2) hs2 rfl))
  obtain ⟨a, rows, ev, hz, q⟩ := q1
  subst ev
  obtain rfl : u = Value.ref a := r1
  rcases hz with ⟨l, xs, ha, hl, er⟩ | ⟨l1, l2, xs, ys, ha, hl1, hl2, hlen, er⟩
  · refine StX.star_any I1 ha fun us s2 I2 rv => ?_
    match us, rv with
    | [u1], .cons r1 .nil =>
      obtain rfl : u1 = Value.ref l := r1
      obtain ⟨its, rx, pl, hsz⟩ := I2.list hl
      have hlt : l < s2.heap.objs.size := pl.lt
      refine call_zip_1 pl.isList fun h' hzz hTI hTO hit hss hk => args_nil ?_
      have hd := I1.ok.hd hc
      have D : ZipA1 (s2.heap.objs.size + 3) (s2.heap.objs.size + 1) (s2.heap.objs.size + 2) s2.heap.objs.size l := apart1 _ _ hlt
      have hlx := rx.length
      refine call_tuple_zip (s := { s2 with heap := h' }) (zsrc1 (A := X.A.in1.in1.in1) (d := h'.objs.size) (show X.A.in1.in1.in1.handled = none from hd) D (ne_nat (by first | omega | (rw [hss]; omega))) (ne_nat (by first | omega | (rw [hss]; omega))) (ne_nat (by first | omega | (rw [hss]; omega))) (ne_nat (by first | omega | (rw [hss]; omega))) (ne_nat (Nat.ne_of_gt (by rw [hss]; exact Nat.lt_of_lt_of_le hlt (Nat.le_add_right _ _)))) its.toArray) (by rw [List.size_toArray, ← hlx]; exact hsz)
        ⟨hTI, hit, pl.isList.at fun o eo => hk _ _ eo, .inl ⟨hzz, _, hTO⟩⟩ (by show s2.heap.objs.size + 3 < h'.objs.size; omega) (fun b hb => ?_) fun h'' L hL g kp => ?_
      · exact lt3 hb (Nat.le_of_eq hss.symm)
      · refine tup_end (s := s2) (h' := h') (rows := rows) (n := its.toArray.size) (tk := s2.toks) I2 hL (by rw [List.size_toArray, ← hlx]; exact hsz) g (by show s2.heap.objs.size ≤ h'.objs.size; omega) (fun b o eo => kp b o (off3 (Heap.lt_size eo)) (hk b o eo)) (by rw [er, List.length_map, List.size_toArray]; exact hlx) (fun j r ej => ?_) q
        · rw [er, List.getElem?_map] at ej
          cases ex : xs[j]? with
          | none => rw [ex] at ej; cases ej
          | some x =>
            rw [ex] at ej
            cases ej
            obtain ⟨v, ev, rv⟩ := rx.get ex
            refine ⟨Nat.le_trans (by show 1 ≤ 1; omega) (by decide), [v], .cons rv .nil, ?_⟩
            simp [ev]
  · refine StX.star_any I1 ha fun us s2 I2 rv => ?_
    match us, rv with
    | [u1, u2], .cons r1 (.cons r2 .nil) =>
      obtain rfl : u1 = Value.ref l1 := r1
      obtain rfl : u2 = Value.ref l2 := r2
      obtain ⟨its, rx, pl, hsz⟩ := I2.list hl1
      obtain ⟨jts, ry, pl2, hsz2⟩ := I2.list hl2
      have hlt : l1 < s2.heap.objs.size := pl.lt
      have hlt2 : l2 < s2.heap.objs.size := pl2.lt
      refine call_zip_2 pl.isList pl2.isList fun h' hzz hTI hTO hit hit2 hss hk => args_nil ?_
      have hd := I1.ok.hd hc
      have D : ZipApart (s2.heap.objs.size + 4) (s2.heap.objs.size + 2) (s2.heap.objs.size + 3) s2.heap.objs.size (s2.heap.objs.size + 1) l1 l2 := PySem.W.ktu_apart _ _ _ hlt hlt2
      have hlx := rx.length
      have hly := ry.length
      have hmin : min its.toArray.size jts.toArray.size = xs.length := by rw [List.size_toArray, List.size_toArray, ← hlx, ← hly, ← hlen, Nat.min_self]
      refine call_tuple_zip (s := { s2 with heap := h' }) (zsrc2 (A := X.A.in1.in1.in1) (d := h'.objs.size) (show X.A.in1.in1.in1.handled = none from hd) D (ne_nat (by first | omega | (rw [hss]; omega))) (ne_nat (by first | omega | (rw [hss]; omega))) (ne_nat (by first | omega | (rw [hss]; omega))) (ne_nat (by first | omega | (rw [hss]; omega))) (ne_nat (by first | omega | (rw [hss]; omega))) (ne_nat (Nat.ne_of_gt (by rw [hss]; exact Nat.lt_of_lt_of_le hlt (Nat.le_add_right _ _)))) (ne_nat (Nat.ne_of_gt (by rw [hss]; exact Nat.lt_of_lt_of_le hlt2 (Nat.le_add_right _ _)))) its.toArray jts.toArray) (by rw [hmin]; exact hsz)
        ⟨hTI, hit, hit2, pl.isList.at fun o eo => hk _ _ eo, pl2.isList.at fun o eo => hk _ _ eo, .inl ⟨hzz, _, _, hTO⟩⟩ (by show s2.heap.objs.size + 4 < h'.objs.size; omega) (fun b hb => ?_) fun h'' L hL g kp => ?_
      · exact lt4 hb (Nat.le_of_eq hss.symm)
      · refine tup_end (s := s2) (h' := h') (rows := rows) (n := min its.toArray.size jts.toArray.size) (tk := s2.toks) I2 hL (by rw [hmin]; exact hsz) g (by show s2.heap.objs.size ≤ h'.objs.size; omega) (fun b o eo => kp b o (off4 (Heap.lt_size eo)) (hk b o eo)) (by rw [er, List.length_map, List.length_zip, hmin, ← hlen, Nat.min_self]) (fun j r ej => ?_) q
        · rw [er, List.getElem?_map] at ej
          cases ex : (xs.zip ys)[j]? with
          | none => rw [ex] at ej; cases ej
          | some xy =>
            rw [ex] at ej
            cases ej
            have e2 := List.getElem?_zip_eq_some.mp ex
            obtain ⟨v, ev, rv⟩ := rx.get e2.1
            obtain ⟨v2, ev2, rv2⟩ := ry.get e2.2
            refine ⟨Nat.le_trans (by show 2 ≤ 2; omega) (by decide), [v, v2], .cons rv (.cons rv2 .nil), ?_⟩
            simp [ev, ev2]
end
end PD
namespace PD
open PySem PySem.Spec PyProof.Rows L2
theorem repL_rows {K : PySem.W.Frag} {H : Hp} (L : List Addr) : ∀ (rows : List (List V)) (dss : List (List D)), L.length = rows.length → dss.length = rows.length →
    (∀ (j : Nat) (T : Addr) (r : List V) (ds : List D), L[j]? = some T → rows[j]? = some r → dss[j]? = some ds → H T = some (.tup r) ∧ RepL K H ds r) → RepL K H (dss.map D.tup) (L.map V.ref) := by
  induction L with
  | nil =>
    intro rows dss h1 h2 _
    rw [← h1] at h2
    rw [List.length_eq_zero_iff.mp h2]
    exact .nil
  | cons T L ih =>
    intro rows dss h1 h2 h
    cases rows with
    | nil => cases h1
    | cons r rows =>
      cases dss with
      | nil => cases h2
      | cons ds dss =>
        have h0 := h 0 T r ds rfl rfl rfl
        exact .cons (.tup h0.1 h0.2) (ih rows dss (Nat.succ.inj h1) (Nat.succ.inj h2) fun j T' r' ds' a b c => h (j + 1) T' r' ds' a b c)
def dTupZipS (de : DE) : DE := fun s m Q => de s m fun x m1 => (∃ d1 xs, seqOf m1 x = some [d1] ∧ lsq m1 d1 = some xs ∧ Q (.tup (xs.map fun x => .tup [x])) m1) ∨
  ∃ d1 d2 xs ys, seqOf m1 x = some [d1, d2] ∧ lsq m1 d1 = some xs ∧ lsq m1 d2 = some ys ∧ xs.length = ys.length ∧ Q (.tup ((xs.zip ys).map fun p => .tup [p.1, p.2])) m1
theorem tz_end {K : PySem.W.Frag} {H : Hp} {m : Mu} {rows : List (List V)} {dss : List (List D)} {Q : VK} {Qd : DK} (rm : RM K H m) (hl : dss.length = rows.length) (hr : ∀ (j : Nat) (r : List V) (ds : List D), rows[j]? = some r → dss[j]? = some ds → RepL K H ds r)
    (k : ∀ v H' dv m', TX H H' → RM K H' m' → Rep K H' dv v → Qd dv m' → Q v H') (h : Qd (.tup (dss.map D.tup)) m) :
    ∀ (L : List Addr) (q : Addr), L.length = rows.length → L.Nodup → (∀ T ∈ L, H T = none) → updT H L rows q = none → Q (.ref q) (upd (updT H L rows) q (.tup (L.map V.ref))) := fun L q e nd hn hq => by
  have t1 : TX H (updT H L rows) := updT_tx L rows H nd hn
  have t2 : TX H (upd (updT H L rows) q (.tup (L.map V.ref))) := t1.trans (.new hq)
  refine k _ _ _ m t2 ((updT_rm L rows H nd hn rm).skip hq) (.tup upd_same (repL_rows L rows dss e hl fun j T r ds a b c => ⟨?_, (hr j r ds b c).mono t2⟩)) h
  have e1 := updT_at L rows H j T r nd a b
  rw [upd_ne (ne_of_none e1 hq)]; exact e1
section
variable {X : Cx}
theorem ge_tupZipS {e : Expr} {de : DE} {p p2 p3 pos pos2 : Pos} (hc : X.calm = true) (hg : Gl X "tuple") (hm : X.mg "tuple" = none) (hg2 : Gl X "zip") (hm2 : X.mg "zip" = none) (he : GE X e de)
    (hs : starEach [.Starred e p3] X.env = [(true, eval e X.env)] := by rfl)
    (hs2 : starEach [.Call (.Name "zip" p2) [.Starred e p3] [] pos2] X.env = (false, eval (.Call (.Name "zip" p2) [.Starred e p3] [] pos2) X.env) :: starEach [] X.env := by rfl) :
    GE X (.Call (.Name "tuple" p) [.Call (.Name "zip" p2) [.Starred e p3] [] pos2] [] pos) (dTupZipS de) := by
  obtain ⟨te, pt, l⟩ := he.ex
  refine .of ⟨_, pe_tupZipS hc hg hm hg2 hm2 pt hs hs2, fun s H sd m Qd Q rs rm h k => ?_⟩
  refine l s H sd m _ _ rs rm h fun v H1 dv m1 t1 rm1 r1 h1 => ?_
  rcases h1 with ⟨d1, xs, e1, e2, h1⟩ | ⟨d1, d2, xs, ys, e1, e2, e3, hlen, h1⟩
  · obtain ⟨a, vs, rfl, hs, rl⟩ := seq_rep rm1 r1 e1
    obtain ⟨v1, rfl, rv⟩ := repL1 rl
    obtain ⟨b, xv, rfl, hb, rx⟩ := lsq_rep rm1 rv e2
    refine ⟨a, xv.map fun x => [x], rfl, .inl ⟨b, xv, hs.symm, hb, rfl⟩, ?_⟩
    refine tz_end (dss := xs.map fun x => [x]) rm1 (by rw [List.length_map, List.length_map, rx.length]) (fun j r ds a9 b9 => ?_) (fun v' H' dv' m' t a b c => k v' H' dv' m' (t1.trans t) a b c) ?_
    · rw [List.getElem?_map] at a9 b9
      cases ex : xs[j]? with
      | none => rw [ex] at b9; cases b9
      | some x =>
        obtain ⟨w, ew, rw_⟩ := rx.get ex
        rw [ex] at b9
        rw [ew] at a9
        cases a9
        cases b9
        exact .cons rw_ .nil
    · rw [List.map_map]; exact h1
  · obtain ⟨a, vs, rfl, hs, rl⟩ := seq_rep rm1 r1 e1
    obtain ⟨v1, v2, rfl, rv, rv2⟩ := repL2 rl
    obtain ⟨b, xv, rfl, hb, rx⟩ := lsq_rep rm1 rv e2
    obtain ⟨b2, yv, rfl, hb2, ry⟩ := lsq_rep rm1 rv2 e3
    refine ⟨a, (xv.zip yv).map fun p => [p.1, p.2], rfl, .inr ⟨b, b2, xv, yv, hs.symm, hb, hb2, by rw [← rx.length, ← ry.length]; exact hlen, rfl⟩, ?_⟩
    refine tz_end (dss := (xs.zip ys).map fun p => [p.1, p.2]) rm1 (by rw [List.length_map, List.length_map, List.length_zip, List.length_zip, rx.length, ry.length]) (fun j r ds a9 b9 => ?_) (fun v' H' dv' m' t a b c => k v' H' dv' m' (t1.trans t) a b c) ?_
    · rw [List.getElem?_map] at a9 b9
      cases ex : (xs.zip ys)[j]? with
      | none => rw [ex] at b9; cases b9
      | some x =>
        cases ey : (xv.zip yv)[j]? with
        | none => rw [ey] at a9; cases a9
        | some y =>
          have ex2 := List.getElem?_zip_eq_some.mp ex
          have ey2 := List.getElem?_zip_eq_some.mp ey
          obtain ⟨w, ew, rw1⟩ := rx.get ex2.1
          obtain ⟨w2, ew2, rw2⟩ := ry.get ex2.2
          rw [ex] at b9
          rw [ey] at a9
          cases a9
          cases b9
          rw [ey2.1] at ew
          rw [ey2.2] at ew2
          cases ew
          cases ew2
          exact .cons rw1 (.cons rw2 .nil)
    · rw [List.map_map]; exact h1
end
end PD
namespace PD
open PySem PySem.Spec PyProof.Rows L2
end PD
namespace Bk
open PySem PySem.Spec PyProof.Rows L2 PD
def wordsOf (pairs : List (Str × List (List Nat))) (n : Str) : List (List Nat) := (fnd pairs n).getD []
end Bk
namespace Bk
open PySem PySem.Spec PyProof.Rows L2 PD
inductive How | put | set | take
  deriving DecidableEq
def How.s : How → Str
  | .put => "put"
  | .set => "set"
  | .take => "take"
structure Edit where
  how : How
  r : Int
  a : Int
  s : List Nat
def Edit.d (e : Edit) : D := match e.how with
  | .take => .tup [.str "take", .int e.r, .int e.a]
  | h => .tup [.str h.s, .int e.r, .int e.a, .str (tx e.s)]
def rowsD (R : List (List Nat)) : D := .tup (R.map fun l => .str (tx l))
def rowAt (R : List (List Nat)) (r : Int) : List Nat := R.getD r.toNat []
def topOf (h : How) (l : List Nat) : Int := match h with
  | .put => l.length
  | _ => (l.length : Int) - 1
def PlOk (R : List (List Nat)) (h : How) (r a : Int) : Prop := (0 ≤ r ∧ r < R.length) ∧ 0 ≤ a ∧ a ≤ topOf h (rowAt R r)
instance (R : List (List Nat)) (h : How) (r a : Int) : Decidable (PlOk R h r a) := by unfold PlOk; infer_instance
def Edit.ins (e : Edit) : List Nat := match e.how with
  | .take => []
  | _ => e.s
def SgnOk (sg : List Nat) (e : Edit) : Prop := e.how = .take ∨ ∃ c ∈ sg, e.s = [c]
instance (sg : List Nat) (e : Edit) : Decidable (SgnOk sg e) := by unfold SgnOk; infer_instance
def pairI (p : Int × Int) : D := .tup [.int p.1, .int p.2]
def stD (S : List (Int × Int)) : D := .tup (S.map pairI)
theorem atI_map {α : Type} {f : α → D} {l : List α} {i : Nat} {a : α} (h : l[i]? = some a) : atI (l.map f) (i : Int) = some (f a) := atI_nat (by rw [List.getElem?_map, h]; rfl)
theorem inF_sE {n : Str} : ∀ {ns : List Str}, inF (.str n) (ns.map D.str) = decide (n ∈ ns)
  | [] => by unfold inF; rw [List.map_nil]; simp
  | x :: ns => by
    have ih := inF_sE (n := n) (ns := ns)
    unfold inF at ih ⊢
    rw [List.map_cons, List.any_cons, ih]
    by_cases h : x = n
    · subst h; simp [eqF]
    · have : eqF (.str x) (.str n) = false := by simp [eqF, h]
      rw [this, Bool.false_or]
      simp [Ne.symm h]
theorem inF_tx {l : List Nat} {ls : List (List Nat)} : inF (.str (tx l)) (ls.map fun l => D.str (tx l)) = decide (l ∈ ls) := by
  have : (ls.map fun l => D.str (tx l)) = (ls.map tx).map D.str := by rw [List.map_map]; rfl
  rw [this, inF_sE]
  congr 1
  rw [List.mem_map]
  exact propext ⟨fun ⟨a, ha, e⟩ => tx_inj e ▸ ha, fun h => ⟨l, h, rfl⟩⟩
theorem flat_tx {ls : List (List Nat)} : (ls.map fun l => D.str (tx l)).all flatD = true := by rw [List.all_map]; exact List.all_eq_true.mpr fun _ _ => rfl
theorem flat_sg {sg : List Nat} : (sg.map fun c => D.str (tx [c])).all flatD = true := by rw [List.all_map]; exact List.all_eq_true.mpr fun _ _ => rfl
theorem cut_to {α : Type} (xs : List α) (k : Nat) : PD.cutD xs none (some (k : Int)) = xs.take k := by
  unfold PD.cutD
  rw [HT.sIx_none, HT.sIx_nat, List.drop_zero, Nat.sub_zero]
  by_cases h : k ≤ xs.length
  · rw [Nat.min_eq_left h]
  · rw [Nat.min_eq_right (by omega), List.take_length, List.take_of_length_le (by omega)]
end Bk
namespace Bk
open PySem PySem.Spec PyProof.Rows L2 PD
abbrev Tx := List Nat
abbrev Dr := List (Option (List Tx))
def ptD : Option (List Tx) → D
  | none => .non
  | some ts => wordsD ts
def drD (d : Dr) : D := .tup (d.map ptD)
def fitB (sg l t : Tx) : Bool := match t with
  | [c] => decide (c ∈ (if l = [] then sg else l))
  | _ => false
def mfit (sg : Tx) (m : Mark) (t : Tx) : Bool := match m with
  | .sign l => fitB sg l t
  | _ => true
def pfit (sg : Tx) (q : Piece) (o : Option (List Tx)) : Bool := match q, o with
  | .plain ms, some ts => (ms.zip ts).all fun p => mfit sg p.1 p.2
  | _, _ => true
def lhold (sg : Tx) (ps : List Piece) (d : Dr) : Bool := (ps.zip d).all fun q => pfit sg q.1 q.2
def txAt (d : Dr) (r : Ref) : Tx := match d[r.1]? with
  | some (some ts) => ts.getD r.2 []
  | _ => []
/-- texts of marks: those at signs are the row's -/
inductive WearM : List Mark → List Tx → List Tx → Prop
  | nil : WearM [] [] []
  | sign {l t : Tx} {ms : List Mark} {r ts : List Tx} : WearM ms r ts → WearM (ms ++ [.sign l]) (r ++ [t]) (ts ++ [t])
  | other {k : Mark} {t : Tx} {ms : List Mark} {r ts : List Tx} : k.w ≠ .sign → WearM ms r ts → WearM (ms ++ [k]) r (ts ++ [t])
inductive Wear : List Piece → List Tx → Dr → Prop
  | nil : Wear [] [] []
  | lot {n : Str} {ps : List Piece} {r : List Tx} {d : Dr} : Wear ps r d → Wear (ps ++ [.lot n]) r (d ++ [none])
  | plain {ms : List Mark} {ts r1 : List Tx} {ps : List Piece} {r : List Tx} {d : Dr} : Wear ps r d → WearM ms r1 ts → Wear (ps ++ [.plain ms]) (r ++ r1) (d ++ [some ts])
def sgOf (ms : List Mark) : List Tx := ms.filterMap fun m => match m with | .sign l => some l | _ => none
def lets (ps : List Piece) : List Tx := ps.flatMap lettersOf
theorem refsTo_app {S : MW → Bool} {ks : List Knd} {k : Knd} : refsTo S (ks ++ [k]) = refsTo S ks ++ (match k with | none => [] | some ws => refsOf ks.length S ws) := by
  unfold refsTo
  rw [List.zipIdx_append, List.flatMap_append]
  congr 1
  simp only [List.zipIdx_cons, List.zipIdx_nil, List.flatMap_cons, List.flatMap_nil, List.append_nil, Nat.zero_add]
  all_goals (cases k <;> rfl)
theorem refsOf_app {i : Nat} {S : MW → Bool} {ws : List MW} {w : MW} : refsOf i S (ws ++ [w]) = refsOf i S ws ++ (if S w = true then [(i, ws.length)] else []) := by
  unfold refsOf
  rw [List.zipIdx_append, List.filter_append, List.map_append]
  congr 1
  simp only [List.zipIdx_cons, List.zipIdx_nil, List.filter_cons, List.filter_nil, Nat.zero_add]
  cases S w <;> rfl
theorem sgOf_app {ms : List Mark} {k : Mark} : sgOf (ms ++ [k]) = sgOf ms ++ (match k with | .sign l => [l] | _ => []) := by
  unfold sgOf
  rw [List.filterMap_append]
  congr 1
  cases k <;> rfl
theorem lets_app {ps : List Piece} {q : Piece} : lets (ps ++ [q]) = lets ps ++ lettersOf q := by
  unfold lets; rw [List.flatMap_append, List.flatMap_singleton]
theorem WearM.len {ms : List Mark} {r ts : List Tx} (h : WearM ms r ts) : ts.length = ms.length ∧ r.length = (sgOf ms).length ∧ ∀ i : Nat, (refsOf i isSg (ms.map Mark.w)).length = r.length := by
  induction h with
  | nil => exact ⟨rfl, rfl, fun _ => rfl⟩
  | sign _ ih =>
    refine ⟨by simp [ih.1], by rw [sgOf_app]; simp [ih.2.1], fun i => ?_⟩
    rw [List.map_append, List.map_singleton, refsOf_app, List.length_append, ih.2.2]
    simp [Mark.w]
  | @other k _ _ _ _ hk _ ih =>
    refine ⟨by simp [ih.1], ?_, fun i => ?_⟩
    · rw [sgOf_app]
      cases k with
      | sign l => exact absurd rfl hk
      | none => simpa using ih.2.1
      | run _ _ => simpa using ih.2.1
    · rw [List.map_append, List.map_singleton, refsOf_app, List.length_append, ih.2.2]
      cases k with
      | sign l => exact absurd rfl hk
      | none => simp [Mark.w]
      | run _ _ => simp [Mark.w]
theorem Wear.len {ps : List Piece} {r : List Tx} {d : Dr} (h : Wear ps r d) : d.length = ps.length ∧ r.length = (lets ps).length ∧ (refsTo isSg (ps.map Piece.k)).length = r.length := by
  induction h with
  | nil => exact ⟨rfl, rfl, rfl⟩
  | lot _ ih =>
    refine ⟨by simp [ih.1], by rw [lets_app]; simpa [lettersOf] using ih.2.1, ?_⟩
    rw [List.map_append, List.map_singleton, refsTo_app]
    simpa [Piece.k] using ih.2.2
  | @plain ms _ r1 _ _ _ _ hm ih =>
    have hl := hm.len
    refine ⟨by simp [ih.1], ?_, ?_⟩
    · rw [lets_app, List.length_append, List.length_append, ih.2.1, hl.2.1]; rfl
    · rw [List.map_append, List.map_singleton, refsTo_app, List.length_append, List.length_append, ih.2.2]
      show _ + (refsOf _ isSg (ms.map Mark.w)).length = _
      rw [hl.2.2]
theorem zip_app {α β : Type} {a b : List α} {c d : List β} (h : a.length = c.length) : (a ++ b).zip (c ++ d) = a.zip c ++ b.zip d := List.zip_append h
theorem WearM.fit {sg : Tx} {ms : List Mark} {r ts : List Tx} (h : WearM ms r ts) : ((ms.zip ts).all fun p => mfit sg p.1 p.2) = ((sgOf ms).zip r).all fun q => fitB sg q.1 q.2 := by
  induction h with
  | nil => rfl
  | sign h ih =>
    have hl := h.len
    rw [zip_app hl.1.symm, List.all_append, ih, sgOf_app, zip_app hl.2.1.symm, List.all_append]
    rfl
  | @other k _ _ _ _ hk h ih =>
    have hl := h.len
    rw [zip_app hl.1.symm, List.all_append, ih, sgOf_app]
    cases k with
    | sign l => exact absurd rfl hk
    | none => simp [mfit]
    | run _ _ => simp [mfit]
theorem Wear.fit {sg : Tx} {ps : List Piece} {r : List Tx} {d : Dr} (h : Wear ps r d) : lhold sg ps d = ((lets ps).zip r).all fun q => fitB sg q.1 q.2 := by
  unfold lhold
  induction h with
  | nil => rfl
  | lot h ih =>
    rw [zip_app h.len.1.symm, List.all_append, ih, lets_app]
    simp [lettersOf, pfit]
  | plain h hm ih =>
    rw [zip_app h.len.1.symm, List.all_append, ih, lets_app, zip_app h.len.2.1.symm, List.all_append]
    congr 1
    show ([(_, _)] : List (Piece × Option (List Tx))).all _ = _
    rw [List.all_cons, List.all_nil, Bool.and_true]
    exact hm.fit
theorem WearM.at {ms : List Mark} {r ts : List Tx} (h : WearM ms r ts) {i : Nat} : ∀ {j : Nat} {ref : Ref}, (refsOf i isSg (ms.map Mark.w))[j]? = some ref → ref.1 = i ∧ ∃ t, ts[ref.2]? = some t ∧ r[j]? = some t := by
  induction h with
  | nil => intro j ref e; simp [refsOf] at e
  | @sign l t ms r ts h ih =>
    intro j ref e
    have hl := h.len
    rw [List.map_append, List.map_singleton, refsOf_app, List.getElem?_append] at e
    split at e
    · rename_i hj
      obtain ⟨e1, t', e2, e3⟩ := ih e
      refine ⟨e1, t', ?_, ?_⟩
      · rw [List.getElem?_append_left (List.getElem?_eq_some_iff.mp e2).1]; exact e2
      · rw [List.getElem?_append_left (List.getElem?_eq_some_iff.mp e3).1]; exact e3
    · rename_i hj
      rw [hl.2.2] at e hj
      rw [if_pos (show isSg (Mark.sign l).w = true from rfl)] at e
      have hz : j - r.length = 0 := by
        have := (List.getElem?_eq_some_iff.mp e).1
        simp only [List.length_singleton] at this
        omega
      rw [hz] at e
      cases e
      refine ⟨rfl, t, ?_, ?_⟩
      · show (ts ++ [t])[(ms.map Mark.w).length]? = _
        rw [List.length_map, ← hl.1, List.getElem?_append_right (Nat.le_refl _), Nat.sub_self]; rfl
      · rw [List.getElem?_append_right (by omega), hz]; rfl
  | @other k t ms r ts hk h ih =>
    intro j ref e
    rw [List.map_append, List.map_singleton, refsOf_app, if_neg (by cases k <;> first | exact absurd rfl hk | exact (show ¬ ((MW.none == MW.sign) = true) by decide) | exact (show ¬ ((MW.run == MW.sign) = true) by decide)), List.append_nil] at e
    obtain ⟨e1, t', e2, e3⟩ := ih e
    refine ⟨e1, t', ?_, e3⟩
    rw [List.getElem?_append_left (List.getElem?_eq_some_iff.mp e2).1]; exact e2
theorem Wear.at {ps : List Piece} {r : List Tx} {d : Dr} (h : Wear ps r d) : ∀ {j : Nat} {ref : Ref}, (refsTo isSg (ps.map Piece.k))[j]? = some ref → ref.1 < d.length ∧ r[j]? = some (txAt d ref) ∧ ∃ ts t, d[ref.1]? = some (some ts) ∧ ts[ref.2]? = some t ∧ txAt d ref = t := by
  induction h with
  | nil => intro j ref e; simp [refsTo] at e
  | @lot n ps r d h ih =>
    intro j ref e
    rw [List.map_append, List.map_singleton, refsTo_app] at e
    have e : (refsTo isSg (ps.map Piece.k))[j]? = some ref := by simpa [Piece.k] using e
    obtain ⟨e1, e2, ts, t, e3, e4, e5⟩ := ih e
    have ex : txAt (d ++ [none]) ref = txAt d ref := by unfold txAt; rw [List.getElem?_append_left e1]
    exact ⟨by rw [List.length_append]; omega, by rw [ex]; exact e2, ts, t, by rw [List.getElem?_append_left e1]; exact e3, e4, by rw [ex]; exact e5⟩
  | @plain ms ts r1 ps r d h hm ih =>
    intro j ref e
    have hl := h.len
    rw [List.map_append, List.map_singleton, refsTo_app, List.getElem?_append] at e
    split at e
    · rename_i hj
      obtain ⟨e1, e2, ts', t, e3, e4, e5⟩ := ih e
      have ex : txAt (d ++ [some ts]) ref = txAt d ref := by unfold txAt; rw [List.getElem?_append_left e1]
      refine ⟨by rw [List.length_append]; omega, ?_, ts', t, by rw [List.getElem?_append_left e1]; exact e3, e4, by rw [ex]; exact e5⟩
      rw [ex, List.getElem?_append_left (by rw [← hl.2.2]; exact hj)]; exact e2
    · rename_i hj
      rw [hl.2.2] at e hj
      obtain ⟨e1, t, e2, e3⟩ := hm.at e
      have ed : (d ++ [some ts])[ref.1]? = some (some ts) := by rw [e1, List.length_map, ← hl.1, List.getElem?_append_right (Nat.le_refl _), Nat.sub_self]; rfl
      have et : txAt (d ++ [some ts]) ref = t := by unfold txAt; rw [ed]; show ts.getD ref.2 [] = t; rw [List.getD_eq_getElem?_getD, e2]; rfl
      refine ⟨by rw [e1, List.length_append, List.length_map, hl.1, List.length_singleton]; omega, ?_, ts, t, ed, e2, et⟩
      rw [List.getElem?_append_right (by omega), et]
      exact e3
theorem WearM.mem {ms : List Mark} {r ts : List Tx} (h : WearM ms r ts) : ∀ t ∈ r, t ∈ ts := by
  induction h with
  | nil => exact fun _ h => h
  | sign _ ih =>
    intro t ht
    rcases List.mem_append.mp ht with h | h
    · exact List.mem_append_left _ (ih t h)
    · exact List.mem_append_right _ h
  | other _ _ ih => exact fun t ht => List.mem_append_left _ (ih t ht)
theorem Wear.mem {ps : List Piece} {r : List Tx} {d : Dr} (h : Wear ps r d) {t : Tx} (ht : t ∈ r) : ∃ ts, some ts ∈ d ∧ t ∈ ts := by
  induction h with
  | nil => cases ht
  | lot _ ih => obtain ⟨ts, h1, h2⟩ := ih ht; exact ⟨ts, List.mem_append_left _ h1, h2⟩
  | @plain ms ts r1 ps r d _ hm ih =>
    rcases List.mem_append.mp ht with h | h
    · obtain ⟨ts, h1, h2⟩ := ih h; exact ⟨ts, List.mem_append_left _ h1, h2⟩
    · exact ⟨ts, List.mem_append_right _ (List.mem_singleton.mpr rfl), hm.mem t h⟩
theorem dLen_seq {m : Mu} {x : D} {es : List D} {Q : DK} (e : seqOf m x = some es) (h : Q (.int es.length) m) : dLen [x] m Q := by
  cases x with
  | str _ => cases e
  | _ => exact ⟨es, e, h⟩
theorem dIx_seq {m : Mu} {x d : D} {i : Int} {es : List D} {Q : DK} (e : seqOf m x = some es) (h : atI es i = some d) (hQ : Q d m) : dIx x (.int i) m Q := by
  cases x with
  | str _ => cases e
  | _ => exact ⟨es, e, d, h, hQ⟩
theorem take_succ' {α : Type} {l : List α} {i : Nat} {a : α} (h : l[i]? = some a) : l.take (i + 1) = l.take i ++ [a] := by
  rw [List.take_succ, h]; rfl
def pal : Int → List Nat → List (Int × Int)
  | _, [] => []
  | s, w :: ws => (s, s + w) :: pal (s + w) ws
theorem pal_len : ∀ (ws : List Nat) (s : Int), (pal s ws).length = ws.length
  | [], _ => rfl
  | w :: ws, s => by show (pal (s + w) ws).length + 1 = _; rw [pal_len ws]; rfl
theorem pal_app {w : Nat} : ∀ (a : List Nat) (s : Int), pal s (a ++ [w]) = pal s a ++ [(s + ((a.sum : Nat) : Int), s + ((a.sum : Nat) : Int) + w)]
  | [], s => by simp [pal]
  | v :: a, s => by
    show (s, s + v) :: pal (s + v) (a ++ [w]) = (s, s + v) :: pal (s + v) a ++ _
    rw [pal_app a, List.sum_cons, List.cons_append]
    congr 3
    · rw [Int.natCast_add]; congr 1 <;> omega
theorem pal_get : ∀ (ws : List Nat) (s : Int) (i : Nat), i < ws.length → (pal s ws)[i]? = some (s + (((ws.take i).sum : Nat) : Int), s + (((ws.take (i + 1)).sum : Nat) : Int))
  | [], _, _, h => by cases h
  | w :: ws, s, 0, _ => by simp [pal]
  | w :: ws, s, i + 1, h => by
    show (pal (s + w) ws)[i]? = _
    rw [pal_get ws (s + w) i (Nat.lt_of_succ_lt_succ h), List.take_succ_cons, List.take_succ_cons, List.sum_cons, List.sum_cons, Int.natCast_add, Int.natCast_add]
    congr 2 <;> omega
def pst : List Int → List (List Nat) → List (List (Int × Int))
  | [a], [c] => (pal a c).map fun p => [p]
  | [a, b], [c, d] => ((pal a c).zip (pal b d)).map fun p => [p.1, p.2]
  | _, _ => []
def cutsD (cs : List (List Nat)) : D := .tup (cs.map fun c => .tup (c.map fun (w : Nat) => .int (w : Int)))
def txIn (R : List Tx) (S : List (Int × Int)) : List Tx := (R.zip S).map fun q => (q.1.drop q.2.1.toNat).take (q.2.2 - q.2.1).toNat
theorem cutS_ab {l : List Nat} {a b : Nat} (hab : a ≤ b) (hb : b ≤ l.length) : cutS (tx l) (some (a : Int)) (some (b : Int)) = tx ((l.drop a).take (b - a)) := by
  unfold cutS
  rw [HT.sIx_nat, HT.sIx_nat, tx_len]
  unfold tx
  congr 2
  show List.take (min b l.length - min a l.length) (List.drop (min a l.length) l) = _
  rw [show min a l.length = a by omega, show min b l.length = b by omega]
theorem zipD_map {α β : Type} (f : α → D) (g : β → D) (xs : List α) (ys : List β) : zipD (xs.map f) (ys.map g) = (xs.zip ys).map fun p => .tup [f p.1, g p.2] := by
  unfold zipD
  rw [List.zip_map, List.map_map]
  rfl
def S3 (S : List Nat) : Prop := S = [97, 98] ∨ S = [98, 97] ∨ S = [98, 99, 97]
theorem S3.len {S : List Nat} (h : S3 S) : 2 ≤ S.length ∧ S.length ≤ 3 := by rcases h with rfl | rfl | rfl <;> decide
def MkO (S : List Nat) (k : Mark) : Prop := match k with
  | .sign l => (∀ c ∈ l, c ∈ S) ∧ l.length ≤ 3
  | _ => True
/-- every sign of the row is one of its choices -/
inductive InCh : List (List Nat) → List Nat → Prop
  | nil : InCh [] []
  | cons {chs : List (List Nat)} {r ch : List Nat} {c : Nat} : c ∈ ch → InCh chs r → InCh (ch :: chs) (c :: r)
theorem InCh.len {chs : List (List Nat)} {r : List Nat} (h : InCh chs r) : r.length = chs.length := by
  induction h with
  | nil => rfl
  | cons _ _ ih => simp [ih]
def fstIx : List Ref → Ref → Nat
  | [], _ => 0
  | x :: l, r => if x = r then 0 else fstIx l r + 1
def okT (prs : List (Str × List (List Nat))) (refs : List Ref) (row : List Nat) (t : Test) : Bool := decide ([row.getD (fstIx refs t.a) 0] ++ [row.getD (fstIx refs t.b) 0] ∈ wordsOf prs t.nm)
end Bk
namespace PD
open PySem PySem.Spec PyProof.Rows L2
structure FnAt (P : Program) (w : World) (K : PySem.W.Frag) (mg : Str → Option Value) (base : Heap) (A : Around) (f : Addr) (fd : FuncData) (ps : List Str) (sp : Sp) : Prop where
  ln : ∀ vs H Q E, sp vs H Q E → vs.length = ps.length
  go : ∀ (outer : List Env) (s : Shared) (H : Hp) (args : Args) (us : List Value) (vs : List V) (Q : VK) (E : XK), Env0 P w K mg base A outer s H → BindsTo s fd args (ps.zip us) → Vals vs us → sp vs H Q E →
    codeAny (model P w) A (.call (.ref f) args) (CR CX0 outer P w H s Q E) s
section
variable {P : Program} {w : World} {K : PySem.W.Frag} {mg : Str → Option Value} {base : Heap}
theorem fnOk_of {k : Nat} {f : Addr} {fd : FuncData} {ps : List Str} {sp : Sp} (ln : ∀ vs H Q E, sp vs H Q E → vs.length = ps.length) (h : ∀ A, Room k A → FnAt P w K mg base A f fd ps sp) : FnOk P w K mg base CX0 k f fd ps sp :=
  ⟨ln, fun A outer s H args us vs Q E hr => (h A hr).go outer s H args us vs Q E⟩
/-- the def's body, read at one depth -/
theorem fn_at {A : Around} {x qual : Str} {st : Stmt} {f : Addr} {fd : FuncData} {N ps : List Str} {sd : SpD} {d : DS} (F : Fun K x qual st f fd) (S : FnScope N ps (defScope st)) (h0 : A.handled = none) (h1 : A.depth < recursionLimit)
    (hb : ∀ (cdv : Value) (outer : List Env) (s : Shared) (H : Hp) (E : XK), GSs (cxOf CX0 P w K mg base N qual (defScope st) f cdv A outer s H E).nox (defBody st) d)
    (hd : ∀ ds m Qd, sd ds m Qd → d (endsOf Qd) (startD N ds) m) : FnAt P w K mg base A f fd ps (spL K ps.length sd) := by
  obtain ⟨oc0, od0, kV, doc, pm, an, cdv, ct, sl0, rfl, lk, hcd⟩ := F.ex
  have ln : ∀ vs H Q E, spL K ps.length sd vs H Q E → vs.length = ps.length := fun vs H Q E ⟨ds, m, Qd, r, rm, q, _⟩ => by rw [← r.length]; exact q.1
  refine ⟨ln, fun outer s H args us vs Q E env bnd rv hs => ?_⟩
  have hlen := ln _ _ _ _ hs
  have inK : K.In s.heap := env.mod.kin.keeps fun b o z => (env.bs b o z).1
  have hlim : s.heap.NoLimit := env.mod.nolimit.keeps fun b o z => (env.bs b o z).1
  have kinds : ∀ y ∈ ps.zip us, (defScope st).names.lookup y.1 = some .local ∨ ((defScope st).names.lookup y.1 = some .cell ∧ ((cellsFrom (s.heap.objs.size + 1) (defScope st).names []).lookup y.1).isSome = true) := by
    rintro ⟨n, v⟩ hy
    have hn := S.par n (List.of_mem_zip hy).1
    cases hn with
    | inl z => exact Or.inl z
    | inr z => exact Or.inr ⟨z, PySem.W.cellsFrom_some _ _ _ (Or.inl z)⟩
  refine codeAny_call_function h1 (inK _ _ lk) rfl S.co S.gen rfl (PySem.W.codeRec_of inK hcd) (bnd _ _ _ _ ?_)
  refine wpAny_newFunctionEnv_cells S.kind kinds fun ev ee s1 cc => ?_
  subst ee
  refine ⟨hlim.keeps cc.toInCall.keep, codeAny_func ?_⟩
  obtain ⟨ds, m, Qd, r, rm, ⟨_, hsd⟩, kq⟩ := hs
  obtain ⟨t, p, l⟩ := (hb cdv outer s H E).ex
  have body : t { nx := fun _ H' => Q .non H', rt := Q } (L2.start N vs) H := by
    refine l (L2.start N vs) H (startD N ds) m (endsOf Qd) _ (rs_start r) rm (hd ds m Qd hsd) ?_ ?_ ?_ ?_
    · exact fun s' H' sd' m' t' rs' rm' ⟨m'', sb, q⟩ => kq .non H' .non m'' t' (rm'.sub sb) .non q
    · exact fun v H' dv m' t' rm' rv ⟨m'', sb, q⟩ => kq v H' dv m'' t' (rm'.sub sb) rv q
    · exact fun _ _ _ _ _ _ _ z => z.elim
    · exact fun _ _ _ _ _ _ _ z => z.elim
  have I : Inv (cxOf CX0 P w K mg base N qual (defScope st) f cdv A outer s H E) [] (L2.start N vs) H s1 := inv_start S h0 env hlen rv cc
  have leave : ∀ {τ : L2.St} {H' : Hp} {v : V} {u : Value} {s2 : Shared}, Inv (cxOf CX0 P w K mg base N qual (defScope st) f cdv A outer s H E) [] τ H' s2 → RelV v u → Q v H' → CE outer P w H s Q u s2 :=
    fun {τ H' v u s2} J rv q => ⟨v, H', J.os, J.bare, J.base, J.hok, rv, q⟩
  refine wpAny_mono (p.nox.run [] s1 (L2.start N vs) H _ I body) (fun fl s2 z => ?_) (fun e s2 z => z)
  cases fl with
  | ret u => obtain ⟨v, τ, H', J, rv, q⟩ := z; exact leave J rv q
  | next => obtain ⟨τ, H', J, q⟩ := z; exact leave (v := V.non) (u := Value.none) J rfl q
  | brk => obtain ⟨_, _, _, q⟩ := z; exact q.elim
  | cont => obtain ⟨_, _, _, q⟩ := z; exact q.elim
end
section
variable {X : Cx}
theorem go_at {f : Addr} {fd : FuncData} {ps : List Str} {sp : Sp} {pz : List (Addr × Obj)} {τ : L2.St} {H : Hp} {s : Shared} {Q : VK} {us : List Value} {vs : List V} (F : FnAt X.prog X.w X.K X.mg X.base X.A f fd ps sp) (hb : Binds X.K fd ps []) (I : Inv X pz τ H s) (r : Vals vs us) (h : sp vs H Q E0) :
    wpAny (model X.prog X.w) X.A (call (.ref f) us) (EP X pz τ Q) X.xe s := by
  have hl : (us ++ []).length = ps.length := by rw [List.append_nil, ← r.length]; exact F.ln _ _ _ _ h
  have bn := hb s us I.kIn hl
  rw [List.append_nil] at bn
  refine wpAny_call (codeAny_mono (F.go X.stack s H ⟨us, []⟩ us vs Q E0 I.env0 bn r h) fun z s2 hz => ?_)
  cases z with
  | error e => exact hz.elim
  | ok fl => cases fl with
    | ret u => exact I.after hz
    | next => exact hz.elim
    | brk => exact hz.elim
    | cont => exact hz.elim
theorem ge_callAt {n : Nat} {f : Addr} {fd : FuncData} {ps : List Str} {sd : SpD} {x : Str} {p pos : Pos} {e : Expr} {es : List Expr} {da : DA} (F : FnAt X.prog X.w X.K X.mg X.base X.A f fd ps (spL X.K n sd)) (hg : Gl X x) (hm : X.mg x = some (.ref f)) (hk : PySem.W.keepIn X.K (.ref f) = true) (hb : Binds X.K fd ps [])
    (ha : GA X (e :: es) da) (hdb : (x == ("__debug__" : Str)) = false := by decide) (he : starEach (e :: es) X.env = (false, eval e X.env) :: starEach es X.env := by rfl) (hpl : (backTo pos (starEach es X.env)).any (·.1) = false := by rfl) :
    GE X (.Call (.Name x p) (e :: es) [] pos) (dCall n sd da) := by
  obtain ⟨ta, q, l⟩ := ha.ex
  have pe : PE X (.Call (.Name x p) (e :: es) [] pos) (fun σ H Q => ta σ H fun vs H1 => spL X.K n sd vs H1 Q E0) := by
    refine ⟨fun pz s τ H Q I h => ?_⟩
    refine wpAny_Call_Name_kw (ld_glob (x := x) I hg hm ?_ hdb)
    refine PySem.W.callWith_K (h₀ := X.base) I.ok.mod.kin hk (thn (q.run pos pz s τ H _ I h) fun us s1 ⟨vs, H1, I1, r, z⟩ => ⟨I1.kIn, ?_⟩) he hpl
    exact go_at F hb I1 r z
  refine .of ⟨_, pe, fun s H sd' m Qd Q rs rm h k => ?_⟩
  refine l s H sd' m _ _ rs rm h fun vs H1 ds m1 t1 rm1 r1 h1 => ?_
  exact ⟨ds, m1, Qd, r1, rm1, h1, fun v' H' dv' m' t' a b c => k v' H' dv' m' (t1.trans t') a b c⟩
end
end PD
namespace PD
open PySem PySem.Spec PyProof.Rows L2 RZ
def zv1 (h : Heap) (l : Addr) : Heap := h.push { cls := .type "tuple_iterator", data := .fields #[.ref l, .int 0 0] }
def zv2 (h : Heap) (l t : Addr) : Heap := (zv1 h l).push { cls := .type "list_iterator", data := .fields #[.ref t, .int 0 0] }
def zv3 (h : Heap) (l t : Addr) : Heap := (zv2 h l t).push { cls := .type "tuple", data := .seq #[.ref h.objs.size, .ref (zv1 h l).objs.size] }
def zv4 (h : Heap) (l t : Addr) : Heap := (zv3 h l t).push { cls := .type "tuple", data := .seq #[.none, .none] }
def zv5 (h : Heap) (l t : Addr) : Heap := (zv4 h l t).push { cls := .type "zip", data := .fields #[.none, .bool false, .bool false, .ref (zv2 h l t).objs.size, .ref (zv3 h l t).objs.size] }
theorem meets_zipV (l t : Addr) (xs ys : Array Value) : Meets (Builtin.«zip.__new__» ⟨[.type "zip", .ref l, .ref t], []⟩) (fun _ R s => s.heap.IsTuple l xs ∧ s.heap.IsList t ys ∧ R (.ok (.ret (.ref (zv4 s.heap l t).objs.size))) { s with heap := zv5 s.heap l t }) :=
  .of_wp fun prog w A R s h => by
    obtain ⟨hp, g, d, tk, os⟩ := s
    obtain ⟨isL, isT, h⟩ := h
    have sub := sub_zip
    have isL1 : Heap.IsTuple (Shared.heap ⟨hp, g, d, tk, os⟩) l xs := isL
    have isT1 : Heap.IsList (Shared.heap ⟨hp.push { cls := .type "tuple_iterator", data := .fields #[.ref l, .int 0 0] }, g, d, tk, os⟩) t ys := Heap.IsList.push isT _
    wp_walk using wpAny_pyIter_tuple isL1, wpAny_pyIter_list isT1
    exact ⟨_, rfl, h⟩
theorem zv_sizes (h : Heap) (l t : Addr) : (zv1 h l).objs.size = h.objs.size + 1 ∧ (zv2 h l t).objs.size = h.objs.size + 2 ∧ (zv3 h l t).objs.size = h.objs.size + 3 ∧ (zv4 h l t).objs.size = h.objs.size + 4 ∧ (zv5 h l t).objs.size = h.objs.size + 5 := by
  have q1 : (zv1 h l).objs.size = h.objs.size + 1 := Heap.size_push ..
  have q2 : (zv2 h l t).objs.size = h.objs.size + 2 := by unfold zv2; rw [Heap.size_push, q1]
  have q3 : (zv3 h l t).objs.size = h.objs.size + 3 := by unfold zv3; rw [Heap.size_push, q2]
  have q4 : (zv4 h l t).objs.size = h.objs.size + 4 := by unfold zv4; rw [Heap.size_push, q3]
  exact ⟨q1, q2, q3, q4, by unfold zv5; rw [Heap.size_push, q4]⟩
theorem call_zipV {prog : Program} {w : World} {A : Around} {E : Value → Shared → Prop} {s : Shared} {l t : Addr} {xs ys : Array Value} {Q : Value → Shared → Prop} (isL : s.heap.IsTuple l xs) (isT : s.heap.IsList t ys)
    (h : ∀ h', (∀ c o, s.heap.get? c = some o → h'.get? c = some o) → ZAt wkT wkL (s.heap.objs.size + 4) (s.heap.objs.size + 2) (s.heap.objs.size + 3) s.heap.objs.size (s.heap.objs.size + 1) l t 0 0 xs ys .none .none h' → Q (.ref (s.heap.objs.size + 4)) { s with heap := h' }) :
    wpAny (model prog w) A (call (.type "zip") [.ref l, .ref t]) Q E s := by
  refine callType_new F.called_zip (by decide) (F.typeCall_zip_2 _ _) (F.newCall_zip_2 _ _) (fun obj => F.args_object_init_3 obj _ _) F.entry_zip_new (meets_zipV l t xs ys) ⟨isL, isT, ?_⟩
  obtain ⟨q1, q2, q3, q4, q5⟩ := zv_sizes s.heap l t
  have up5 : ∀ {c : Addr} {o : Obj}, (zv4 s.heap l t).get? c = some o → (zv5 s.heap l t).get? c = some o := fun e => Heap.get?_push_of_some _ e
  have up4 : ∀ {c : Addr} {o : Obj}, (zv3 s.heap l t).get? c = some o → (zv5 s.heap l t).get? c = some o := fun e => up5 (Heap.get?_push_of_some _ e)
  have up3 : ∀ {c : Addr} {o : Obj}, (zv2 s.heap l t).get? c = some o → (zv5 s.heap l t).get? c = some o := fun e => up4 (Heap.get?_push_of_some _ e)
  have up2 : ∀ {c : Addr} {o : Obj}, (zv1 s.heap l).get? c = some o → (zv5 s.heap l t).get? c = some o := fun e => up3 (Heap.get?_push_of_some _ e)
  have up1 : ∀ {c : Addr} {o : Obj}, s.heap.get? c = some o → (zv5 s.heap l t).get? c = some o := fun e => up2 (Heap.get?_push_of_some _ e)
  have o5 : (zv5 s.heap l t).get? (zv4 s.heap l t).objs.size = some _ := Heap.get?_push_size _ rfl
  have o4 : (zv5 s.heap l t).get? (zv3 s.heap l t).objs.size = some _ := up5 (Heap.get?_push_size _ rfl)
  have o3 : (zv5 s.heap l t).get? (zv2 s.heap l t).objs.size = some _ := up4 (Heap.get?_push_size _ rfl)
  have o2 : (zv5 s.heap l t).get? (zv1 s.heap l).objs.size = some _ := up3 (Heap.get?_push_size _ rfl)
  have o1 : (zv5 s.heap l t).get? s.heap.objs.size = some _ := up2 (Heap.get?_push_size _ rfl)
  rw [q4, q2, q3] at o5
  rw [q3] at o4
  rw [q2, q1] at o3
  rw [q1] at o2
  show _ ∧ _
  rw [q4]
  obtain ⟨ol, el, cl⟩ := id isL
  obtain ⟨ot, et, ct⟩ := id isT
  exact ⟨⟨_, o5, rfl⟩, h _ (fun c o e => up1 e) ⟨o5, o3, o4, ⟨_, o1, rfl, rfl⟩, ⟨_, o2, rfl, rfl⟩, ⟨ol, up1 el, cl⟩, ⟨ot, up1 et, ct⟩⟩⟩
/-- the list at a and the tuple at b -/
def ItzV (K : PySem.W.Frag) (a b : Addr) : It :=
  ⟨fun i H => ∃ (xs ys : List V) (x y : V), SqT K H a xs ∧ SqL K H b ys ∧ xs[i]? = some x ∧ ys[i]? = some y,
    fun i H v H' => ∃ T x y, v = .ref T ∧ H T = none ∧ H' = upd H T (.tup [x, y]) ∧ (∀ xs, SqT K H a xs → xs[i]? = some x) ∧ ∀ ys, SqL K H b ys → ys[i]? = some y,
    fun i H => ∃ xs ys : List V, SqT K H a xs ∧ SqL K H b ys ∧ (xs.length ≤ i ∨ ys.length ≤ i)⟩
theorem turn_zipV {P : Program} {w : World} {K : PySem.W.Frag} {elts : List Expr} {kk : Nat} {tpos : Pos} {a b z TI TO i1 i2 : Addr} (D : ZipApart z TI TO i1 i2 a b) :
    Turn P w K (.Tuple elts kk tpos) (ItzV K a b) (zfp z TI TO i1 i2) z (fun i h => IsZip h z TI TO .none ∧ IsPair h TI (.ref i1) (.ref i2) ∧ (∃ x y, IsPair h TO x y) ∧ h.IsTupleIter i1 a i ∧ h.IsListIter i2 b i) where
  mem := by unfold zfp; simp
  obj := fun i h ⟨pz, pi, ⟨x, y, po⟩, p1, p2⟩ c hc => by
    obtain ⟨o1, f1, g1, d1⟩ := wkT.flds p1
    obtain ⟨o2, f2, g2, d2⟩ := wkL.flds p2
    rcases mem_zfp hc with q | q | q | q | q <;> subst q
    · exact ⟨_, pz, fun v q => nomatch q⟩
    · exact ⟨_, pi, fun v q => nomatch q⟩
    · exact ⟨_, po, fun v q => nomatch q⟩
    · exact ⟨o1, g1, fun v q => by rw [d1] at q; cases q⟩
    · exact ⟨o2, g2, fun v q => by rw [d2] at q; cases q⟩
  keep := fun i h h' ⟨pz, pi, ⟨x, y, po⟩, p1, p2⟩ stay => by
    have on : ∀ c, c = z ∨ c = TI ∨ c = TO ∨ c = i1 ∨ c = i2 → ∀ o, h.get? c = some o → h'.get? c = some o := fun c hc => stay c (by unfold zfp; simpa using hc)
    exact ⟨on z (by simp) _ pz, on TI (by simp) _ pi, ⟨x, y, on TO (by simp) _ po⟩, wkT.same p1 (on i1 (by simp)), wkL.same p2 (on i2 (by simp))⟩
  item := by
    rintro X rfl rfl rfl hc i pz s τ H E I hf ⟨Zz, Zi, ⟨x0, y0, Zo⟩, Z1, Z2⟩ ⟨xs, ys, x, y, qx, qy, hx, hy⟩
    obtain ⟨us, ru, pu, _⟩ := I.tuple qx
    obtain ⟨vs, rv, pv, _⟩ := I.list qy
    obtain ⟨u, hu, wu⟩ := ru.get hx
    obtain ⟨v, hv, wv⟩ := rv.get hy
    have lz : z < s.heap.objs.size := Heap.lt_size Zz
    refine nextW_item (j := wkT) (k := wkL) (x := u) (y := v) D ⟨Zz, Zi, Zo, Z1, Z2, pu, pv.isList⟩ (by simpa using hu) (by simpa using hv) fun h' nz no n1 n2 nT ns far => ?_
    refine ⟨_, rfl, wpAny_letOwnedTupleGo_zip (s := { s with heap := h' }) nz fun h2 nz2 sb => ?_⟩
    have pT : h2.get? s.heap.objs.size = some { cls := .type "tuple", data := .seq #[u, v] } := (sb.2 _ (Nat.ne_of_gt lz)).trans nT
    have okT : ObjOk X.prog X.w (upd H s.heap.objs.size (.tup [x, y])) h2 s.heap.objs.size (.tup [x, y]) := ⟨by show 2 ≤ sizeLine; decide, [u, v], .cons wu (.cons wv .nil), _, pT, rfl, _, rfl⟩
    have out : ∀ c o, c ∉ zfp z TI TO i1 i2 → s.heap.get? c = some o → h2.get? c = some o := fun c o hn e => by
      have ne : ∀ d, d = z ∨ d = TI ∨ d = TO ∨ d = i1 ∨ d = i2 → c ≠ d := fun d hd q => hn (by subst q; unfold zfp; simpa using hd)
      exact (sb.2 c (ne z (by simp))).trans (far c o (ne z (by simp)) (ne TO (by simp)) (ne i1 (by simp)) (ne i2 (by simp)) e)
    have I2 := I.turnedNew (t' := s.toks) (ch := zfp z TI TO i1 i2) (fun c o hb q => out c o hb q) hf (Nat.le_refl _) okT
    refine ⟨.ref s.heap.objs.size, _, I2, rfl, ⟨_, x, y, rfl, I.hok.fresh (Nat.le_refl _), rfl, fun l hl => ?_, fun l hl => ?_⟩, ⟨nz2, (sb.2 _ D.TIz).trans (far _ _ D.TIz D.TITO D.TIi1 D.TIi2 Zi), ⟨u, v, (sb.2 _ D.TOz).trans no⟩, ?_, ?_⟩, fun c hcm => ?_⟩
    · rw [I.tuple_inj hl qx]; exact hx
    · rw [I.list_inj hl qy]; exact hy
    · exact wkT.same n1 fun o q => (sb.2 _ D.i1z).trans q
    · exact wkL.same n2 fun o q => (sb.2 _ D.i2z).trans q
    · obtain ⟨o1, f1, g1, _⟩ := wkT.flds Z1
      obtain ⟨o2, f2, g2, _⟩ := wkL.flds Z2
      have hlt : c < s.heap.objs.size := by
        rcases mem_zfp hcm with q | q | q | q | q <;> subst q
        · exact lz
        · exact Heap.lt_size Zi
        · exact Heap.lt_size Zo
        · exact Heap.lt_size g1
        · exact Heap.lt_size g2
      rw [upd_ne (Nat.ne_of_lt hlt)]
      exact (hf c hcm).1
  done := by
    rintro X rfl rfl rfl hc i pz s τ H E I hf ⟨Zz, Zi, ⟨x0, y0, Zo⟩, Z1, Z2⟩ ⟨xs, ys, qx, qy, hend⟩
    obtain ⟨us, ru, pu, _⟩ := I.tuple qx
    obtain ⟨vs, rv, pv, _⟩ := I.list qy
    have c1 := ru.length
    have c2 := rv.length
    refine nextW_stop (j := wkT) (k := wkL) (xs := us.toArray) (ys := vs.toArray) (I.ok.hd hc) D ⟨Zz, Zi, Zo, Z1, Z2, pu, pv.isList⟩ (hend.imp (fun q => ?_) fun q => ?_) fun h' far => ⟨rfl, ?_⟩
    · rw [List.getElem?_toArray]; exact List.getElem?_eq_none (by omega)
    · rw [List.getElem?_toArray]; exact List.getElem?_eq_none (by omega)
    · refine I.turnedL (t' := s.toks) (ch := zfp z TI TO i1 i2) (fun c o hn e => ?_) hf
      have ne : ∀ d, d = z ∨ d = TI ∨ d = TO ∨ d = i1 ∨ d = i2 → c ≠ d := fun d hd q => hn (by subst q; unfold zfp; simpa using hd)
      exact far c o (ne z (by simp)) (ne TO (by simp)) (ne i1 (by simp)) (ne i2 (by simp)) e
  self := fun A i s Q E st h => wpAny_pyIter_zip st.1 h
def iZipV (K : PySem.W.Frag) (ta : TA) : TI := fun τ H R => ta τ H fun vs H1 => ∃ a b xs ys, vs = [.ref a, .ref b] ∧ SqT K H1 a xs ∧ SqL K H1 b ys ∧ R (ItzV K a b) H1
theorem pi_zipV {X : Cx} {e e2 : Expr} {ta : TA} {p pos tpos : Pos} {elts : List Expr} {kk : Nat} (hg : Gl X "zip") (hm : X.mg "zip" = none) (ha : PA X [e, e2] ta)
    (hs : starEach [e, e2] X.env = (false, eval e X.env) :: starEach [e2] X.env := by rfl) (hpl : (backTo pos (starEach [e2] X.env)).any (·.1) = false := by rfl) :
    PI X (.Tuple elts kk tpos) (.Call (.Name "zip" p) [e, e2] [] pos) (iZipV X.K ta) := by
  refine ⟨fun pz s τ H R I h => ?_⟩
  refine Call_ (ld_blt I hg hm PyProof.Rows.boot_zip (PyProof.Rows.callWith_type1 (thn (ha.run pos pz s τ H _ I h) fun us sA ⟨vs, HA, IA, rA, a, b, xs, ys, ex, qx, qy, q⟩ => ?_) hs hpl))
  subst ex
  obtain ⟨u, v, rfl, ru, rv⟩ := vals2 rA
  cases ru
  cases rv
  obtain ⟨its, _, pl, _⟩ := IA.tuple qx
  obtain ⟨jts, _, pt, _⟩ := IA.list qy
  obtain ⟨ot, et, _⟩ := id pl
  refine call_zipV pl pt.isList fun h' stay Z => wpAny_pyIter_zip Z.hz ?_
  have IB : Inv X pz τ HA { sA with heap := h' } := IA.kept (t' := sA.toks) stay
  refine ⟨sA.heap.objs.size + 4, zfp (sA.heap.objs.size + 4) (sA.heap.objs.size + 2) (sA.heap.objs.size + 3) sA.heap.objs.size (sA.heap.objs.size + 1), _, _, HA, rfl, IB, turn_zipV (PySem.W.ktu_apart sA.heap.objs.size a b (Heap.lt_size et) pt.lt), ⟨Z.hz, Z.ti, ⟨_, _, Z.to⟩, Z.t1, Z.t2⟩, fun c hcm => ?_, q⟩
  have le : sA.heap.objs.size ≤ c := by
    rcases mem_zfp hcm with q | q | q | q | q <;> subst q
    · exact Nat.le_add_right _ 4
    · exact Nat.le_add_right _ 2
    · exact Nat.le_add_right _ 3
    · exact Nat.le_refl _
    · exact Nat.le_add_right _ 1
  exact IA.fpOk le (IA.hok.fresh le)
/-- zip(tuple, list) -/
def dIZipV (a : DA) : DI := fun s m R => a s m fun ds m1 => ∃ x xs ys, ds = [.tup ys, x] ∧ lsq m1 x = some xs ∧ R (zipD ys xs) (fun m' => lsq m' x = some xs) m1
theorem gi_zipV {X : Cx} {e e2 : Expr} {p pos tpos : Pos} {elts : List Expr} {kk : Nat} {da : DA} (hg : Gl X "zip") (hm : X.mg "zip" = none) (ha : GA X [e, e2] da)
    (hs : starEach [e, e2] X.env = (false, eval e X.env) :: starEach [e2] X.env := by rfl) (hpl : (backTo pos (starEach [e2] X.env)).any (·.1) = false := by rfl) :
    GIE X (.Tuple elts kk tpos) (.Call (.Name "zip" p) [e, e2] [] pos) (dIZipV da) := by
  obtain ⟨ta, q, l⟩ := ha.ex
  refine ⟨_, pi_zipV hg hm q hs hpl, fun s H sd m Rd R rs rm h k => ?_⟩
  refine l s H sd m _ _ rs rm h fun vs H1 ds m1 t1 rm1 r1 ⟨x, xs, ys, ed, e1, q1⟩ => ?_
  subst ed
  obtain ⟨u, v, rfl, ru, rv⟩ := repL2 r1
  obtain ⟨a, us, rfl, sl, r⟩ := lsq_rep rm1 rv e1
  cases ru with
  | @tup _ b ws sb rb =>
    refine ⟨b, a, ws, us, rfl, sb, sl, k _ H1 _ (fun m' => lsq m' x = some xs) m1 t1 rm1 ⟨fun i H' m' t' rm' st hi => ?_, fun i H' z H2 m' t' rm' st hi hy => ?_, fun i H' m' t' rm' st hi => ?_⟩ q1⟩
    · rw [zipD_len] at hi
      obtain ⟨a', us', ea, sl', r'⟩ := lsq_rep rm' (rv.mono t') st
      cases ea
      have c1 := r'.length
      have c2 := rb.length
      exact ⟨ws, us', ws[i]'(by omega), us'[i]'(by omega), t'.sqT sb, sl', List.getElem?_eq_getElem _, List.getElem?_eq_getElem _⟩
    · obtain ⟨T, x1, y1, rfl, hT, rfl, f, g⟩ := hy
      obtain ⟨a', us', ea, sl', r'⟩ := lsq_rep rm' (rv.mono t') st
      cases ea
      obtain ⟨d, e, q1⟩ := r'.getV (g _ sl')
      obtain ⟨d2, e2, q2⟩ := rb.getV (f _ (t'.sqT sb))
      exact zip_item rm' hT e2 e (q2.mono t') q1
    · rw [zipD_len] at hi
      obtain ⟨a', us', ea, sl', r'⟩ := lsq_rep rm' (rv.mono t') st
      cases ea
      have c1 := r'.length
      have c2 := rb.length
      exact ⟨ws, us', t'.sqT sb, sl', by omega⟩
end PD
namespace Bk
open PySem PySem.Spec PyProof.Rows L2 PD
def tcut (n line : Nat) (fr : Bool) : Nat → List (List Nat)
  | 0 => List.replicate n [0]
  | t + 1 => (List.range n).map fun i => if i = line then (if fr = true then [1, t] else [t, 1]) else [0, 0]
def twy : Nat → Int
  | 0 => 1
  | _ + 1 => 0
def tnode (n line : Nat) (fr : Bool) : Nat → D
  | 0 => .tup [.str "s", .int 1, cutsD (tcut n line fr 0), .tup []]
  | t + 1 => .tup [.str "s", .int 0, cutsD (tcut n line fr (t + 1)), .tup [tnode n line fr t]]
def tkid (n line : Nat) (fr : Bool) : Nat → List D
  | 0 => []
  | t + 1 => [tnode n line fr t]
theorem tnode_eq {n line : Nat} {fr : Bool} (t : Nat) : tnode n line fr t = .tup [.str "s", .int (twy t), cutsD (tcut n line fr t), .tup (tkid n line fr t)] := by cases t <;> rfl
def tspan (n line : Nat) (fr : Bool) (M A t : Nat) : List (Int × Int) := (List.range n).map fun i => if i = line then (if fr = true then ((A : Int) + M - t, (A : Int) + M) else ((A : Int), (A : Int) + t)) else (0, 0)
def tmarks (n line c : Nat) : List Mark := (List.range n).map fun i => if i = line then Mark.sign [c] else .none
def tway (n line : Nat) (fr : Bool) (c : Nat) : Nat → Way
  | 0 => ⟨"glue", [.plain (List.replicate n .none)], []⟩
  | _ + 1 => ⟨"f", if fr = true then [.plain (tmarks n line c), .lot "s"] else [.lot "s", .plain (tmarks n line c)], []⟩
/-- where the sign of node t + 1 stands -/
def tpos (fr : Bool) (M A t : Nat) : Nat := if fr = true then A + M - (t + 1) else A + t
def tone (n line p : Nat) : List (Int × Int) := (List.range n).map fun i => if i = line then ((p : Int), (p : Int) + 1) else (0, 0)
def tpl (n line : Nat) (fr : Bool) (M A : Nat) : Nat → List (List (Int × Int))
  | 0 => [tspan n line fr M A 0]
  | t + 1 => if fr = true then [tone n line (tpos fr M A t), tspan n line fr M A t] else [tspan n line fr M A t, tone n line (tpos fr M A t)]
def NL (n line : Nat) : Prop := (n = 1 ∧ line = 0) ∨ (n = 2 ∧ line = 0) ∨ (n = 2 ∧ line = 1)
theorem tpst {n line : Nat} {fr : Bool} {M A : Nat} (hn : NL n line) : ∀ {t : Nat}, t ≤ M → pst ((tspan n line fr M A t).map (·.1)) (tcut n line fr t) = tpl n line fr M A t
  | 0, _ => by
    rcases hn with ⟨rfl, rfl⟩ | ⟨rfl, rfl⟩ | ⟨rfl, rfl⟩ <;> cases fr <;> simp [tspan, tcut, tpl, pst, pal, List.range_succ, List.replicate]
  | t + 1, ht => by
    rcases hn with ⟨rfl, rfl⟩ | ⟨rfl, rfl⟩ | ⟨rfl, rfl⟩ <;> cases fr <;> simp [tspan, tcut, tpl, pst, pal, tone, tpos, List.range_succ] <;> omega
theorem tspan_len {n line : Nat} {fr : Bool} {M A t : Nat} : (tspan n line fr M A t).length = n := by unfold tspan; rw [List.length_map, List.length_range]
theorem tcut_len {n line : Nat} {fr : Bool} : ∀ {t : Nat}, (tcut n line fr t).length = n
  | 0 => List.length_replicate
  | t + 1 => by show ((List.range n).map _).length = n; rw [List.length_map, List.length_range]
theorem NL.two {n line : Nat} (h : NL n line) : (n = 1 ∨ n = 2) ∧ line < n := by rcases h with ⟨rfl, rfl⟩ | ⟨rfl, rfl⟩ | ⟨rfl, rfl⟩ <;> decide
theorem tcut_ps {n line : Nat} {fr : Bool} {c : Nat} : ∀ {t : Nat}, ∀ x ∈ tcut n line fr t, x.length = (tway n line fr c t).ps.length
  | 0, x, hx => by rw [List.eq_of_mem_replicate hx]; rfl
  | t + 1, x, hx => by
    obtain ⟨i, _, rfl⟩ := List.mem_map.mp hx
    have : (tway n line fr c (t + 1)).ps.length = 2 := by unfold tway; cases fr <;> rfl
    rw [this]
    split
    · split <;> rfl
    · rfl
theorem tcut_sum {n line : Nat} {fr : Bool} {M A : Nat} (hn : NL n line) : ∀ {t : Nat}, t ≤ M → (tcut n line fr t).map (fun c => ((c.sum : Nat) : Int)) = (tspan n line fr M A t).map fun p => p.2 - p.1
  | 0, _ => by
    rcases hn with ⟨rfl, rfl⟩ | ⟨rfl, rfl⟩ | ⟨rfl, rfl⟩ <;> cases fr <;> simp [tspan, tcut, List.range_succ, List.replicate]
  | t + 1, ht => by
    rcases hn with ⟨rfl, rfl⟩ | ⟨rfl, rfl⟩ | ⟨rfl, rfl⟩ <;> cases fr <;> simp [tspan, tcut, List.range_succ] <;> omega
def trow (n line : Nat) (x : Tx) : List Tx := (List.range n).map fun i => if i = line then x else []
theorem trow_len {n line : Nat} {x : Tx} : (trow n line x).length = n := by unfold trow; rw [List.length_map, List.length_range]
def ttext (c e M A : Nat) : Tx := List.replicate A e ++ List.replicate M c ++ List.replicate 2 e
theorem ttext_len {c e M A : Nat} : (ttext c e M A).length = A + M + 2 := by unfold ttext; simp; omega
theorem ttext_at {c e M A i : Nat} (h1 : A ≤ i) (h2 : i < A + M) : (ttext c e M A)[i]? = some c := by
  unfold ttext
  rw [List.getElem?_append_left (by simp; omega), List.getElem?_append_right (by simp; omega), List.getElem?_replicate, if_pos (by simp; omega)]
def tzer (h : Nat) : D := .tup (List.replicate h (.int 0))
end Bk
namespace PD
open PySem PySem.Spec PyProof.Rows L2
/-- not at all: a new tuple without items -/
theorem tupMul_none (p : Addr) (its : Array Value) (v : Nat) (dct : Option Addr) (slts : Array (Option Value)) (k : Int) (u : Tok) (r1 : (decide (k < -(2 ^ 63)) || decide (k ≥ 2 ^ 63)) = false) (r2 : (its.isEmpty || k == 1) = false) (r3 : (decide (k ≤ 0) || its.isEmpty) = true) :
    Meets (Builtin.«tuple.__mul__» ⟨[.ref p, .int k u], []⟩) (fun _ R s => s.heap.get? p = some ⟨.type "tuple", dct, .seq its v, slts⟩ ∧
      R (.ok (.ret (.ref s.heap.objs.size))) { s with heap := s.heap.push { cls := .type "tuple", data := .seq #[] }, toks := s.toks }) :=
  .of_wp fun prg ww AA RR st hh => by
    obtain ⟨hp, gs, ds, tk, os⟩ := st
    obtain ⟨at0, hh⟩ := hh
    have fx := AutoSeq1.idx_int
    wp_walk using wpAny_loadPart' at0
    repeat (first
      | (refine wpAny_ite_false (decide_eq_false (by rw [r1]; decide)) ?_; wp_walk using wpAny_loadPart' at0)
      | (refine wpAny_ite_false (decide_eq_false (by rw [r2]; decide)) ?_; wp_walk using wpAny_loadPart' at0)
      | (refine wpAny_ite_true (decide_eq_true (by rw [r3])) ?_; wp_walk using wpAny_loadPart' at0))
    exact ⟨_, rfl, hh⟩
/-- once: the tuple itself -/
theorem tupMul_same (p : Addr) (its : Array Value) (v : Nat) (dct : Option Addr) (slts : Array (Option Value)) (u : Tok) :
    Meets (Builtin.«tuple.__mul__» ⟨[.ref p, .int 1 u], []⟩) (fun _ R s => s.heap.get? p = some ⟨.type "tuple", dct, .seq its v, slts⟩ ∧ R (.ok (.ret (.ref p))) s) :=
  .of_wp fun prg ww AA RR st hh => by
    obtain ⟨hp, gs, ds, tk, os⟩ := st
    obtain ⟨at0, hh⟩ := hh
    have fx := AutoSeq1.idx_int
    wp_walk using wpAny_loadPart' at0
    repeat (first
      | (refine wpAny_ite_false (decide_eq_false (by decide)) ?_; wp_walk using wpAny_loadPart' at0)
      | (refine wpAny_ite_true (decide_eq_true (by rw [show ((1 : Int) == 1) = true from rfl, Bool.or_true])) ?_; wp_walk using wpAny_loadPart' at0))
    exact ⟨_, rfl, hh⟩
def rFewT (K : PySem.W.Frag) : R2 := fun x y H Q => ∃ l k xs, x = .ref l ∧ y = .int k ∧ SqT K H l xs ∧ xs ≠ [] ∧ -1000 ≤ k ∧ k ≤ 1 ∧ (k = 1 → Q (.ref l) H) ∧ (k ≤ 0 → ∀ p, H p = none → Q (.ref p) (upd H p (.tup [])))
section
variable {X : Cx}
theorem op_fewT : OpR X (binaryOp .Mult) (rFewT X.K) := by
  intro pn sh sg H x y v u Q I rx ry h
  obtain ⟨l, k, xs, rfl, rfl, sq, ne, k0, k1, q1, q0⟩ := h
  cases rx
  obtain ⟨t, rfl⟩ := ry
  obtain ⟨vals, r, ⟨⟨cls, dd, data, sl⟩, ho, hc, n, hd⟩, hs⟩ := I.tuple sq
  simp only at hc hd
  subst hc hd
  have len : vals.length = xs.length := r.length.symm
  have em : vals.toArray.isEmpty = false := by
    cases vals with
    | nil => exact absurd (List.eq_nil_of_length_eq_zero len.symm) ne
    | cons a b => rfl
  refine wpAny_binaryOp_repeat_ref (T := "tuple") (U := "int") (by decide) ⟨_, ho, rfl⟩ (fun sx => typeIs_int sx k t) noFill_tuple_mul F.fills_int_mul F.slot_int_rmul repeat_tuple F.slot_int_index.lookup
    (call_meets F.slot_int_rmul (typeIs_int sh k t) F.entry_int_rmul (F.args_int_rmul_2 _ _) (int_rmul_tuple k t l vals.toArray n dd sl)
      ⟨ho, rfl, ⟨_, ho, rfl⟩, ?_⟩)
  by_cases e : k = 1
  · subst e
    exact call_meets F.slot_tuple_mul ⟨_, ho, rfl⟩ F.entry_tuple_mul (F.args_tuple_mul_2 _ _) (tupMul_same l vals.toArray n dd sl t) ⟨ho, .ref l, H, I, rfl, q1 rfl⟩
  · have r1 : (decide (k < -(2 ^ 63)) || decide (k ≥ 2 ^ 63)) = false := by
      rw [decide_eq_false (by omega), decide_eq_false (by omega)]; rfl
    have r2 : (vals.toArray.isEmpty || k == 1) = false := by
      rw [em, Bool.false_or]; exact beq_eq_false_iff_ne.mpr e
    have r3 : (decide (k ≤ 0) || vals.toArray.isEmpty) = true := by
      rw [decide_eq_true (by omega)]; rfl
    refine call_meets F.slot_tuple_mul ⟨_, ho, rfl⟩ F.entry_tuple_mul (F.args_tuple_mul_2 _ _) (tupMul_none l vals.toArray n dd sl k t r1 r2 r3) ⟨ho, ?_⟩
    refine ⟨.ref sh.heap.objs.size, _, I.laid (t' := sh.toks) (o := .tup []) (fun b ob q => Heap.get?_push_of_some _ q) (Nat.le_refl _) ?_, rfl, q0 (by omega) _ (I.hok.fresh (Nat.le_refl _))⟩
    exact ⟨by decide, _, .nil, IsTup.new _ _⟩
end
def dMulT : D2 := fun x y m Q => match x, y with
  | .tup xs, .int n => xs ≠ [] ∧ -1000 ≤ n ∧ n ≤ 1000 ∧ xs.length ≤ 1000 ∧ Q (.tup (List.replicate n.toNat xs).flatten) m
  | x, y => dMulL x y m Q
def rMulT (K : PySem.W.Frag) : R2 := fun x y H Q => (rMulL x y H Q ∨ rRepT K x y H Q) ∨ rFewT K x y H Q
theorem op_mulT {X : Cx} : OpR X (binaryOp .Mult) (rMulT X.K) := (op_mulL.or op_repT).or op_fewT
theorem lr_mulT {K : PySem.W.Frag} : LR K (rMulT K) dMulT := fun x y H dx dy m Qd Q rm rx ry h k => by
  cases rx with
  | @tup ds a vs sa ra =>
    cases ry with
    | int n =>
      obtain ⟨ne, h1, h2, h3, h4⟩ := h
      have nv : vs ≠ [] := fun e => ne (ra.nil_iff.mpr e)
      by_cases hn : 2 ≤ n
      · exact .inl (.inr ⟨a, n, vs, rfl, rfl, sa, nv, hn, h2, by rw [← ra.length]; exact h3, fun p hp => k _ _ _ m (.new hp) (rm.skip hp) (.tup upd_same ((ra.repl n.toNat).mono (.new hp))) h4⟩)
      · refine .inr ⟨a, n, vs, rfl, rfl, sa, nv, h1, by omega, fun e => ?_, fun e p hp => ?_⟩
        · subst e
          rw [show (List.replicate (Int.toNat 1) ds).flatten = ds by show [ds].flatten = ds; simp] at h4
          exact k _ H _ m (.refl H) rm (.tup sa ra) h4
        · rw [show n.toNat = 0 by omega] at h4
          exact k _ _ _ m (.new hp) (rm.skip hp) (.tup upd_same .nil) h4
    | _ => exact h.elim
  | int i => exact .inl (.inl (lr_mulL _ _ H _ _ m Qd Q rm (.int i) ry h k))
  | str i => exact .inl (.inl (lr_mulL _ _ H _ _ m Qd Q rm (.str i) ry h k))
  | ref a => exact .inl (.inl (lr_mulL _ _ H _ _ m Qd Q rm (.ref a) ry h k))
  | _ => exact h.elim
end PD
namespace PD
open PySem PySem.Spec PyProof.Rows L2
section
variable {xs : List D} {n i j : Int} {z : Str} {m : Mu} {Q : DK}
theorem dMulT_t : dMulT (.tup xs) (.int n) m Q = (xs ≠ [] ∧ -1000 ≤ n ∧ n ≤ 1000 ∧ xs.length ≤ 1000 ∧ Q (.tup (List.replicate n.toNat xs).flatten) m) := rfl
theorem dMulT_i : dMulT (.int i) (.int j) m Q = (CMul i j ∧ Q (.int (i * j)) m) := rfl
theorem dMulT_s : dMulT (.str z) (.int j) m Q = (0 ≤ j ∧ j ≤ 1000 ∧ z.length ≤ 1000 ∧ Q (.str (repS z j.toNat)) m) := rfl
end
end PD
namespace K24
open PySem PySem.Spec PyProof.Rows L2 PD Bk
abbrev N_whole_of : List Str := ["lengths", "length"]
theorem sc_whole_of : FnScope N_whole_of ["lengths"] (defScope s_whole_of) := ⟨rfl, rfl, rfl, by decide +kernel, rfl, by decide +kernel, by decide +kernel⟩
abbrev N_widths_of : List Str := ["stretch", "start", "end"]
theorem sc_widths_of : FnScope N_widths_of ["stretch"] (defScope s_widths_of) := ⟨rfl, rfl, rfl, by decide +kernel, rfl, by decide +kernel, by decide +kernel⟩
abbrev N_piece_stretches : List Str := ["stretch", "cut", "by_rows", "pair", "widths"]
theorem sc_piece_stretches : FnScope N_piece_stretches ["stretch", "cut"] (defScope s_piece_stretches) := ⟨rfl, rfl, rfl, by decide +kernel, rfl, by decide +kernel, by decide +kernel⟩
abbrev N_texts_in : List Str := ["rows", "stretch", "row", "start", "end"]
theorem sc_texts_in : FnScope N_texts_in ["rows", "stretch"] (defScope s_texts_in) := ⟨rfl, rfl, rfl, by decide +kernel, rfl, by decide +kernel, by decide +kernel⟩
abbrev N_parts_due : List Str := ["way", "stretch", "cut", "places", "piece", "place"]
theorem sc_parts_due : FnScope N_parts_due ["way", "stretch", "cut"] (defScope s_parts_due) := ⟨rfl, rfl, rfl, by decide +kernel, rfl, by decide +kernel, by decide +kernel⟩
abbrev N__pairs_along : List Str := ["start", "widths", "pairs", "end", "width"]
theorem sc__pairs_along : FnScope N__pairs_along ["start", "widths"] (defScope s__pairs_along) := ⟨rfl, rfl, rfl, by decide +kernel, rfl, by decide +kernel, by decide +kernel⟩
abbrev N_dress_of : List Str := ["rows", "way", "stretch", "cut", "places", "piece", "place"]
theorem sc_dress_of : FnScope N_dress_of ["rows", "way", "stretch", "cut"] (defScope s_dress_of) := ⟨rfl, rfl, rfl, by decide +kernel, rfl, by decide +kernel, by decide +kernel⟩
abbrev N_letters_hold : List Str := ["book", "way", "dress", "piece", "texts", "fitting", "mark", "text"]
theorem sc_letters_hold : FnScope N_letters_hold ["book", "way", "dress"] (defScope s_letters_hold) := ⟨rfl, rfl, rfl, by decide +kernel, rfl, by decide +kernel, by decide +kernel⟩
abbrev N_tests_hold : List Str := ["book", "way", "dress", "name", "one", "other"]
theorem sc_tests_hold : FnScope N_tests_hold ["book", "way", "dress"] (defScope s_tests_hold) := ⟨rfl, rfl, rfl, by decide +kernel, rfl, by decide +kernel, by decide +kernel⟩
abbrev N_plain_dress : List Str := ["book", "kinds", "kind"]
theorem sc_plain_dress : FnScope N_plain_dress ["book", "kinds"] (defScope s_plain_dress) := ⟨rfl, rfl, rfl, by decide +kernel, rfl, by decide +kernel, by decide +kernel⟩
abbrev N_letters_of : List Str := ["book", "mark"]
theorem sc_letters_of : FnScope N_letters_of ["book", "mark"] (defScope s_letters_of) := ⟨rfl, rfl, rfl, by decide +kernel, rfl, by decide +kernel, by decide +kernel⟩
abbrev N_text_at : List Str := ["dress", "ref", "piece", "row"]
theorem sc_text_at : FnScope N_text_at ["dress", "ref"] (defScope s_text_at) := ⟨rfl, rfl, rfl, by decide +kernel, rfl, by decide +kernel, by decide +kernel⟩
abbrev N__texts_of : List Str := ["rows", "piece", "place"]
theorem sc__texts_of : FnScope N__texts_of ["rows", "piece", "place"] (defScope s__texts_of) := ⟨rfl, rfl, rfl, by decide +kernel, rfl, by decide +kernel, by decide +kernel⟩
abbrev N_fits_dresses : List Str := ["book", "mark", "text"]
theorem sc_fits_dresses : FnScope N_fits_dresses ["book", "mark", "text"] (defScope s_fits_dresses) := ⟨rfl, rfl, rfl, by decide +kernel, rfl, by decide +kernel, by decide +kernel⟩
abbrev N__plain_texts : List Str := ["book", "kind", "word"]
theorem sc__plain_texts : FnScope N__plain_texts ["book", "kind"] (defScope s__plain_texts) := ⟨rfl, rfl, rfl, by decide +kernel, rfl, by decide +kernel, by decide +kernel⟩
abbrev N_judges_of : List Str := ["ask", "judges", "one"]
theorem sc_judges_of : FnScope N_judges_of ["ask"] (defScope s_judges_of) := ⟨rfl, rfl, rfl, by decide +kernel, rfl, by decide +kernel, by decide +kernel⟩
abbrev N_has_first : List Str := ["ask", "one"]
theorem sc_has_first : FnScope N_has_first ["ask"] (defScope s_has_first) := ⟨rfl, rfl, rfl, by decide +kernel, rfl, by decide +kernel, by decide +kernel⟩
abbrev N_all_asks : List Str := ["ask", "found", "due", "one"]
theorem sc_all_asks : FnScope N_all_asks ["ask"] (defScope s_all_asks) := ⟨rfl, rfl, rfl, by decide +kernel, rfl, by decide +kernel, by decide +kernel⟩
abbrev N_kinds_of : List Str := ["way", "piece"]
theorem sc_kinds_of : FnScope N_kinds_of ["way"] (defScope s_kinds_of) := ⟨rfl, rfl, rfl, by decide +kernel, rfl, by decide +kernel, by decide +kernel⟩
abbrev N_part_places : List Str := ["kinds", "place", "kind"]
theorem sc_part_places : FnScope N_part_places ["kinds"] (defScope s_part_places) := ⟨rfl, rfl, rfl, by decide +kernel, rfl, by decide +kernel, by decide +kernel⟩
abbrev N_sign_places : List Str := ["kinds"]
theorem sc_sign_places : FnScope N_sign_places ["kinds"] (defScope s_sign_places) := ⟨rfl, rfl, rfl, by decide +kernel, rfl, by decide +kernel, by decide +kernel⟩
abbrev N_kinds_by_maker : List Str := ["ways", "kinds", "way"]
theorem sc_kinds_by_maker : FnScope N_kinds_by_maker ["ways"] (defScope s_kinds_by_maker) := ⟨rfl, rfl, rfl, by decide +kernel, rfl, by decide +kernel, by decide +kernel⟩
abbrev N__kind_of : List Str := ["piece", "mark"]
theorem sc__kind_of : FnScope N__kind_of ["piece"] (defScope s__kind_of) := ⟨rfl, rfl, rfl, by decide +kernel, rfl, by decide +kernel, by decide +kernel⟩
abbrev N__refs_to : List Str := ["kinds", "words", "refs", "piece", "kind", "row", "word"]
theorem sc__refs_to : FnScope N__refs_to ["kinds", "words"] (defScope s__refs_to) := ⟨rfl, rfl, rfl, by decide +kernel, rfl, by decide +kernel, by decide +kernel⟩
abbrev N_all_ways : List Str := ["program", "ways", "lot"]
theorem sc_all_ways : FnScope N_all_ways ["program"] (defScope s_all_ways) := ⟨rfl, rfl, rfl, by decide +kernel, rfl, by decide +kernel, by decide +kernel⟩
abbrev N_look_formulas : List Str := ["program", "first_kinds", "widths", "judge", "sort", "formulas", "made", "maker", "entry", "formula"]
theorem sc_look_formulas : FnScope N_look_formulas ["program"] (defScope s_look_formulas) := ⟨rfl, rfl, rfl, by decide +kernel, rfl, by decide +kernel, by decide +kernel⟩
abbrev N_look_asks : List Str := ["program", "sorts", "name", "ask", "judges", "judge", "twice", "entry", "one"]
theorem sc_look_asks : FnScope N_look_asks ["program"] (defScope s_look_asks) := ⟨rfl, rfl, rfl, by decide +kernel, rfl, by decide +kernel, by decide +kernel⟩
abbrev N__first_told : List Str := ["pairs", "told", "name", "value"]
theorem sc__first_told : FnScope N__first_told ["pairs"] (defScope s__first_told) := ⟨rfl, rfl, rfl, by decide +kernel, rfl, by decide +kernel, by decide +kernel⟩
abbrev N__look_makers_of : List Str := ["formulas", "sort", "first_kinds", "widths", "seen", "maker", "formula", "mention"]
theorem sc__look_makers_of : FnScope N__look_makers_of ["formulas", "sort", "first_kinds", "widths"] (defScope s__look_makers_of) := ⟨rfl, rfl, rfl, by decide +kernel, rfl, by decide +kernel, by decide +kernel⟩
abbrev N__is_let : List Str := ["ask", "sorts", "judge"]
theorem sc__is_let : FnScope N__is_let ["ask", "sorts"] (defScope s__is_let) := ⟨rfl, rfl, rfl, by decide +kernel, rfl, by decide +kernel, by decide +kernel⟩
abbrev N_look_names : List Str := ["program", "place", "entry"]
theorem sc_look_names : FnScope N_look_names ["program"] (defScope s_look_names) := ⟨rfl, rfl, rfl, by decide +kernel, rfl, by decide +kernel, by decide +kernel⟩
abbrev N__look_list : List Str := ["names", "seen", "name"]
theorem sc__look_list : FnScope N__look_list ["names"] (defScope s__look_list) := ⟨rfl, rfl, rfl, by decide +kernel, rfl, by decide +kernel, by decide +kernel⟩
abbrev N_look_mentions : List Str := ["program", "lots", "pairs", "maker", "pieces", "tests", "piece", "test", "lot", "pair"]
theorem sc_look_mentions : FnScope N_look_mentions ["program"] (defScope s_look_mentions) := ⟨rfl, rfl, rfl, by decide +kernel, rfl, by decide +kernel, by decide +kernel⟩
abbrev N_look_makers : List Str := ["program", "ways", "first_kinds", "way"]
theorem sc_look_makers : FnScope N_look_makers ["program"] (defScope s_look_makers) := ⟨rfl, rfl, rfl, by decide +kernel, rfl, by decide +kernel, by decide +kernel⟩
abbrev N_look_tests : List Str := ["program", "way", "places", "_", "one", "other"]
theorem sc_look_tests : FnScope N_look_tests ["program"] (defScope s_look_tests) := ⟨rfl, rfl, rfl, by decide +kernel, rfl, by decide +kernel, by decide +kernel⟩
abbrev N__look_name : List Str := ["name", "names"]
theorem sc__look_name : FnScope N__look_name ["name", "names"] (defScope s__look_name) := ⟨rfl, rfl, rfl, by decide +kernel, rfl, by decide +kernel, by decide +kernel⟩
abbrev N_has_only : List Str := ["word", "characters", "character"]
theorem sc_has_only : FnScope N_has_only ["word", "characters"] (defScope s_has_only) := ⟨rfl, rfl, rfl, by decide +kernel, rfl, by decide +kernel, by decide +kernel⟩
abbrev N_look_signs : List Str := ["program", "word"]
theorem sc_look_signs : FnScope N_look_signs ["program"] (defScope s_look_signs) := ⟨rfl, rfl, rfl, by decide +kernel, rfl, by decide +kernel, by decide +kernel⟩
abbrev N__words_of : List Str := ["program", "words", "pair", "numbers", "word", "integer"]
theorem sc__words_of : FnScope N__words_of ["program"] (defScope s__words_of) := ⟨rfl, rfl, rfl, by decide +kernel, rfl, by decide +kernel, by decide +kernel⟩
abbrev N__letters_of : List Str := ["program", "letters", "way", "piece", "mark"]
theorem sc__letters_of : FnScope N__letters_of ["program"] (defScope s__letters_of) := ⟨rfl, rfl, rfl, by decide +kernel, rfl, by decide +kernel, by decide +kernel⟩
abbrev N_Book___init__ : List Str := ["self", "program", "entry", "name", "ways", "words", "ask"]
theorem sc_Book___init__ : FnScope N_Book___init__ ["self", "program"] (defScope s_Book___init__) := ⟨rfl, rfl, rfl, by decide +kernel, rfl, by decide +kernel, by decide +kernel⟩
abbrev N_Book_ways : List Str := ["self", "lot"]
theorem sc_Book_ways : FnScope N_Book_ways ["self", "lot"] (defScope s_Book_ways) := ⟨rfl, rfl, rfl, by decide +kernel, rfl, by decide +kernel, by decide +kernel⟩
abbrev N_Book_in_pairs : List Str := ["self", "name", "word"]
theorem sc_Book_in_pairs : FnScope N_Book_in_pairs ["self", "name", "word"] (defScope s_Book_in_pairs) := ⟨rfl, rfl, rfl, by decide +kernel, rfl, by decide +kernel, by decide +kernel⟩
abbrev N__look_all : List Str := ["program"]
theorem sc__look_all : FnScope N__look_all ["program"] (defScope s__look_all) := ⟨rfl, rfl, rfl, by decide +kernel, rfl, by decide +kernel, by decide +kernel⟩
abbrev N__told_by : List Str := ["numbers", "entries", "word", "integer"]
theorem sc__told_by : FnScope N__told_by ["numbers"] (defScope s__told_by) := ⟨rfl, rfl, rfl, by decide +kernel, rfl, by decide +kernel, by decide +kernel⟩
abbrev N__formulas_of : List Str := ["program", "found", "judge", "_", "formulas", "maker", "formula"]
theorem sc__formulas_of : FnScope N__formulas_of ["program"] (defScope s__formulas_of) := ⟨rfl, rfl, rfl, by decide +kernel, rfl, by decide +kernel, by decide +kernel⟩
abbrev N_mark_box : List Str := ["mark"]
theorem sc_mark_box : FnScope N_mark_box ["mark"] (defScope s_mark_box) := ⟨rfl, rfl, rfl, by decide +kernel, rfl, by decide +kernel, by decide +kernel⟩
abbrev N_wrong_at : List Str := ["book", "rows", "candidate", "lot", "stretch", "due", "why", "below", "path", "tree", "name", "place", "at", "told"]
theorem sc_wrong_at : FnScope N_wrong_at ["book", "rows", "candidate", "lot", "stretch"] (defScope s_wrong_at) := ⟨rfl, rfl, rfl, by decide +kernel, rfl, by decide +kernel, by decide +kernel⟩
abbrev N_stands : List Str := ["book", "rows", "candidate", "lot", "stretch"]
theorem sc_stands : FnScope N_stands ["book", "rows", "candidate", "lot", "stretch"] (defScope s_stands) := ⟨rfl, rfl, rfl, by decide +kernel, rfl, by decide +kernel, by decide +kernel⟩
abbrev N__wrong_here : List Str := ["book", "rows", "tree", "lot", "stretch", "ways", "way", "dress"]
theorem sc__wrong_here : FnScope N__wrong_here ["book", "rows", "tree", "lot", "stretch"] (defScope s__wrong_here) := ⟨rfl, rfl, rfl, by decide +kernel, rfl, by decide +kernel, by decide +kernel⟩
abbrev N__is_number : List Str := ["value"]
theorem sc__is_number : FnScope N__is_number ["value"] (defScope s__is_number) := ⟨rfl, rfl, rfl, by decide +kernel, rfl, by decide +kernel, by decide +kernel⟩
abbrev N__is_cut : List Str := ["cut", "way", "stretch", "many", "row", "width"]
theorem sc__is_cut : FnScope N__is_cut ["cut", "way", "stretch"] (defScope s__is_cut) := ⟨rfl, rfl, rfl, by decide +kernel, rfl, by decide +kernel, by decide +kernel⟩
abbrev N__adds_up : List Str := ["widths", "many", "width", "one"]
theorem sc__adds_up : FnScope N__adds_up ["widths", "many", "width"] (defScope s__adds_up) := ⟨rfl, rfl, rfl, by decide +kernel, rfl, by decide +kernel, by decide +kernel⟩
abbrev N__widths_fit : List Str := ["way", "cut", "row", "widths", "piece", "width"]
theorem sc__widths_fit : FnScope N__widths_fit ["way", "cut"] (defScope s__widths_fit) := ⟨rfl, rfl, rfl, by decide +kernel, rfl, by decide +kernel, by decide +kernel⟩
abbrev N__lets : List Str := ["mark", "width", "least", "most"]
theorem sc__lets : FnScope N__lets ["mark", "width"] (defScope s__lets) := ⟨rfl, rfl, rfl, by decide +kernel, rfl, by decide +kernel, by decide +kernel⟩
abbrev N_height_of : List Str := ["candidate", "height", "level"]
theorem sc_height_of : FnScope N_height_of ["candidate"] (defScope s_height_of) := ⟨rfl, rfl, rfl, by decide +kernel, rfl, by decide +kernel, by decide +kernel⟩
abbrev N_node_at : List Str := ["candidate", "path", "tree", "part"]
theorem sc_node_at : FnScope N_node_at ["candidate", "path"] (defScope s_node_at) := ⟨rfl, rfl, rfl, by decide +kernel, rfl, by decide +kernel, by decide +kernel⟩
abbrev N_nodes_of : List Str := ["book", "candidate", "stretch", "nodes", "path", "tree", "place"]
theorem sc_nodes_of : FnScope N_nodes_of ["book", "candidate", "stretch"] (defScope s_nodes_of) := ⟨rfl, rfl, rfl, by decide +kernel, rfl, by decide +kernel, by decide +kernel⟩
abbrev N_nodes_beneath : List Str := ["book", "candidate", "stretch", "found", "due", "below", "path", "tree", "place", "at", "told"]
theorem sc_nodes_beneath : FnScope N_nodes_beneath ["book", "candidate", "stretch"] (defScope s_nodes_beneath) := ⟨rfl, rfl, rfl, by decide +kernel, rfl, by decide +kernel, by decide +kernel⟩
abbrev N_replaced_at : List Str := ["candidate", "path", "other", "above", "tree", "at", "deep", "lot", "way", "cut", "parts"]
theorem sc_replaced_at : FnScope N_replaced_at ["candidate", "path", "other"] (defScope s_replaced_at) := ⟨rfl, rfl, rfl, by decide +kernel, rfl, by decide +kernel, by decide +kernel⟩
abbrev N__way_of : List Str := ["book", "candidate"]
theorem sc__way_of : FnScope N__way_of ["book", "candidate"] (defScope s__way_of) := ⟨rfl, rfl, rfl, by decide +kernel, rfl, by decide +kernel, by decide +kernel⟩
abbrev N__parts_below : List Str := ["trees", "parts", "tree"]
theorem sc__parts_below : FnScope N__parts_below ["trees"] (defScope s__parts_below) := ⟨rfl, rfl, rfl, by decide +kernel, rfl, by decide +kernel, by decide +kernel⟩
abbrev N__law_tape : List Str := ["_law_script", "_law_state", "_law_queue", "_law_cell"]
theorem sc__law_tape : FnScope N__law_tape ["_law_script"] (defScope s__law_tape) := ⟨rfl, rfl, rfl, by decide +kernel, rfl, by decide +kernel, by decide +kernel⟩
abbrev N__law_pick : List Str := ["_law_tape_here", "_law_many", "_law_told"]
theorem sc__law_pick : FnScope N__law_pick ["_law_tape_here", "_law_many"] (defScope s__law_pick) := ⟨rfl, rfl, rfl, by decide +kernel, rfl, by decide +kernel, by decide +kernel⟩
abbrev N__law_same : List Str := ["_law_told", "_law_due_here", "_law_one", "_law_other"]
theorem sc__law_same : FnScope N__law_same ["_law_told", "_law_due_here"] (defScope s__law_same) := ⟨rfl, rfl, rfl, by decide +kernel, rfl, by decide +kernel, by decide +kernel⟩
abbrev N__law_mark : List Str := ["_law_tape_here", "_law_signs", "_law_kind", "_law_least", "_law_most", "_law_letters"]
theorem sc__law_mark : FnScope N__law_mark ["_law_tape_here", "_law_signs"] (defScope s__law_mark) := ⟨rfl, rfl, rfl, by decide +kernel, rfl, by decide +kernel, by decide +kernel⟩
abbrev N__law_way : List Str := ["_law_tape_here", "_law_maker", "_law_signs", "_law_sides", "_law_many", "_law_pieces", "_law_piece", "_law_side"]
theorem sc__law_way : FnScope N__law_way ["_law_tape_here", "_law_maker", "_law_signs", "_law_sides"] (defScope s__law_way) := ⟨rfl, rfl, rfl, by decide +kernel, rfl, by decide +kernel, by decide +kernel⟩
abbrev N__law_text : List Str := ["_law_tape_here", "_law_signs", "_law_many", "_law_place"]
theorem sc__law_text : FnScope N__law_text ["_law_tape_here", "_law_signs"] (defScope s__law_text) := ⟨rfl, rfl, rfl, by decide +kernel, rfl, by decide +kernel, by decide +kernel⟩
abbrev N__law_span : List Str := ["_law_tape_here", "_law_size", "_law_start", "_law_end", "_law_corner"]
theorem sc__law_span : FnScope N__law_span ["_law_tape_here", "_law_size"] (defScope s__law_span) := ⟨rfl, rfl, rfl, by decide +kernel, rfl, by decide +kernel, by decide +kernel⟩
abbrev N__law_scene : List Str := ["_law_tape_here", "_law_signs", "_law_sides", "_law_texts", "_law_side", "_law_text_here"]
theorem sc__law_scene : FnScope N__law_scene ["_law_tape_here", "_law_signs", "_law_sides"] (defScope s__law_scene) := ⟨rfl, rfl, rfl, by decide +kernel, rfl, by decide +kernel, by decide +kernel⟩
abbrev N__law_parting : List Str := ["_law_tape_here", "_law_width", "_law_many", "_law_widths", "_law_rest", "_law_start", "_law_turn", "_law_worth"]
theorem sc__law_parting : FnScope N__law_parting ["_law_tape_here", "_law_width", "_law_many"] (defScope s__law_parting) := ⟨rfl, rfl, rfl, by decide +kernel, rfl, by decide +kernel, by decide +kernel⟩
abbrev N__law_between : List Str := ["_law_text_here", "_law_start", "_law_end", "_law_place"]
theorem sc__law_between : FnScope N__law_between ["_law_text_here", "_law_start", "_law_end"] (defScope s__law_between) := ⟨rfl, rfl, rfl, by decide +kernel, rfl, by decide +kernel, by decide +kernel⟩
abbrev N__law_due : List Str := ["_law_branch", "_law_texts", "_law_span_here", "_law_parting_here", "_law_pieces", "_law_spans", "_law_dress", "_law_piece", "_law_own", "_law_side", "_law_ahead", "_law_text_here", "_law_place"]
theorem sc__law_due : FnScope N__law_due ["_law_branch", "_law_texts", "_law_span_here", "_law_parting_here"] (defScope s__law_due) := ⟨rfl, rfl, rfl, by decide +kernel, rfl, by decide +kernel, by decide +kernel⟩
abbrev N__law_plain : List Str := ["_law_branch", "_law_first", "_law_told", "_law_piece", "_law_mark_here"]
theorem sc__law_plain : FnScope N__law_plain ["_law_branch", "_law_first"] (defScope s__law_plain) := ⟨rfl, rfl, rfl, by decide +kernel, rfl, by decide +kernel, by decide +kernel⟩
abbrev N__law_scene_right : List Str := ["_law_texts", "_law_span_here", "_law_sizes", "_law_due_here", "_law_text_here", "_law_place", "_law_size"]
theorem sc__law_scene_right : FnScope N__law_scene_right ["_law_texts", "_law_span_here"] (defScope s__law_scene_right) := ⟨rfl, rfl, rfl, by decide +kernel, rfl, by decide +kernel, by decide +kernel⟩
abbrev N__law_job_right : List Str := ["_law_branch", "_law_texts", "_law_span_here", "_law_parting_here", "_law_due_here", "_law_told", "_law_joined", "_law_place", "_law_parts", "_law_text_here", "_law_one", "_law_other", "_law_side"]
theorem sc__law_job_right : FnScope N__law_job_right ["_law_branch", "_law_texts", "_law_span_here", "_law_parting_here"] (defScope s__law_job_right) := ⟨rfl, rfl, rfl, by decide +kernel, rfl, by decide +kernel, by decide +kernel⟩
abbrev N__law_tall : List Str := ["_law_tape_here", "_law_signs", "_law_sides", "_law_front", "_law_many", "_law_line", "_law_ahead", "_law_marks", "_law_pieces", "_law_ways", "_law_shelf", "_law_nodes", "_law_spans", "_law_turn", "_law_text_here", "_law_place", "_law_row", "_law_cut", "_law_side"]
theorem sc__law_tall : FnScope N__law_tall ["_law_tape_here", "_law_signs", "_law_sides", "_law_front"] (defScope s__law_tall) := ⟨rfl, rfl, rfl, by decide +kernel, rfl, by decide +kernel, by decide +kernel⟩
abbrev N__law_tall_right : List Str := ["_law_tape_here", "_law_signs", "_law_sides", "_law_front", "_law_many", "_law_deep", "_law_path", "_law_tree", "_law_due_here", "_law_told", "_law_turn", "_law_bent", "_law_shelf", "_law_nodes", "_law_spans", "_law_texts", "_law_text_here", "_law_place", "_law_at"]
theorem sc__law_tall_right : FnScope N__law_tall_right ["_law_tape_here", "_law_signs", "_law_sides"] (defScope s__law_tall_right) := ⟨rfl, rfl, rfl, by decide +kernel, rfl, by decide +kernel, by decide +kernel⟩
abbrev N_law : List Str := ["_law_script", "_law_tape_here", "_law_sides", "_law_menu", "_law_signs", "_law_makers", "_law_branches", "_law_shelf", "_law_scenes", "_law_jobs", "_law_branch", "_law_scene_here", "_law_job", "_law_shapes", "_law_told", "_law_place", "_law_parting_here", "_law_piece", "_law_mark_here"]
theorem sc_law : FnScope N_law ["_law_script"] (defScope s_law) := ⟨rfl, rfl, rfl, by decide +kernel, rfl, by decide +kernel, by decide +kernel⟩
theorem sci_TwiceNamed : FnScope ["self", "name"] ["self", "name"] (defScope si_TwiceNamed) := ⟨rfl, rfl, rfl, by decide +kernel, rfl, by decide +kernel, by decide +kernel⟩
theorem sci_BadSign : FnScope ["self", "word"] ["self", "word"] (defScope si_BadSign) := ⟨rfl, rfl, rfl, by decide +kernel, rfl, by decide +kernel, by decide +kernel⟩
theorem sci_NoName : FnScope ["self", "name"] ["self", "name"] (defScope si_NoName) := ⟨rfl, rfl, rfl, by decide +kernel, rfl, by decide +kernel, by decide +kernel⟩
theorem sci_BadMaker : FnScope ["self", "maker"] ["self", "maker"] (defScope si_BadMaker) := ⟨rfl, rfl, rfl, by decide +kernel, rfl, by decide +kernel, by decide +kernel⟩
theorem sci_BadRef : FnScope ["self", "maker"] ["self", "maker"] (defScope si_BadRef) := ⟨rfl, rfl, rfl, by decide +kernel, rfl, by decide +kernel, by decide +kernel⟩
theorem sci_Missing : FnScope ["self", "judge", "maker"] ["self", "judge", "maker"] (defScope si_Missing) := ⟨rfl, rfl, rfl, by decide +kernel, rfl, by decide +kernel, by decide +kernel⟩
theorem sci_BadAsk : FnScope ["self", "name"] ["self", "name"] (defScope si_BadAsk) := ⟨rfl, rfl, rfl, by decide +kernel, rfl, by decide +kernel, by decide +kernel⟩
theorem us1 {α : Type} {us : List α} (h : us.length = 1) : ∃ a, us = [a] := List.length_eq_one_iff.mp h
theorem us2 {α : Type} {us : List α} (h : us.length = 2) : ∃ a b, us = [a, b] := by
  cases us with
  | nil => cases h
  | cons x us =>
    obtain ⟨b, rfl⟩ := us1 (Nat.succ.inj h)
    exact ⟨x, b, rfl⟩
theorem us3 {α : Type} {us : List α} (h : us.length = 3) : ∃ a b c, us = [a, b, c] := by
  cases us with
  | nil => cases h
  | cons x us =>
    obtain ⟨b, c, rfl⟩ := us2 (Nat.succ.inj h)
    exact ⟨x, b, c, rfl⟩
theorem us4 {α : Type} {us : List α} (h : us.length = 4) : ∃ a b c d, us = [a, b, c, d] := by
  cases us with
  | nil => cases h
  | cons x us =>
    obtain ⟨b, c, d, rfl⟩ := us3 (Nat.succ.inj h)
    exact ⟨x, b, c, d, rfl⟩
theorem us5 {α : Type} {us : List α} (h : us.length = 5) : ∃ a b c d e, us = [a, b, c, d, e] := by
  cases us with
  | nil => cases h
  | cons x us =>
    obtain ⟨b, c, d, e, rfl⟩ := us4 (Nat.succ.inj h)
    exact ⟨x, b, c, d, e, rfl⟩
set_option genInjectivity false in
set_option genSizeOfSpec false in
structure Txt (K : PySem.W.Frag) (mg : Str → Option Value) where
  c_TwiceNamed : Addr
  oe_TwiceNamed : OexC K c_TwiceNamed
  no_TwiceNamed : ∀ n ∈ (["name"] : List Str), PySem.W.findIn K (.ref c_TwiceNamed) n = some none
  fi_TwiceNamed : Addr
  fdi_TwiceNamed : FuncData
  ic_TwiceNamed : PySem.W.findIn K (.ref c_TwiceNamed) "__init__" = some (some (.ref fi_TwiceNamed))
  ti_TwiceNamed : PySem.W.typeIn K (.ref fi_TwiceNamed) = some (.type "function")
  Fi_TwiceNamed : Fun K "__init__" "TwiceNamed.__init__" si_TwiceNamed fi_TwiceNamed fdi_TwiceNamed
  gc_TwiceNamed : mg "TwiceNamed" = some (.ref c_TwiceNamed)
  c_BadSign : Addr
  oe_BadSign : OexC K c_BadSign
  no_BadSign : ∀ n ∈ (["word"] : List Str), PySem.W.findIn K (.ref c_BadSign) n = some none
  fi_BadSign : Addr
  fdi_BadSign : FuncData
  ic_BadSign : PySem.W.findIn K (.ref c_BadSign) "__init__" = some (some (.ref fi_BadSign))
  ti_BadSign : PySem.W.typeIn K (.ref fi_BadSign) = some (.type "function")
  Fi_BadSign : Fun K "__init__" "BadSign.__init__" si_BadSign fi_BadSign fdi_BadSign
  gc_BadSign : mg "BadSign" = some (.ref c_BadSign)
  c_NoName : Addr
  oe_NoName : OexC K c_NoName
  no_NoName : ∀ n ∈ (["name"] : List Str), PySem.W.findIn K (.ref c_NoName) n = some none
  fi_NoName : Addr
  fdi_NoName : FuncData
  ic_NoName : PySem.W.findIn K (.ref c_NoName) "__init__" = some (some (.ref fi_NoName))
  ti_NoName : PySem.W.typeIn K (.ref fi_NoName) = some (.type "function")
  Fi_NoName : Fun K "__init__" "NoName.__init__" si_NoName fi_NoName fdi_NoName
  gc_NoName : mg "NoName" = some (.ref c_NoName)
  c_BadMaker : Addr
  oe_BadMaker : OexC K c_BadMaker
  no_BadMaker : ∀ n ∈ (["maker"] : List Str), PySem.W.findIn K (.ref c_BadMaker) n = some none
  fi_BadMaker : Addr
  fdi_BadMaker : FuncData
  ic_BadMaker : PySem.W.findIn K (.ref c_BadMaker) "__init__" = some (some (.ref fi_BadMaker))
  ti_BadMaker : PySem.W.typeIn K (.ref fi_BadMaker) = some (.type "function")
  Fi_BadMaker : Fun K "__init__" "BadMaker.__init__" si_BadMaker fi_BadMaker fdi_BadMaker
  gc_BadMaker : mg "BadMaker" = some (.ref c_BadMaker)
  c_BadRef : Addr
  oe_BadRef : OexC K c_BadRef
  no_BadRef : ∀ n ∈ (["maker"] : List Str), PySem.W.findIn K (.ref c_BadRef) n = some none
  fi_BadRef : Addr
  fdi_BadRef : FuncData
  ic_BadRef : PySem.W.findIn K (.ref c_BadRef) "__init__" = some (some (.ref fi_BadRef))
  ti_BadRef : PySem.W.typeIn K (.ref fi_BadRef) = some (.type "function")
  Fi_BadRef : Fun K "__init__" "BadRef.__init__" si_BadRef fi_BadRef fdi_BadRef
  gc_BadRef : mg "BadRef" = some (.ref c_BadRef)
  c_Missing : Addr
  oe_Missing : OexC K c_Missing
  no_Missing : ∀ n ∈ (["judge", "maker"] : List Str), PySem.W.findIn K (.ref c_Missing) n = some none
  fi_Missing : Addr
  fdi_Missing : FuncData
  ic_Missing : PySem.W.findIn K (.ref c_Missing) "__init__" = some (some (.ref fi_Missing))
  ti_Missing : PySem.W.typeIn K (.ref fi_Missing) = some (.type "function")
  Fi_Missing : Fun K "__init__" "Missing.__init__" si_Missing fi_Missing fdi_Missing
  gc_Missing : mg "Missing" = some (.ref c_Missing)
  c_BadAsk : Addr
  oe_BadAsk : OexC K c_BadAsk
  no_BadAsk : ∀ n ∈ (["name"] : List Str), PySem.W.findIn K (.ref c_BadAsk) n = some none
  fi_BadAsk : Addr
  fdi_BadAsk : FuncData
  ic_BadAsk : PySem.W.findIn K (.ref c_BadAsk) "__init__" = some (some (.ref fi_BadAsk))
  ti_BadAsk : PySem.W.typeIn K (.ref fi_BadAsk) = some (.type "function")
  Fi_BadAsk : Fun K "__init__" "BadAsk.__init__" si_BadAsk fi_BadAsk fdi_BadAsk
  gc_BadAsk : mg "BadAsk" = some (.ref c_BadAsk)
  c_Book : Addr
  cls_Book : Cls K c_Book
  gc_Book : mg "Book" = some (.ref c_Book)
  na_Book_signs : NoAttr K c_Book "signs"
  na_Book_program : NoAttr K c_Book "program"
  na_Book_rows : NoAttr K c_Book "rows"
  na_Book_start : NoAttr K c_Book "start"
  na_Book__ways : NoAttr K c_Book "_ways"
  na_Book__kinds : NoAttr K c_Book "_kinds"
  na_Book__pairs : NoAttr K c_Book "_pairs"
  na_Book__numbers : NoAttr K c_Book "_numbers"
  na_Book__sorts : NoAttr K c_Book "_sorts"
  na_Book__formulas : NoAttr K c_Book "_formulas"
  na_Book__asks : NoAttr K c_Book "_asks"
  f_whole_of : Addr
  fd_whole_of : FuncData
  F_whole_of : Fun K "whole_of" "whole_of" s_whole_of f_whole_of fd_whole_of
  g_whole_of : mg "whole_of" = some (.ref f_whole_of)
  f_widths_of : Addr
  fd_widths_of : FuncData
  F_widths_of : Fun K "widths_of" "widths_of" s_widths_of f_widths_of fd_widths_of
  g_widths_of : mg "widths_of" = some (.ref f_widths_of)
  f_piece_stretches : Addr
  fd_piece_stretches : FuncData
  F_piece_stretches : Fun K "piece_stretches" "piece_stretches" s_piece_stretches f_piece_stretches fd_piece_stretches
  g_piece_stretches : mg "piece_stretches" = some (.ref f_piece_stretches)
  f_texts_in : Addr
  fd_texts_in : FuncData
  F_texts_in : Fun K "texts_in" "texts_in" s_texts_in f_texts_in fd_texts_in
  g_texts_in : mg "texts_in" = some (.ref f_texts_in)
  f_parts_due : Addr
  fd_parts_due : FuncData
  F_parts_due : Fun K "parts_due" "parts_due" s_parts_due f_parts_due fd_parts_due
  g_parts_due : mg "parts_due" = some (.ref f_parts_due)
  f__pairs_along : Addr
  fd__pairs_along : FuncData
  F__pairs_along : Fun K "_pairs_along" "_pairs_along" s__pairs_along f__pairs_along fd__pairs_along
  g__pairs_along : mg "_pairs_along" = some (.ref f__pairs_along)
  f_dress_of : Addr
  fd_dress_of : FuncData
  F_dress_of : Fun K "dress_of" "dress_of" s_dress_of f_dress_of fd_dress_of
  g_dress_of : mg "dress_of" = some (.ref f_dress_of)
  f_letters_hold : Addr
  fd_letters_hold : FuncData
  F_letters_hold : Fun K "letters_hold" "letters_hold" s_letters_hold f_letters_hold fd_letters_hold
  g_letters_hold : mg "letters_hold" = some (.ref f_letters_hold)
  f_tests_hold : Addr
  fd_tests_hold : FuncData
  F_tests_hold : Fun K "tests_hold" "tests_hold" s_tests_hold f_tests_hold fd_tests_hold
  g_tests_hold : mg "tests_hold" = some (.ref f_tests_hold)
  f_plain_dress : Addr
  fd_plain_dress : FuncData
  F_plain_dress : Fun K "plain_dress" "plain_dress" s_plain_dress f_plain_dress fd_plain_dress
  g_plain_dress : mg "plain_dress" = some (.ref f_plain_dress)
  f_letters_of : Addr
  fd_letters_of : FuncData
  F_letters_of : Fun K "letters_of" "letters_of" s_letters_of f_letters_of fd_letters_of
  g_letters_of : mg "letters_of" = some (.ref f_letters_of)
  f_text_at : Addr
  fd_text_at : FuncData
  F_text_at : Fun K "text_at" "text_at" s_text_at f_text_at fd_text_at
  g_text_at : mg "text_at" = some (.ref f_text_at)
  f__texts_of : Addr
  fd__texts_of : FuncData
  F__texts_of : Fun K "_texts_of" "_texts_of" s__texts_of f__texts_of fd__texts_of
  g__texts_of : mg "_texts_of" = some (.ref f__texts_of)
  f_fits_dresses : Addr
  fd_fits_dresses : FuncData
  F_fits_dresses : Fun K "_fits" "_fits" s_fits_dresses f_fits_dresses fd_fits_dresses
  g_fits_dresses : mg "fits_dresses" = some (.ref f_fits_dresses)
  f__plain_texts : Addr
  fd__plain_texts : FuncData
  F__plain_texts : Fun K "_plain_texts" "_plain_texts" s__plain_texts f__plain_texts fd__plain_texts
  g__plain_texts : mg "_plain_texts" = some (.ref f__plain_texts)
  f_judges_of : Addr
  fd_judges_of : FuncData
  F_judges_of : Fun K "judges_of" "judges_of" s_judges_of f_judges_of fd_judges_of
  g_judges_of : mg "judges_of" = some (.ref f_judges_of)
  f_has_first : Addr
  fd_has_first : FuncData
  F_has_first : Fun K "has_first" "has_first" s_has_first f_has_first fd_has_first
  g_has_first : mg "has_first" = some (.ref f_has_first)
  f_all_asks : Addr
  fd_all_asks : FuncData
  F_all_asks : Fun K "all_asks" "all_asks" s_all_asks f_all_asks fd_all_asks
  g_all_asks : mg "all_asks" = some (.ref f_all_asks)
  f_kinds_of : Addr
  fd_kinds_of : FuncData
  F_kinds_of : Fun K "kinds_of" "kinds_of" s_kinds_of f_kinds_of fd_kinds_of
  g_kinds_of : mg "kinds_of" = some (.ref f_kinds_of)
  f_part_places : Addr
  fd_part_places : FuncData
  F_part_places : Fun K "part_places" "part_places" s_part_places f_part_places fd_part_places
  g_part_places : mg "part_places" = some (.ref f_part_places)
  f_sign_places : Addr
  fd_sign_places : FuncData
  F_sign_places : Fun K "sign_places" "sign_places" s_sign_places f_sign_places fd_sign_places
  g_sign_places : mg "sign_places" = some (.ref f_sign_places)
  f_kinds_by_maker : Addr
  fd_kinds_by_maker : FuncData
  F_kinds_by_maker : Fun K "kinds_by_maker" "kinds_by_maker" s_kinds_by_maker f_kinds_by_maker fd_kinds_by_maker
  g_kinds_by_maker : mg "kinds_by_maker" = some (.ref f_kinds_by_maker)
  f__kind_of : Addr
  fd__kind_of : FuncData
  F__kind_of : Fun K "_kind_of" "_kind_of" s__kind_of f__kind_of fd__kind_of
  g__kind_of : mg "_kind_of" = some (.ref f__kind_of)
  f__refs_to : Addr
  fd__refs_to : FuncData
  F__refs_to : Fun K "_refs_to" "_refs_to" s__refs_to f__refs_to fd__refs_to
  g__refs_to : mg "_refs_to" = some (.ref f__refs_to)
  f_all_ways : Addr
  fd_all_ways : FuncData
  F_all_ways : Fun K "all_ways" "all_ways" s_all_ways f_all_ways fd_all_ways
  g_all_ways : mg "all_ways" = some (.ref f_all_ways)
  f_look_formulas : Addr
  fd_look_formulas : FuncData
  F_look_formulas : Fun K "look_formulas" "look_formulas" s_look_formulas f_look_formulas fd_look_formulas
  g_look_formulas : mg "look_formulas" = some (.ref f_look_formulas)
  f_look_asks : Addr
  fd_look_asks : FuncData
  F_look_asks : Fun K "look_asks" "look_asks" s_look_asks f_look_asks fd_look_asks
  g_look_asks : mg "look_asks" = some (.ref f_look_asks)
  f__first_told : Addr
  fd__first_told : FuncData
  F__first_told : Fun K "_first_told" "_first_told" s__first_told f__first_told fd__first_told
  g__first_told : mg "_first_told" = some (.ref f__first_told)
  f__look_makers_of : Addr
  fd__look_makers_of : FuncData
  F__look_makers_of : Fun K "_look_makers_of" "_look_makers_of" s__look_makers_of f__look_makers_of fd__look_makers_of
  g__look_makers_of : mg "_look_makers_of" = some (.ref f__look_makers_of)
  f__mentions_in : Addr
  fd__mentions_in : FuncData
  F__mentions_in : Fun K "_mentions_in" "_mentions_in" s__mentions_in f__mentions_in fd__mentions_in
  g__mentions_in : mg "_mentions_in" = some (.ref f__mentions_in)
  f__look_mention : Addr
  fd__look_mention : FuncData
  F__look_mention : Fun K "_look_mention" "_look_mention" s__look_mention f__look_mention fd__look_mention
  g__look_mention : mg "_look_mention" = some (.ref f__look_mention)
  f__fits : Addr
  fd__fits : FuncData
  F__fits : Fun K "_fits" "_fits" s__fits f__fits fd__fits
  g__fits : mg "_fits" = some (.ref f__fits)
  f__is_let : Addr
  fd__is_let : FuncData
  F__is_let : Fun K "_is_let" "_is_let" s__is_let f__is_let fd__is_let
  g__is_let : mg "_is_let" = some (.ref f__is_let)
  f_look_names : Addr
  fd_look_names : FuncData
  F_look_names : Fun K "look_names" "look_names" s_look_names f_look_names fd_look_names
  g_look_names : mg "look_names" = some (.ref f_look_names)
  f__look_list : Addr
  fd__look_list : FuncData
  F__look_list : Fun K "_look_list" "_look_list" s__look_list f__look_list fd__look_list
  g__look_list : mg "_look_list" = some (.ref f__look_list)
  f_look_mentions : Addr
  fd_look_mentions : FuncData
  F_look_mentions : Fun K "look_mentions" "look_mentions" s_look_mentions f_look_mentions fd_look_mentions
  g_look_mentions : mg "look_mentions" = some (.ref f_look_mentions)
  f_look_makers : Addr
  fd_look_makers : FuncData
  F_look_makers : Fun K "look_makers" "look_makers" s_look_makers f_look_makers fd_look_makers
  g_look_makers : mg "look_makers" = some (.ref f_look_makers)
  f_look_tests : Addr
  fd_look_tests : FuncData
  F_look_tests : Fun K "look_tests" "look_tests" s_look_tests f_look_tests fd_look_tests
  g_look_tests : mg "look_tests" = some (.ref f_look_tests)
  f__look_name : Addr
  fd__look_name : FuncData
  F__look_name : Fun K "_look_name" "_look_name" s__look_name f__look_name fd__look_name
  g__look_name : mg "_look_name" = some (.ref f__look_name)
  f_has_only : Addr
  fd_has_only : FuncData
  F_has_only : Fun K "has_only" "has_only" s_has_only f_has_only fd_has_only
  g_has_only : mg "has_only" = some (.ref f_has_only)
  f_look_signs : Addr
  fd_look_signs : FuncData
  F_look_signs : Fun K "look_signs" "look_signs" s_look_signs f_look_signs fd_look_signs
  g_look_signs : mg "look_signs" = some (.ref f_look_signs)
  f__words_of : Addr
  fd__words_of : FuncData
  F__words_of : Fun K "_words_of" "_words_of" s__words_of f__words_of fd__words_of
  g__words_of : mg "_words_of" = some (.ref f__words_of)
  f__letters_of : Addr
  fd__letters_of : FuncData
  F__letters_of : Fun K "_letters_of" "_letters_of" s__letters_of f__letters_of fd__letters_of
  g__letters_of : mg "_letters_of" = some (.ref f__letters_of)
  f_Book___init__ : Addr
  fd_Book___init__ : FuncData
  F_Book___init__ : Fun K "__init__" "Book.__init__" s_Book___init__ f_Book___init__ fd_Book___init__
  mk_Book : Mk K c_Book f_Book___init__
  f_Book_ways : Addr
  fd_Book_ways : FuncData
  F_Book_ways : Fun K "ways" "Book.ways" s_Book_ways f_Book_ways fd_Book_ways
  m_Book_ways : Meth K c_Book "ways" f_Book_ways
  f_Book_in_pairs : Addr
  fd_Book_in_pairs : FuncData
  F_Book_in_pairs : Fun K "in_pairs" "Book.in_pairs" s_Book_in_pairs f_Book_in_pairs fd_Book_in_pairs
  m_Book_in_pairs : Meth K c_Book "in_pairs" f_Book_in_pairs
  f__look_all : Addr
  fd__look_all : FuncData
  F__look_all : Fun K "_look_all" "_look_all" s__look_all f__look_all fd__look_all
  g__look_all : mg "_look_all" = some (.ref f__look_all)
  f__told_by : Addr
  fd__told_by : FuncData
  F__told_by : Fun K "_told_by" "_told_by" s__told_by f__told_by fd__told_by
  g__told_by : mg "_told_by" = some (.ref f__told_by)
  f__formulas_of : Addr
  fd__formulas_of : FuncData
  F__formulas_of : Fun K "_formulas_of" "_formulas_of" s__formulas_of f__formulas_of fd__formulas_of
  g__formulas_of : mg "_formulas_of" = some (.ref f__formulas_of)
  f_mark_box : Addr
  fd_mark_box : FuncData
  F_mark_box : Fun K "mark_box" "mark_box" s_mark_box f_mark_box fd_mark_box
  g_mark_box : mg "mark_box" = some (.ref f_mark_box)
  f_wrong_at : Addr
  fd_wrong_at : FuncData
  F_wrong_at : Fun K "wrong_at" "wrong_at" s_wrong_at f_wrong_at fd_wrong_at
  g_wrong_at : mg "wrong_at" = some (.ref f_wrong_at)
  f_stands : Addr
  fd_stands : FuncData
  F_stands : Fun K "stands" "stands" s_stands f_stands fd_stands
  g_stands : mg "stands" = some (.ref f_stands)
  f__wrong_here : Addr
  fd__wrong_here : FuncData
  F__wrong_here : Fun K "_wrong_here" "_wrong_here" s__wrong_here f__wrong_here fd__wrong_here
  g__wrong_here : mg "_wrong_here" = some (.ref f__wrong_here)
  f__is_number : Addr
  fd__is_number : FuncData
  F__is_number : Fun K "_is_number" "_is_number" s__is_number f__is_number fd__is_number
  g__is_number : mg "_is_number" = some (.ref f__is_number)
  f__is_cut : Addr
  fd__is_cut : FuncData
  F__is_cut : Fun K "_is_cut" "_is_cut" s__is_cut f__is_cut fd__is_cut
  g__is_cut : mg "_is_cut" = some (.ref f__is_cut)
  f__adds_up : Addr
  fd__adds_up : FuncData
  F__adds_up : Fun K "_adds_up" "_adds_up" s__adds_up f__adds_up fd__adds_up
  g__adds_up : mg "_adds_up" = some (.ref f__adds_up)
  f__widths_fit : Addr
  fd__widths_fit : FuncData
  F__widths_fit : Fun K "_widths_fit" "_widths_fit" s__widths_fit f__widths_fit fd__widths_fit
  g__widths_fit : mg "_widths_fit" = some (.ref f__widths_fit)
  f__lets : Addr
  fd__lets : FuncData
  F__lets : Fun K "_lets" "_lets" s__lets f__lets fd__lets
  g__lets : mg "_lets" = some (.ref f__lets)
  f_height_of : Addr
  fd_height_of : FuncData
  F_height_of : Fun K "height_of" "height_of" s_height_of f_height_of fd_height_of
  g_height_of : mg "height_of" = some (.ref f_height_of)
  f_node_at : Addr
  fd_node_at : FuncData
  F_node_at : Fun K "node_at" "node_at" s_node_at f_node_at fd_node_at
  g_node_at : mg "node_at" = some (.ref f_node_at)
  f_nodes_of : Addr
  fd_nodes_of : FuncData
  F_nodes_of : Fun K "nodes_of" "nodes_of" s_nodes_of f_nodes_of fd_nodes_of
  g_nodes_of : mg "nodes_of" = some (.ref f_nodes_of)
  f_nodes_beneath : Addr
  fd_nodes_beneath : FuncData
  F_nodes_beneath : Fun K "nodes_beneath" "nodes_beneath" s_nodes_beneath f_nodes_beneath fd_nodes_beneath
  g_nodes_beneath : mg "nodes_beneath" = some (.ref f_nodes_beneath)
  f_replaced_at : Addr
  fd_replaced_at : FuncData
  F_replaced_at : Fun K "replaced_at" "replaced_at" s_replaced_at f_replaced_at fd_replaced_at
  g_replaced_at : mg "replaced_at" = some (.ref f_replaced_at)
  f__way_of : Addr
  fd__way_of : FuncData
  F__way_of : Fun K "_way_of" "_way_of" s__way_of f__way_of fd__way_of
  g__way_of : mg "_way_of" = some (.ref f__way_of)
  f__parts_below : Addr
  fd__parts_below : FuncData
  F__parts_below : Fun K "_parts_below" "_parts_below" s__parts_below f__parts_below fd__parts_below
  g__parts_below : mg "_parts_below" = some (.ref f__parts_below)
  f__law_tape : Addr
  fd__law_tape : FuncData
  F__law_tape : Fun K "_law_tape" "_law_tape" s__law_tape f__law_tape fd__law_tape
  g__law_tape : mg "_law_tape" = some (.ref f__law_tape)
  f__law_pick : Addr
  fd__law_pick : FuncData
  F__law_pick : Fun K "_law_pick" "_law_pick" s__law_pick f__law_pick fd__law_pick
  g__law_pick : mg "_law_pick" = some (.ref f__law_pick)
  f__law_same : Addr
  fd__law_same : FuncData
  F__law_same : Fun K "_law_same" "_law_same" s__law_same f__law_same fd__law_same
  g__law_same : mg "_law_same" = some (.ref f__law_same)
  f__law_mark : Addr
  fd__law_mark : FuncData
  F__law_mark : Fun K "_law_mark" "_law_mark" s__law_mark f__law_mark fd__law_mark
  g__law_mark : mg "_law_mark" = some (.ref f__law_mark)
  f__law_way : Addr
  fd__law_way : FuncData
  F__law_way : Fun K "_law_way" "_law_way" s__law_way f__law_way fd__law_way
  g__law_way : mg "_law_way" = some (.ref f__law_way)
  f__law_text : Addr
  fd__law_text : FuncData
  F__law_text : Fun K "_law_text" "_law_text" s__law_text f__law_text fd__law_text
  g__law_text : mg "_law_text" = some (.ref f__law_text)
  f__law_span : Addr
  fd__law_span : FuncData
  F__law_span : Fun K "_law_span" "_law_span" s__law_span f__law_span fd__law_span
  g__law_span : mg "_law_span" = some (.ref f__law_span)
  f__law_scene : Addr
  fd__law_scene : FuncData
  F__law_scene : Fun K "_law_scene" "_law_scene" s__law_scene f__law_scene fd__law_scene
  g__law_scene : mg "_law_scene" = some (.ref f__law_scene)
  f__law_parting : Addr
  fd__law_parting : FuncData
  F__law_parting : Fun K "_law_parting" "_law_parting" s__law_parting f__law_parting fd__law_parting
  g__law_parting : mg "_law_parting" = some (.ref f__law_parting)
  f__law_between : Addr
  fd__law_between : FuncData
  F__law_between : Fun K "_law_between" "_law_between" s__law_between f__law_between fd__law_between
  g__law_between : mg "_law_between" = some (.ref f__law_between)
  f__law_due : Addr
  fd__law_due : FuncData
  F__law_due : Fun K "_law_due" "_law_due" s__law_due f__law_due fd__law_due
  g__law_due : mg "_law_due" = some (.ref f__law_due)
  f__law_plain : Addr
  fd__law_plain : FuncData
  F__law_plain : Fun K "_law_plain" "_law_plain" s__law_plain f__law_plain fd__law_plain
  g__law_plain : mg "_law_plain" = some (.ref f__law_plain)
  f__law_scene_right : Addr
  fd__law_scene_right : FuncData
  F__law_scene_right : Fun K "_law_scene_right" "_law_scene_right" s__law_scene_right f__law_scene_right fd__law_scene_right
  g__law_scene_right : mg "_law_scene_right" = some (.ref f__law_scene_right)
  f__law_job_right : Addr
  fd__law_job_right : FuncData
  F__law_job_right : Fun K "_law_job_right" "_law_job_right" s__law_job_right f__law_job_right fd__law_job_right
  g__law_job_right : mg "_law_job_right" = some (.ref f__law_job_right)
  f__law_tall : Addr
  fd__law_tall : FuncData
  F__law_tall : Fun K "_law_tall" "_law_tall" s__law_tall f__law_tall fd__law_tall
  g__law_tall : mg "_law_tall" = some (.ref f__law_tall)
  f__law_tall_right : Addr
  fd__law_tall_right : FuncData
  F__law_tall_right : Fun K "_law_tall_right" "_law_tall_right" s__law_tall_right f__law_tall_right fd__law_tall_right
  g__law_tall_right : mg "_law_tall_right" = some (.ref f__law_tall_right)
  f_law : Addr
  fd_law : FuncData
  F_law : Fun K "law" "law" s_law f_law fd_law
  g_law : mg "law" = some (.ref f_law)
  z_tuple : mg "tuple" = none
  z_zip : mg "zip" = none
  z_all : mg "all" = none
  z_len : mg "len" = none
  z_enumerate : mg "enumerate" = none
  z_set : mg "set" = none
  z_isinstance : mg "isinstance" = none
  z_bool : mg "bool" = none
  z_int : mg "int" = none
  z_sum : mg "sum" = none
  z_range : mg "range" = none
  z_str : mg "str" = none
  z_list : mg "list" = none
  v_SIGNS : ∃ t, mg "SIGNS" = some (.int 1 t)
  v_ROWS : ∃ t, mg "ROWS" = some (.int 2 t)
  v_PAIRS : ∃ t, mg "PAIRS" = some (.int 3 t)
  v_NUMBERS : ∃ t, mg "NUMBERS" = some (.int 4 t)
  v_START : ∃ t, mg "START" = some (.int 5 t)
  v_LOTS : ∃ t, mg "LOTS" = some (.int 6 t)
  v_JUDGES : ∃ t, mg "JUDGES" = some (.int 7 t)
  v_ASKS : ∃ t, mg "ASKS" = some (.int 8 t)
theorem Txt.b_whole_of {K : PySem.W.Frag} {mg : Str → Option Value} (T : Txt K mg) : Binds K T.fd_whole_of ["lengths"] [] := T.F_whole_of.binds fun _ _ _ _ _ _ us hl => by obtain ⟨_, rfl⟩ := us1 hl; rfl
theorem Txt.b_widths_of {K : PySem.W.Frag} {mg : Str → Option Value} (T : Txt K mg) : Binds K T.fd_widths_of ["stretch"] [] := T.F_widths_of.binds fun _ _ _ _ _ _ us hl => by obtain ⟨_, rfl⟩ := us1 hl; rfl
theorem Txt.b_piece_stretches {K : PySem.W.Frag} {mg : Str → Option Value} (T : Txt K mg) : Binds K T.fd_piece_stretches ["stretch", "cut"] [] := T.F_piece_stretches.binds fun _ _ _ _ _ _ us hl => by obtain ⟨_, _, rfl⟩ := us2 hl; rfl
theorem Txt.b_texts_in {K : PySem.W.Frag} {mg : Str → Option Value} (T : Txt K mg) : Binds K T.fd_texts_in ["rows", "stretch"] [] := T.F_texts_in.binds fun _ _ _ _ _ _ us hl => by obtain ⟨_, _, rfl⟩ := us2 hl; rfl
theorem Txt.b_parts_due {K : PySem.W.Frag} {mg : Str → Option Value} (T : Txt K mg) : Binds K T.fd_parts_due ["way", "stretch", "cut"] [] := T.F_parts_due.binds fun _ _ _ _ _ _ us hl => by obtain ⟨_, _, _, rfl⟩ := us3 hl; rfl
theorem Txt.b__pairs_along {K : PySem.W.Frag} {mg : Str → Option Value} (T : Txt K mg) : Binds K T.fd__pairs_along ["start", "widths"] [] := T.F__pairs_along.binds fun _ _ _ _ _ _ us hl => by obtain ⟨_, _, rfl⟩ := us2 hl; rfl
theorem Txt.b_dress_of {K : PySem.W.Frag} {mg : Str → Option Value} (T : Txt K mg) : Binds K T.fd_dress_of ["rows", "way", "stretch", "cut"] [] := T.F_dress_of.binds fun _ _ _ _ _ _ us hl => by obtain ⟨_, _, _, _, rfl⟩ := us4 hl; rfl
theorem Txt.b_letters_hold {K : PySem.W.Frag} {mg : Str → Option Value} (T : Txt K mg) : Binds K T.fd_letters_hold ["book", "way", "dress"] [] := T.F_letters_hold.binds fun _ _ _ _ _ _ us hl => by obtain ⟨_, _, _, rfl⟩ := us3 hl; rfl
theorem Txt.b_tests_hold {K : PySem.W.Frag} {mg : Str → Option Value} (T : Txt K mg) : Binds K T.fd_tests_hold ["book", "way", "dress"] [] := T.F_tests_hold.binds fun _ _ _ _ _ _ us hl => by obtain ⟨_, _, _, rfl⟩ := us3 hl; rfl
theorem Txt.b_plain_dress {K : PySem.W.Frag} {mg : Str → Option Value} (T : Txt K mg) : Binds K T.fd_plain_dress ["book", "kinds"] [] := T.F_plain_dress.binds fun _ _ _ _ _ _ us hl => by obtain ⟨_, _, rfl⟩ := us2 hl; rfl
theorem Txt.b_letters_of {K : PySem.W.Frag} {mg : Str → Option Value} (T : Txt K mg) : Binds K T.fd_letters_of ["book", "mark"] [] := T.F_letters_of.binds fun _ _ _ _ _ _ us hl => by obtain ⟨_, _, rfl⟩ := us2 hl; rfl
theorem Txt.b_text_at {K : PySem.W.Frag} {mg : Str → Option Value} (T : Txt K mg) : Binds K T.fd_text_at ["dress", "ref"] [] := T.F_text_at.binds fun _ _ _ _ _ _ us hl => by obtain ⟨_, _, rfl⟩ := us2 hl; rfl
theorem Txt.b__texts_of {K : PySem.W.Frag} {mg : Str → Option Value} (T : Txt K mg) : Binds K T.fd__texts_of ["rows", "piece", "place"] [] := T.F__texts_of.binds fun _ _ _ _ _ _ us hl => by obtain ⟨_, _, _, rfl⟩ := us3 hl; rfl
theorem Txt.b_fits_dresses {K : PySem.W.Frag} {mg : Str → Option Value} (T : Txt K mg) : Binds K T.fd_fits_dresses ["book", "mark", "text"] [] := T.F_fits_dresses.binds fun _ _ _ _ _ _ us hl => by obtain ⟨_, _, _, rfl⟩ := us3 hl; rfl
theorem Txt.b__plain_texts {K : PySem.W.Frag} {mg : Str → Option Value} (T : Txt K mg) : Binds K T.fd__plain_texts ["book", "kind"] [] := T.F__plain_texts.binds fun _ _ _ _ _ _ us hl => by obtain ⟨_, _, rfl⟩ := us2 hl; rfl
theorem Txt.b_judges_of {K : PySem.W.Frag} {mg : Str → Option Value} (T : Txt K mg) : Binds K T.fd_judges_of ["ask"] [] := T.F_judges_of.binds fun _ _ _ _ _ _ us hl => by obtain ⟨_, rfl⟩ := us1 hl; rfl
theorem Txt.b_has_first {K : PySem.W.Frag} {mg : Str → Option Value} (T : Txt K mg) : Binds K T.fd_has_first ["ask"] [] := T.F_has_first.binds fun _ _ _ _ _ _ us hl => by obtain ⟨_, rfl⟩ := us1 hl; rfl
theorem Txt.b_all_asks {K : PySem.W.Frag} {mg : Str → Option Value} (T : Txt K mg) : Binds K T.fd_all_asks ["ask"] [] := T.F_all_asks.binds fun _ _ _ _ _ _ us hl => by obtain ⟨_, rfl⟩ := us1 hl; rfl
theorem Txt.b_kinds_of {K : PySem.W.Frag} {mg : Str → Option Value} (T : Txt K mg) : Binds K T.fd_kinds_of ["way"] [] := T.F_kinds_of.binds fun _ _ _ _ _ _ us hl => by obtain ⟨_, rfl⟩ := us1 hl; rfl
theorem Txt.b_part_places {K : PySem.W.Frag} {mg : Str → Option Value} (T : Txt K mg) : Binds K T.fd_part_places ["kinds"] [] := T.F_part_places.binds fun _ _ _ _ _ _ us hl => by obtain ⟨_, rfl⟩ := us1 hl; rfl
theorem Txt.b_sign_places {K : PySem.W.Frag} {mg : Str → Option Value} (T : Txt K mg) : Binds K T.fd_sign_places ["kinds"] [] := T.F_sign_places.binds fun _ _ _ _ _ _ us hl => by obtain ⟨_, rfl⟩ := us1 hl; rfl
theorem Txt.b_kinds_by_maker {K : PySem.W.Frag} {mg : Str → Option Value} (T : Txt K mg) : Binds K T.fd_kinds_by_maker ["ways"] [] := T.F_kinds_by_maker.binds fun _ _ _ _ _ _ us hl => by obtain ⟨_, rfl⟩ := us1 hl; rfl
theorem Txt.b__kind_of {K : PySem.W.Frag} {mg : Str → Option Value} (T : Txt K mg) : Binds K T.fd__kind_of ["piece"] [] := T.F__kind_of.binds fun _ _ _ _ _ _ us hl => by obtain ⟨_, rfl⟩ := us1 hl; rfl
theorem Txt.b__refs_to {K : PySem.W.Frag} {mg : Str → Option Value} (T : Txt K mg) : Binds K T.fd__refs_to ["kinds", "words"] [] := T.F__refs_to.binds fun _ _ _ _ _ _ us hl => by obtain ⟨_, _, rfl⟩ := us2 hl; rfl
theorem Txt.b_all_ways {K : PySem.W.Frag} {mg : Str → Option Value} (T : Txt K mg) : Binds K T.fd_all_ways ["program"] [] := T.F_all_ways.binds fun _ _ _ _ _ _ us hl => by obtain ⟨_, rfl⟩ := us1 hl; rfl
theorem Txt.b_look_formulas {K : PySem.W.Frag} {mg : Str → Option Value} (T : Txt K mg) : Binds K T.fd_look_formulas ["program"] [] := T.F_look_formulas.binds fun _ _ _ _ _ _ us hl => by obtain ⟨_, rfl⟩ := us1 hl; rfl
theorem Txt.b_look_asks {K : PySem.W.Frag} {mg : Str → Option Value} (T : Txt K mg) : Binds K T.fd_look_asks ["program"] [] := T.F_look_asks.binds fun _ _ _ _ _ _ us hl => by obtain ⟨_, rfl⟩ := us1 hl; rfl
theorem Txt.b__first_told {K : PySem.W.Frag} {mg : Str → Option Value} (T : Txt K mg) : Binds K T.fd__first_told ["pairs"] [] := T.F__first_told.binds fun _ _ _ _ _ _ us hl => by obtain ⟨_, rfl⟩ := us1 hl; rfl
theorem Txt.b__look_makers_of {K : PySem.W.Frag} {mg : Str → Option Value} (T : Txt K mg) : Binds K T.fd__look_makers_of ["formulas", "sort", "first_kinds", "widths"] [] := T.F__look_makers_of.binds fun _ _ _ _ _ _ us hl => by obtain ⟨_, _, _, _, rfl⟩ := us4 hl; rfl
theorem Txt.b__is_let {K : PySem.W.Frag} {mg : Str → Option Value} (T : Txt K mg) : Binds K T.fd__is_let ["ask", "sorts"] [] := T.F__is_let.binds fun _ _ _ _ _ _ us hl => by obtain ⟨_, _, rfl⟩ := us2 hl; rfl
theorem Txt.b_look_names {K : PySem.W.Frag} {mg : Str → Option Value} (T : Txt K mg) : Binds K T.fd_look_names ["program"] [] := T.F_look_names.binds fun _ _ _ _ _ _ us hl => by obtain ⟨_, rfl⟩ := us1 hl; rfl
theorem Txt.b__look_list {K : PySem.W.Frag} {mg : Str → Option Value} (T : Txt K mg) : Binds K T.fd__look_list ["names"] [] := T.F__look_list.binds fun _ _ _ _ _ _ us hl => by obtain ⟨_, rfl⟩ := us1 hl; rfl
theorem Txt.b_look_mentions {K : PySem.W.Frag} {mg : Str → Option Value} (T : Txt K mg) : Binds K T.fd_look_mentions ["program"] [] := T.F_look_mentions.binds fun _ _ _ _ _ _ us hl => by obtain ⟨_, rfl⟩ := us1 hl; rfl
theorem Txt.b_look_makers {K : PySem.W.Frag} {mg : Str → Option Value} (T : Txt K mg) : Binds K T.fd_look_makers ["program"] [] := T.F_look_makers.binds fun _ _ _ _ _ _ us hl => by obtain ⟨_, rfl⟩ := us1 hl; rfl
theorem Txt.b_look_tests {K : PySem.W.Frag} {mg : Str → Option Value} (T : Txt K mg) : Binds K T.fd_look_tests ["program"] [] := T.F_look_tests.binds fun _ _ _ _ _ _ us hl => by obtain ⟨_, rfl⟩ := us1 hl; rfl
theorem Txt.b__look_name {K : PySem.W.Frag} {mg : Str → Option Value} (T : Txt K mg) : Binds K T.fd__look_name ["name", "names"] [] := T.F__look_name.binds fun _ _ _ _ _ _ us hl => by obtain ⟨_, _, rfl⟩ := us2 hl; rfl
theorem Txt.b_has_only {K : PySem.W.Frag} {mg : Str → Option Value} (T : Txt K mg) : Binds K T.fd_has_only ["word", "characters"] [] := T.F_has_only.binds fun _ _ _ _ _ _ us hl => by obtain ⟨_, _, rfl⟩ := us2 hl; rfl
theorem Txt.b_look_signs {K : PySem.W.Frag} {mg : Str → Option Value} (T : Txt K mg) : Binds K T.fd_look_signs ["program"] [] := T.F_look_signs.binds fun _ _ _ _ _ _ us hl => by obtain ⟨_, rfl⟩ := us1 hl; rfl
theorem Txt.b__words_of {K : PySem.W.Frag} {mg : Str → Option Value} (T : Txt K mg) : Binds K T.fd__words_of ["program"] [] := T.F__words_of.binds fun _ _ _ _ _ _ us hl => by obtain ⟨_, rfl⟩ := us1 hl; rfl
theorem Txt.b__letters_of {K : PySem.W.Frag} {mg : Str → Option Value} (T : Txt K mg) : Binds K T.fd__letters_of ["program"] [] := T.F__letters_of.binds fun _ _ _ _ _ _ us hl => by obtain ⟨_, rfl⟩ := us1 hl; rfl
theorem Txt.b_Book___init__ {K : PySem.W.Frag} {mg : Str → Option Value} (T : Txt K mg) : Binds K T.fd_Book___init__ ["self", "program"] [] := T.F_Book___init__.binds fun _ _ _ _ _ _ us hl => by obtain ⟨_, _, rfl⟩ := us2 hl; rfl
theorem Txt.b_Book_ways {K : PySem.W.Frag} {mg : Str → Option Value} (T : Txt K mg) : Binds K T.fd_Book_ways ["self", "lot"] [] := T.F_Book_ways.binds fun _ _ _ _ _ _ us hl => by obtain ⟨_, _, rfl⟩ := us2 hl; rfl
theorem Txt.b_Book_in_pairs {K : PySem.W.Frag} {mg : Str → Option Value} (T : Txt K mg) : Binds K T.fd_Book_in_pairs ["self", "name", "word"] [] := T.F_Book_in_pairs.binds fun _ _ _ _ _ _ us hl => by obtain ⟨_, _, _, rfl⟩ := us3 hl; rfl
theorem Txt.b__look_all {K : PySem.W.Frag} {mg : Str → Option Value} (T : Txt K mg) : Binds K T.fd__look_all ["program"] [] := T.F__look_all.binds fun _ _ _ _ _ _ us hl => by obtain ⟨_, rfl⟩ := us1 hl; rfl
theorem Txt.b__told_by {K : PySem.W.Frag} {mg : Str → Option Value} (T : Txt K mg) : Binds K T.fd__told_by ["numbers"] [] := T.F__told_by.binds fun _ _ _ _ _ _ us hl => by obtain ⟨_, rfl⟩ := us1 hl; rfl
theorem Txt.b__formulas_of {K : PySem.W.Frag} {mg : Str → Option Value} (T : Txt K mg) : Binds K T.fd__formulas_of ["program"] [] := T.F__formulas_of.binds fun _ _ _ _ _ _ us hl => by obtain ⟨_, rfl⟩ := us1 hl; rfl
theorem Txt.b_mark_box {K : PySem.W.Frag} {mg : Str → Option Value} (T : Txt K mg) : Binds K T.fd_mark_box ["mark"] [] := T.F_mark_box.binds fun _ _ _ _ _ _ us hl => by obtain ⟨_, rfl⟩ := us1 hl; rfl
theorem Txt.b_wrong_at {K : PySem.W.Frag} {mg : Str → Option Value} (T : Txt K mg) : Binds K T.fd_wrong_at ["book", "rows", "candidate", "lot", "stretch"] [] := T.F_wrong_at.binds fun _ _ _ _ _ _ us hl => by obtain ⟨_, _, _, _, _, rfl⟩ := us5 hl; rfl
theorem Txt.b_stands {K : PySem.W.Frag} {mg : Str → Option Value} (T : Txt K mg) : Binds K T.fd_stands ["book", "rows", "candidate", "lot", "stretch"] [] := T.F_stands.binds fun _ _ _ _ _ _ us hl => by obtain ⟨_, _, _, _, _, rfl⟩ := us5 hl; rfl
theorem Txt.b__wrong_here {K : PySem.W.Frag} {mg : Str → Option Value} (T : Txt K mg) : Binds K T.fd__wrong_here ["book", "rows", "tree", "lot", "stretch"] [] := T.F__wrong_here.binds fun _ _ _ _ _ _ us hl => by obtain ⟨_, _, _, _, _, rfl⟩ := us5 hl; rfl
theorem Txt.b__is_number {K : PySem.W.Frag} {mg : Str → Option Value} (T : Txt K mg) : Binds K T.fd__is_number ["value"] [] := T.F__is_number.binds fun _ _ _ _ _ _ us hl => by obtain ⟨_, rfl⟩ := us1 hl; rfl
theorem Txt.b__is_cut {K : PySem.W.Frag} {mg : Str → Option Value} (T : Txt K mg) : Binds K T.fd__is_cut ["cut", "way", "stretch"] [] := T.F__is_cut.binds fun _ _ _ _ _ _ us hl => by obtain ⟨_, _, _, rfl⟩ := us3 hl; rfl
theorem Txt.b__adds_up {K : PySem.W.Frag} {mg : Str → Option Value} (T : Txt K mg) : Binds K T.fd__adds_up ["widths", "many", "width"] [] := T.F__adds_up.binds fun _ _ _ _ _ _ us hl => by obtain ⟨_, _, _, rfl⟩ := us3 hl; rfl
theorem Txt.b__widths_fit {K : PySem.W.Frag} {mg : Str → Option Value} (T : Txt K mg) : Binds K T.fd__widths_fit ["way", "cut"] [] := T.F__widths_fit.binds fun _ _ _ _ _ _ us hl => by obtain ⟨_, _, rfl⟩ := us2 hl; rfl
theorem Txt.b__lets {K : PySem.W.Frag} {mg : Str → Option Value} (T : Txt K mg) : Binds K T.fd__lets ["mark", "width"] [] := T.F__lets.binds fun _ _ _ _ _ _ us hl => by obtain ⟨_, _, rfl⟩ := us2 hl; rfl
theorem Txt.b_height_of {K : PySem.W.Frag} {mg : Str → Option Value} (T : Txt K mg) : Binds K T.fd_height_of ["candidate"] [] := T.F_height_of.binds fun _ _ _ _ _ _ us hl => by obtain ⟨_, rfl⟩ := us1 hl; rfl
theorem Txt.b_node_at {K : PySem.W.Frag} {mg : Str → Option Value} (T : Txt K mg) : Binds K T.fd_node_at ["candidate", "path"] [] := T.F_node_at.binds fun _ _ _ _ _ _ us hl => by obtain ⟨_, _, rfl⟩ := us2 hl; rfl
theorem Txt.b_nodes_of {K : PySem.W.Frag} {mg : Str → Option Value} (T : Txt K mg) : Binds K T.fd_nodes_of ["book", "candidate", "stretch"] [] := T.F_nodes_of.binds fun _ _ _ _ _ _ us hl => by obtain ⟨_, _, _, rfl⟩ := us3 hl; rfl
theorem Txt.b_nodes_beneath {K : PySem.W.Frag} {mg : Str → Option Value} (T : Txt K mg) : Binds K T.fd_nodes_beneath ["book", "candidate", "stretch"] [] := T.F_nodes_beneath.binds fun _ _ _ _ _ _ us hl => by obtain ⟨_, _, _, rfl⟩ := us3 hl; rfl
theorem Txt.b__way_of {K : PySem.W.Frag} {mg : Str → Option Value} (T : Txt K mg) : Binds K T.fd__way_of ["book", "candidate"] [] := T.F__way_of.binds fun _ _ _ _ _ _ us hl => by obtain ⟨_, _, rfl⟩ := us2 hl; rfl
theorem Txt.b__parts_below {K : PySem.W.Frag} {mg : Str → Option Value} (T : Txt K mg) : Binds K T.fd__parts_below ["trees"] [] := T.F__parts_below.binds fun _ _ _ _ _ _ us hl => by obtain ⟨_, rfl⟩ := us1 hl; rfl
theorem Txt.b__law_tape {K : PySem.W.Frag} {mg : Str → Option Value} (T : Txt K mg) : Binds K T.fd__law_tape ["_law_script"] [] := T.F__law_tape.binds fun _ _ _ _ _ _ us hl => by obtain ⟨_, rfl⟩ := us1 hl; rfl
theorem Txt.b__law_pick {K : PySem.W.Frag} {mg : Str → Option Value} (T : Txt K mg) : Binds K T.fd__law_pick ["_law_tape_here", "_law_many"] [] := T.F__law_pick.binds fun _ _ _ _ _ _ us hl => by obtain ⟨_, _, rfl⟩ := us2 hl; rfl
theorem Txt.b__law_same {K : PySem.W.Frag} {mg : Str → Option Value} (T : Txt K mg) : Binds K T.fd__law_same ["_law_told", "_law_due_here"] [] := T.F__law_same.binds fun _ _ _ _ _ _ us hl => by obtain ⟨_, _, rfl⟩ := us2 hl; rfl
theorem Txt.b__law_mark {K : PySem.W.Frag} {mg : Str → Option Value} (T : Txt K mg) : Binds K T.fd__law_mark ["_law_tape_here", "_law_signs"] [] := T.F__law_mark.binds fun _ _ _ _ _ _ us hl => by obtain ⟨_, _, rfl⟩ := us2 hl; rfl
theorem Txt.b__law_way {K : PySem.W.Frag} {mg : Str → Option Value} (T : Txt K mg) : Binds K T.fd__law_way ["_law_tape_here", "_law_maker", "_law_signs", "_law_sides"] [] := T.F__law_way.binds fun _ _ _ _ _ _ us hl => by obtain ⟨_, _, _, _, rfl⟩ := us4 hl; rfl
theorem Txt.b__law_text {K : PySem.W.Frag} {mg : Str → Option Value} (T : Txt K mg) : Binds K T.fd__law_text ["_law_tape_here", "_law_signs"] [] := T.F__law_text.binds fun _ _ _ _ _ _ us hl => by obtain ⟨_, _, rfl⟩ := us2 hl; rfl
theorem Txt.b__law_span {K : PySem.W.Frag} {mg : Str → Option Value} (T : Txt K mg) : Binds K T.fd__law_span ["_law_tape_here", "_law_size"] [] := T.F__law_span.binds fun _ _ _ _ _ _ us hl => by obtain ⟨_, _, rfl⟩ := us2 hl; rfl
theorem Txt.b__law_scene {K : PySem.W.Frag} {mg : Str → Option Value} (T : Txt K mg) : Binds K T.fd__law_scene ["_law_tape_here", "_law_signs", "_law_sides"] [] := T.F__law_scene.binds fun _ _ _ _ _ _ us hl => by obtain ⟨_, _, _, rfl⟩ := us3 hl; rfl
theorem Txt.b__law_parting {K : PySem.W.Frag} {mg : Str → Option Value} (T : Txt K mg) : Binds K T.fd__law_parting ["_law_tape_here", "_law_width", "_law_many"] [] := T.F__law_parting.binds fun _ _ _ _ _ _ us hl => by obtain ⟨_, _, _, rfl⟩ := us3 hl; rfl
theorem Txt.b__law_between {K : PySem.W.Frag} {mg : Str → Option Value} (T : Txt K mg) : Binds K T.fd__law_between ["_law_text_here", "_law_start", "_law_end"] [] := T.F__law_between.binds fun _ _ _ _ _ _ us hl => by obtain ⟨_, _, _, rfl⟩ := us3 hl; rfl
theorem Txt.b__law_due {K : PySem.W.Frag} {mg : Str → Option Value} (T : Txt K mg) : Binds K T.fd__law_due ["_law_branch", "_law_texts", "_law_span_here", "_law_parting_here"] [] := T.F__law_due.binds fun _ _ _ _ _ _ us hl => by obtain ⟨_, _, _, _, rfl⟩ := us4 hl; rfl
theorem Txt.b__law_plain {K : PySem.W.Frag} {mg : Str → Option Value} (T : Txt K mg) : Binds K T.fd__law_plain ["_law_branch", "_law_first"] [] := T.F__law_plain.binds fun _ _ _ _ _ _ us hl => by obtain ⟨_, _, rfl⟩ := us2 hl; rfl
theorem Txt.b__law_scene_right {K : PySem.W.Frag} {mg : Str → Option Value} (T : Txt K mg) : Binds K T.fd__law_scene_right ["_law_texts", "_law_span_here"] [] := T.F__law_scene_right.binds fun _ _ _ _ _ _ us hl => by obtain ⟨_, _, rfl⟩ := us2 hl; rfl
theorem Txt.b__law_job_right {K : PySem.W.Frag} {mg : Str → Option Value} (T : Txt K mg) : Binds K T.fd__law_job_right ["_law_branch", "_law_texts", "_law_span_here", "_law_parting_here"] [] := T.F__law_job_right.binds fun _ _ _ _ _ _ us hl => by obtain ⟨_, _, _, _, rfl⟩ := us4 hl; rfl
theorem Txt.b__law_tall {K : PySem.W.Frag} {mg : Str → Option Value} (T : Txt K mg) : Binds K T.fd__law_tall ["_law_tape_here", "_law_signs", "_law_sides", "_law_front"] [] := T.F__law_tall.binds fun _ _ _ _ _ _ us hl => by obtain ⟨_, _, _, _, rfl⟩ := us4 hl; rfl
theorem Txt.b__law_tall_right {K : PySem.W.Frag} {mg : Str → Option Value} (T : Txt K mg) : Binds K T.fd__law_tall_right ["_law_tape_here", "_law_signs", "_law_sides"] [] := T.F__law_tall_right.binds fun _ _ _ _ _ _ us hl => by obtain ⟨_, _, _, rfl⟩ := us3 hl; rfl
theorem Txt.kw_dress_of {K : PySem.W.Frag} {mg : Str → Option Value} (T : Txt K mg) : KwAll K T.fd_dress_of ["rows", "way", "stretch", "cut"] ["rows", "way", "stretch", "cut"] := kw_all T.F_dress_of fun _ _ _ _ _ _ ws hl => by obtain ⟨_, _, _, _, rfl⟩ := us4 hl; rfl
theorem Txt.kw_height_of {K : PySem.W.Frag} {mg : Str → Option Value} (T : Txt K mg) : KwAll K T.fd_height_of ["candidate"] ["candidate"] := kw_all T.F_height_of fun _ _ _ _ _ _ ws hl => by obtain ⟨_, rfl⟩ := us1 hl; rfl
theorem Txt.kp_node_at_1_0 {K : PySem.W.Frag} {mg : Str → Option Value} (T : Txt K mg) : KwP K T.fd_node_at ["candidate", "path"] ["path", "candidate"] [1, 0] := kw_perm T.F_node_at rfl fun _ _ _ _ _ _ ws hl => by obtain ⟨_, _, rfl⟩ := us2 hl; rfl
theorem Txt.kp_piece_stretches_1_0 {K : PySem.W.Frag} {mg : Str → Option Value} (T : Txt K mg) : KwP K T.fd_piece_stretches ["stretch", "cut"] ["cut", "stretch"] [1, 0] := kw_perm T.F_piece_stretches rfl fun _ _ _ _ _ _ ws hl => by obtain ⟨_, _, rfl⟩ := us2 hl; rfl
theorem Txt.kp_plain_dress_1_0 {K : PySem.W.Frag} {mg : Str → Option Value} (T : Txt K mg) : KwP K T.fd_plain_dress ["book", "kinds"] ["kinds", "book"] [1, 0] := kw_perm T.F_plain_dress rfl fun _ _ _ _ _ _ ws hl => by obtain ⟨_, _, rfl⟩ := us2 hl; rfl
theorem Txt.kp_replaced_at_2_1_0 {K : PySem.W.Frag} {mg : Str → Option Value} (T : Txt K mg) : KwP K T.fd_replaced_at ["candidate", "path", "other"] ["other", "path", "candidate"] [2, 1, 0] := kw_perm T.F_replaced_at rfl fun _ _ _ _ _ _ ws hl => by obtain ⟨_, _, _, rfl⟩ := us3 hl; rfl
theorem Txt.kp_texts_in_1_0 {K : PySem.W.Frag} {mg : Str → Option Value} (T : Txt K mg) : KwP K T.fd_texts_in ["rows", "stretch"] ["stretch", "rows"] [1, 0] := kw_perm T.F_texts_in rfl fun _ _ _ _ _ _ ws hl => by obtain ⟨_, _, rfl⟩ := us2 hl; rfl
theorem Txt.kw_whole_of {K : PySem.W.Frag} {mg : Str → Option Value} (T : Txt K mg) : KwAll K T.fd_whole_of ["lengths"] ["lengths"] := kw_all T.F_whole_of fun _ _ _ _ _ _ ws hl => by obtain ⟨_, rfl⟩ := us1 hl; rfl
theorem Txt.kw_widths_of {K : PySem.W.Frag} {mg : Str → Option Value} (T : Txt K mg) : KwAll K T.fd_widths_of ["stretch"] ["stretch"] := kw_all T.F_widths_of fun _ _ _ _ _ _ ws hl => by obtain ⟨_, rfl⟩ := us1 hl; rfl
theorem Txt.kp_wrong_at_4_3_2_1_0 {K : PySem.W.Frag} {mg : Str → Option Value} (T : Txt K mg) : KwP K T.fd_wrong_at ["book", "rows", "candidate", "lot", "stretch"] ["stretch", "lot", "candidate", "rows", "book"] [4, 3, 2, 1, 0] := kw_perm T.F_wrong_at rfl fun _ _ _ _ _ _ ws hl => by obtain ⟨_, _, _, _, _, rfl⟩ := us5 hl; rfl
theorem Txt.ini_TwiceNamed {P : Program} {w : World} {K : PySem.W.Frag} {mg : Str → Option Value} {base : Heap} (T : Txt K mg) : FnOk P w K mg base CX0 1 T.fi_TwiceNamed T.fdi_TwiceNamed ["self", "name"] (iniSp K ["name"]) := ini_one T.Fi_TwiceNamed sci_TwiceNamed fun _ _ _ _ _ _ => pss_one (ps_ost (pv 0) (pv 1))
theorem Txt.bi_TwiceNamed {K : PySem.W.Frag} {mg : Str → Option Value} (T : Txt K mg) : Binds K T.fdi_TwiceNamed ["self", "name"] [] := T.Fi_TwiceNamed.binds fun _ _ _ _ _ _ us hl => by obtain ⟨_, _, rfl⟩ := us2 hl; rfl
theorem Txt.ini_BadSign {P : Program} {w : World} {K : PySem.W.Frag} {mg : Str → Option Value} {base : Heap} (T : Txt K mg) : FnOk P w K mg base CX0 1 T.fi_BadSign T.fdi_BadSign ["self", "word"] (iniSp K ["word"]) := ini_one T.Fi_BadSign sci_BadSign fun _ _ _ _ _ _ => pss_one (ps_ost (pv 0) (pv 1))
theorem Txt.bi_BadSign {K : PySem.W.Frag} {mg : Str → Option Value} (T : Txt K mg) : Binds K T.fdi_BadSign ["self", "word"] [] := T.Fi_BadSign.binds fun _ _ _ _ _ _ us hl => by obtain ⟨_, _, rfl⟩ := us2 hl; rfl
theorem Txt.ini_NoName {P : Program} {w : World} {K : PySem.W.Frag} {mg : Str → Option Value} {base : Heap} (T : Txt K mg) : FnOk P w K mg base CX0 1 T.fi_NoName T.fdi_NoName ["self", "name"] (iniSp K ["name"]) := ini_one T.Fi_NoName sci_NoName fun _ _ _ _ _ _ => pss_one (ps_ost (pv 0) (pv 1))
theorem Txt.bi_NoName {K : PySem.W.Frag} {mg : Str → Option Value} (T : Txt K mg) : Binds K T.fdi_NoName ["self", "name"] [] := T.Fi_NoName.binds fun _ _ _ _ _ _ us hl => by obtain ⟨_, _, rfl⟩ := us2 hl; rfl
theorem Txt.ini_BadMaker {P : Program} {w : World} {K : PySem.W.Frag} {mg : Str → Option Value} {base : Heap} (T : Txt K mg) : FnOk P w K mg base CX0 1 T.fi_BadMaker T.fdi_BadMaker ["self", "maker"] (iniSp K ["maker"]) := ini_one T.Fi_BadMaker sci_BadMaker fun _ _ _ _ _ _ => pss_one (ps_ost (pv 0) (pv 1))
theorem Txt.bi_BadMaker {K : PySem.W.Frag} {mg : Str → Option Value} (T : Txt K mg) : Binds K T.fdi_BadMaker ["self", "maker"] [] := T.Fi_BadMaker.binds fun _ _ _ _ _ _ us hl => by obtain ⟨_, _, rfl⟩ := us2 hl; rfl
theorem Txt.ini_BadRef {P : Program} {w : World} {K : PySem.W.Frag} {mg : Str → Option Value} {base : Heap} (T : Txt K mg) : FnOk P w K mg base CX0 1 T.fi_BadRef T.fdi_BadRef ["self", "maker"] (iniSp K ["maker"]) := ini_one T.Fi_BadRef sci_BadRef fun _ _ _ _ _ _ => pss_one (ps_ost (pv 0) (pv 1))
theorem Txt.bi_BadRef {K : PySem.W.Frag} {mg : Str → Option Value} (T : Txt K mg) : Binds K T.fdi_BadRef ["self", "maker"] [] := T.Fi_BadRef.binds fun _ _ _ _ _ _ us hl => by obtain ⟨_, _, rfl⟩ := us2 hl; rfl
theorem Txt.ini_Missing {P : Program} {w : World} {K : PySem.W.Frag} {mg : Str → Option Value} {base : Heap} (T : Txt K mg) : FnOk P w K mg base CX0 1 T.fi_Missing T.fdi_Missing ["self", "judge", "maker"] (iniSp K ["judge", "maker"]) := ini_two T.Fi_Missing sci_Missing fun _ _ _ _ _ _ => pss_cons (ps_ost (pv 0) (pv 1)) (pss_one (ps_ost (pv 0) (pv 2)))
theorem Txt.bi_Missing {K : PySem.W.Frag} {mg : Str → Option Value} (T : Txt K mg) : Binds K T.fdi_Missing ["self", "judge", "maker"] [] := T.Fi_Missing.binds fun _ _ _ _ _ _ us hl => by obtain ⟨_, _, _, rfl⟩ := us3 hl; rfl
theorem Txt.ini_BadAsk {P : Program} {w : World} {K : PySem.W.Frag} {mg : Str → Option Value} {base : Heap} (T : Txt K mg) : FnOk P w K mg base CX0 1 T.fi_BadAsk T.fdi_BadAsk ["self", "name"] (iniSp K ["name"]) := ini_one T.Fi_BadAsk sci_BadAsk fun _ _ _ _ _ _ => pss_one (ps_ost (pv 0) (pv 1))
theorem Txt.bi_BadAsk {K : PySem.W.Frag} {mg : Str → Option Value} (T : Txt K mg) : Binds K T.fdi_BadAsk ["self", "name"] [] := T.Fi_BadAsk.binds fun _ _ _ _ _ _ us hl => by obtain ⟨_, _, rfl⟩ := us2 hl; rfl
local macro_rules | `(tactic| walk_at "pd") => `(tactic| simp (config := { decide := true, maxSteps := 400000 }) only [dIZipL, dFzT, dDGetTU, dDInTU, dDGet2TU, dDcT, dDCompT, dFzT, dIsB_b, dStrI_i, dTupS_s, dRevT, revT_tx, Bk.pd_sg, Bk.pd_rows, Bk.pd_pairs, Bk.pd_nums, Bk.pd_start, Bk.pd_lots, Bk.pd_js, Bk.pd_as, dFldO, dFldV_o, dMethO, dMethV_o, dDGetU, dDInU, dDGet2U, dDc, dDComp, dIKeys, dFrzD_v, dFrzT_v, dFrzO, dFz, dFzD, dSetF, dMakeX, dMake, dSet0, dSAdd, Bk.dMethV_bk, Bk.dFldV_bk, Bk.bk_program, Bk.bk_signs, Bk.bk_rows, Bk.bk_start, Bk.bk_ways, Bk.bk_kinds, Bk.bk_pairs, Bk.bk_numbers, Bk.bk_sorts, Bk.bk_formulas, Bk.bk_asks, Bk.bk_m1, Bk.bk_m2, Bk.bk_m3, Bk.bk_m4, Bk.bk_m5, Bk.bk_m6, Bk.bk_m7, Bk.bk_m8, Bk.bk_m9, Bk.bk_ma, Bk.bk_mb, Bk.bk_mc, Bk.atI_5, Bk.atI_6, Bk.atI_7, Bk.atI_8, dAbs_i, tx_app, tx_len, tx_emp, dIx_tx, sgn_tx, cutS_to, cutS_fr, cutS_fr1, dPar, dIRng2, dIEnumS, dIStr, dInSg, dJoin, dSlS, dUpper, dChain, dDNewT, dDGetT, dDPutT, dMin3_i, dMax3_i, dCallX, dRaise, dSeq, dSet, dAsg, dgN, dRet, dRetN, dIfS, dFor, dLoop, dDrop, dNext, dVar, dC, dNil, dCons, dOp, dUn, dTest, dTru, dAnd, dOr, dNot, dAndV, dOrV, dNotV, dIfE, dTup, dLst, dCB, dCall, dCallP, dBM, dBML, dBM0, dLc, dComp, dYes, dgTup, dgCons, dgNil, dgSub, dPart, dNoPart, dAug, dIsi, dEq, dNe, wipeD, endsOf,
  dFrz, dFrzV_i, dFrzV_s, dFrzV_b, dFrzV_n, dFrzV_t, dFrzV_l, dFrzV_r, dAddL_i, dAddL_s, dAddL_t, dAddL_rr, dAddL_rl, dAddL_lr, dAddL_ll, dMulT_t, dMulT_i, dMulT_s, dMulL_i, dMulL_s, dMulL_r, dSlL_v, dSlLV_t, dSlLV_l, dSlLV_r, dMinU_1, dMinU_2, dSumL_1, dSetTx_1, dIx_l, dLen_l, dInG_l, truD_rol, tyD_rol, dInt1_b, dISeqV_l, dLtS_i, dLtS_s, ltP_i, ltP_s, lsq_rol, dDNew, dDGet, dDGet2, dDSetd, dDPut, dSub_i, dInt2_i, dNeg_i, dCmp_i, dIsN_n, dNotN_n, dInG_t, dInG_r, dIx_t, dIx_r, dLen_s, dLen_t, dLen_r, dTuple_1, dList_1, dInt1_i, dRev_v, dRevV_t, dRevV_r, dISeq_v, dISeqV_t, dISeqV_r, dIEnum_v, dIEnumV_t, dIEnumV_r, dPop_0, dPop_i, dAppend_1, dExtend_1, dSub3_i, dIRng1_v, dRng1V_i,
  seqOf_tup, seqOf_rol, seqW_tup, eqK_ss, eqK_ii, eqK_bb, eqK_nn, eqK_ts, eqK_st, eqK_ti, eqK_is, eqK_ns, flatD_str, flatD_int, flatD_bl, flatD_non, isT_NoneType_bool, isT_NoneType_int, isT_NoneType_str, isT_NoneType_tuple, isT_NoneType_list, isT_bool_bool, isT_bool_int, isT_bool_str, isT_bool_tuple, isT_bool_list, isT_int_bool, isT_int_int, isT_int_str, isT_int_tuple, isT_int_list, isT_str_bool, isT_str_int, isT_str_str, isT_str_tuple, isT_str_list, isT_tuple_bool, isT_tuple_int, isT_tuple_str, isT_tuple_tuple, isT_tuple_list, isT_list_bool, isT_list_int, isT_list_str, isT_list_tuple, isT_list_list, isNon_non, isNon_bl, isNon_int, isNon_str, isNon_tup, tyD_non, tyD_bl, tyD_int, tyD_str, tyD_tup, truD_bl, truD_int, truD_tup,
  atI_0, atI_1, atI_2, atI_3, atI_4, atI_m1, atI_m2, atI_m3, Option.some.injEq, exists_eq_left', exists_eq_left, beq_self_eq_true, Bool.not_true, Bool.not_false, if_true, if_false, true_and, and_true, Bool.false_eq_true, ↓reduceIte,
  List.getElem?_cons_zero, List.getElem?_cons_succ, List.set_cons_zero, List.set_cons_succ, List.map_cons, List.map_nil, List.length_cons, List.length_nil, mset_same, mset_mset, List.isEmpty_nil, List.isEmpty_cons, decide_eq_true_eq, beq_iff_eq, seqI_0, List.eraseIdx_cons_zero, List.eraseIdx_cons_succ, ixN_40, ixN_41, ixN_42, ixN_43, Nat.reduceAdd])
local macro_rules | `(tactic| walk_at "ne") => `(tactic| first | assumption | exact Ne.symm (by assumption))
local macro_rules | `(tactic| walk_at "mu") => `(tactic| first | exact mset_same | assumption | exact mset_skip (by walk_at "ne") (by walk_at "mu"))
local macro_rules | `(tactic| walk_at "go") => `(tactic| repeat (first | walk_at "pd" | refine ⟨_, seqOf_ref (by walk_at "mu"), ?_⟩ | refine ⟨⟨_, _, lstOf_ref (by walk_at "mu")⟩, ?_⟩ | refine ⟨_, _, lstOf_ref (by walk_at "mu"), ?_⟩ | refine ⟨(show CMul _ _ from Or.inr ⟨by decide, by decide⟩), ?_⟩ | refine ⟨(show CDiv _ _ from ⟨by decide, by decide⟩), ?_⟩))
local macro_rules | `(tactic| walk_at "w") => `(tactic| try walk_at "pd")
section
variable {P : Program} {w : World} {K : PySem.W.Frag} {mg : Str → Option Value} {base : Heap}
def sp_all_ways : SpD := fun ds m Q => ∃ p : Prog, ds = [p.d] ∧ Sizes p ∧ Q (.rol (p.ways.map Way.d)) m
theorem ok_all_ways  (T : Txt K mg)  : FnOk P w K mg base CX0 (1) T.f_all_ways T.fd_all_ways ["program"] (spL K 1 sp_all_ways) := by
  refine fn_ok T.F_all_ways sc_all_ways (fun cdv A outer s H E hr =>
(gss_cons (gs_set (i := 1) sc_all_ways.nd rfl (.inl rfl) (ge_lst ga_nil))
 (gss_cons (gs_for PassesOwn.never rfl (gi_seq (ge_ix (gv 0) (ge_glb (by rfl) T.v_LOTS))) (gg_name (i := 2) sc_all_ways.nd rfl (.inl rfl))
 (gss_one (gs_expr (ge_bm PySem.F.slot_list_extend PySem.F.type_list_extend mt_extendU lm_extend (gv 1) (ga_cons (ge_ix (gv 2) ge_int) ga_nil)))))
 (gss_one (gs_ret (ge_frz (gv 1))))))) (fun ds m Q h => ?_)
  obtain ⟨p, rfl, hz, h⟩ := h
  rw [show startD N_all_ways [p.d] = [some (p.d), none, none] from rfl]
  unfold Prog.d
  walk_at "pd"
  intro q hq
  refine loop_accT (m0 := m) (p := q) (fun s' => ∃ x, s' = [some p.d, some (.ref q), x]) lotD (fun l => l.2.map Way.d) (us := p.lots) (init := []) (fun _ _ => trivial) ?_ ?_ ⟨_, rfl⟩ (PD.Sub.new hq) mset_same
  · rintro l hl acc s' m' R ⟨x, rfl⟩ b1 b2 hz2 hR
    unfold lotD waysD
    walk_at "pd"
    refine ⟨⟨_, _, lstOf_ref b2⟩, _, _, _, lstOf_ref b2, rfl, ?_, hR _ _ ⟨_, rfl⟩ ?_ mset_same⟩
    · have e : ([] ++ p.lots.flatMap fun l => l.2.map Way.d) = (p.ways).map Way.d := by
        unfold Prog.ways; rw [List.nil_append, List.map_flatMap]
      rw [e] at hz2
      have := hz.ways
      have e2 : (p.ways.map Way.d).length = p.ways.length := List.length_map _
      rw [e2] at hz2
      exact Nat.le_trans hz2 (Nat.le_trans this (by decide))
    · exact PD.Sub.new' b1 hq
  · rintro s' m' ⟨x, rfl⟩ b1 b2
    walk_at "pd"
    refine ⟨_, b2, m, b1.del hq, ?_⟩
    have e : ([] ++ p.lots.flatMap fun l => l.2.map Way.d) = (p.ways).map Way.d := by
      unfold Prog.ways; rw [List.nil_append, List.map_flatMap]
    rw [e]; exact h
def sp__kind_of : SpD := fun ds m Q => ∃ q : Piece, ds = [q.d] ∧ (∀ ms, q = .plain ms → ms.length ≤ 10) ∧ Q (kindD q.k) m
theorem ok__kind_of  (T : Txt K mg)  : FnOk P w K mg base CX0 (1) T.f__kind_of T.fd__kind_of ["piece"] (spL K 1 sp__kind_of) := by
  refine fn_ok T.F__kind_of sc__kind_of (fun cdv A outer s H E hr =>
(gss_cons (gs_if (gt_cmpR (op_eqS hr.units) lr_eq (ge_ix (gv 0) ge_int) ge_str (nomark _))
 (gss_one (gs_ret ge_str))
 gss_nil)
 (gss_one (gs_ret (ge_callTy call_tuple_of lc_tuple (by rfl) T.z_tuple (by decide +kernel) (ga_cons (ge_lc (own := [("mark", 1)]) rfl sc__kind_of.nd (gi_seq (ge_ix (gv 0) ge_int)) (blkOk_by (N := N__kind_of) (sc := defScope s__kind_of) (by decide +kernel)) (fun _ _ _ _ _ => (gg_name (i := 1) sc__kind_of.nd rfl (.inl rfl))) (fun _ _ _ _ _ => gts_nil) (fun _ _ _ _ _ => (ge_ix (gv 1) ge_int)) (by decide)) ga_nil)))))) (fun ds m Q h => ?_)
  obtain ⟨q, rfl, hz, h⟩ := h
  rw [show startD N__kind_of [q.d] = [some (q.d), none] from rfl]
  cases q with
  | lot n =>
    unfold Piece.d
    walk_at "pd"
    exact sub_refl_fin h
  | plain ms =>
    unfold Piece.d
    walk_at "pd"
    intro q hq
    refine comp_all Mark.d (fun a => .str a.w.s) (fun _ => trivial) (by have := hz ms rfl; omega) (fun a ha acc R1 k1 => ?_) ?_
    · cases a <;> unfold Mark.d <;> walk_at "pd" <;> exact k1
    · refine ⟨_, seqOf_ref mset_same, m, PD.Sub.new hq, ?_⟩
      have e : (ms.map fun a => D.str a.w.s) = (ms.map Mark.w).map fun a => D.str a.s := by rw [List.map_map]; rfl
      rw [e]; exact h
def sp_kinds_of : SpD := fun ds m Q => ∃ y : Way, ds = [y.d] ∧ y.ps.length ≤ 100 ∧ (∀ ms, Piece.plain ms ∈ y.ps → ms.length ≤ 10) ∧ Q (kindsD y.k) m
theorem ok_kinds_of  (T : Txt K mg) (G__kind_of : FnOk P w K mg base CX0 (1) T.f__kind_of T.fd__kind_of ["piece"] (spL K 1 sp__kind_of)) : FnOk P w K mg base CX0 (2) T.f_kinds_of T.fd_kinds_of ["way"] (spL K 1 sp_kinds_of) := by
  refine fn_ok T.F_kinds_of sc_kinds_of (fun cdv A outer s H E hr =>
(gss_one (gs_ret (ge_callTy call_tuple_of lc_tuple (by rfl) T.z_tuple (by decide +kernel) (ga_cons (ge_lc (own := [("piece", 1)]) rfl sc_kinds_of.nd (gi_seq (ge_ix (gv 0) ge_int)) (blkOk_by (N := N_kinds_of) (sc := defScope s_kinds_of) (by decide +kernel)) (fun _ _ _ _ _ => (gg_name (i := 1) sc_kinds_of.nd rfl (.inl rfl))) (fun _ _ _ _ _ => gts_nil) (fun _ _ _ _ _ => (ge_call G__kind_of (hr.mono (by omega)) (by rfl) T.g__kind_of T.F__kind_of.kp T.b__kind_of (ga_cons (gv 1) ga_nil))) (by decide)) ga_nil))))) (fun ds m Q h => ?_)
  obtain ⟨y, rfl, hz, hz2, h⟩ := h
  rw [show startD N_kinds_of [y.d] = [some (y.d), none] from rfl]
  unfold Way.d
  walk_at "pd"
  intro q hq
  refine comp_all Piece.d (fun a => kindD a.k) (fun _ => trivial) (by omega) (fun a ha acc R1 k1 => ?_) ?_
  · walk_at "pd"
    exact ⟨a, rfl, fun ms e => hz2 ms (e ▸ ha), k1⟩
  · refine ⟨_, seqOf_ref mset_same, m, PD.Sub.new hq, ?_⟩
    unfold kindsD Way.k at h
    rw [List.map_map] at h
    exact h
def sp__refs_to : SpD := fun ds m Q => ∃ (ks : List Knd) (ws : List D) (S : MW → Bool), ds = [kindsD ks, .tup ws] ∧ ws.all flatD = true ∧ (∀ a : MW, inF (.str a.s) ws = S a) ∧ ks.length ≤ 100 ∧ (∀ k, some k ∈ ks → k.length ≤ 10) ∧ Q (.tup ((refsTo S ks).map refD)) m
theorem ok__refs_to  (T : Txt K mg)  : FnOk P w K mg base CX0 (1) T.f__refs_to T.fd__refs_to ["kinds", "words"] (spL K 2 sp__refs_to) := by
  refine fn_ok T.F__refs_to sc__refs_to (fun cdv A outer s H E hr =>
(gss_cons (gs_set (i := 2) sc__refs_to.nd rfl (.inl rfl) (ge_lst ga_nil))
 (gss_cons (gs_for PassesOwn.never rfl (gi_enum (by rfl) T.z_enumerate (ga_cons (gv 0) ga_nil)) (gg_tup (n := 2) rfl (ggs_cons (gg_name (i := 3) sc__refs_to.nd rfl (.inr rfl)) (ggs_cons (gg_name (i := 4) sc__refs_to.nd rfl (.inl rfl)) ggs_nil)))
 (gss_one (gs_if (gt_cmpR (op_neS hr.units) lr_ne (gv 4) ge_str (nomark _))
 (gss_one (gs_expr (ge_bm PySem.F.slot_list_extend PySem.F.type_list_extend mt_extendU lm_extend (gv 2) (ga_cons (ge_lc (own := [("row", 5), ("word", 6)]) rfl sc__refs_to.nd (gi_enum (by rfl) T.z_enumerate (ga_cons (gv 4) ga_nil)) (blkOk_by (N := N__refs_to) (sc := defScope s__refs_to) (by decide +kernel)) (fun _ _ _ _ _ => (gg_tup (n := 2) rfl (ggs_cons (gg_name (i := 5) sc__refs_to.nd rfl (.inl rfl)) (ggs_cons (gg_name (i := 6) sc__refs_to.nd rfl (.inl rfl)) ggs_nil)))) (fun _ _ _ _ _ => (gts_one (gt_cmpR op_inU lr_in (gv 6) (gv 1) (by rfl)))) (fun _ _ _ _ _ => (ge_tup (ga_cons (gv 3) (ga_cons (gv 5) ga_nil)))) (by decide)) ga_nil))))
 gss_nil)))
 (gss_one (gs_ret (ge_callTy call_tuple_of lc_tuple (by rfl) T.z_tuple (by decide +kernel) (ga_cons (gv 2) ga_nil))))))) (fun ds m Q h => ?_)
  obtain ⟨ks, ws, S, rfl, hf, hS, hz, hz2, h⟩ := h
  rw [show startD N__refs_to [kindsD ks, .tup ws] = [some (kindsD ks), some (.tup ws), none, none, none, none, none] from rfl]
  unfold kindsD
  walk_at "pd"
  intro q hq
  rw [enumD_map]
  refine loop_accT (m0 := m) (p := q) (fun s' => ∃ x y z u, s' = [some (.tup (ks.map kindD)), some (.tup ws), some (.ref q), x, y, z, u]) (fun p : Knd × Nat => D.tup [.int (p.2 : Int), kindD p.1]) (fun p => match p.1 with | none => [] | some ws => (refsOf p.2 S ws).map refD) (us := ks.zipIdx) (init := []) (fun _ _ => trivial) ?_ ?_ ⟨_, _, _, _, rfl⟩ (PD.Sub.new hq) mset_same
  · rintro ⟨k, i⟩ hk acc s' m' R ⟨x, y, z, u, rfl⟩ b1 b2 hz3 hR
    cases k with
    | none =>
      rw [show kindD none = D.str "lot" from rfl]
      walk_at "pd"
      simp only [List.append_nil] at hR
      exact hR _ _ ⟨_, _, _, _, rfl⟩ b1 b2
    | some k =>
      have hkl : k.length ≤ 10 := hz2 k (List.mem_of_getElem? (List.mem_zipIdx_iff_getElem?.mp hk))
      rw [show kindD (some k) = D.tup (k.map fun w => .str w.s) from rfl]
      walk_at "pd"
      refine ⟨⟨_, _, lstOf_ref b2⟩, fun q2 hq2 => ?_⟩
      have n2 : q ≠ q2 := fun e => by rw [e, hq2] at b2; cases b2
      rw [enumD_map]
      refine comp_pT (fun p : MW × Nat => D.tup [.int (p.2 : Int), .str p.1.s]) (fun p => refD (i, p.2)) (fun p => S p.1) (fun _ => trivial) (by rw [List.length_zipIdx]; omega) (fun p hp acc2 R1 R2 k1 k2 => ?_) ?_
      · walk_at "pd"
        refine ⟨hf, ?_⟩
        rw [hS]
        cases e : S p.1 with
        | true => walk_at "pd"; exact k1 e
        | false => walk_at "pd"; exact k2 e
      · refine ⟨_, _, _, lstOf_ref (by rw [mset_ne n2]; exact b2), seqW_ref mset_same, ?_, hR _ _ ⟨_, _, _, _, rfl⟩ ?_ ?_⟩
        · have h1 : (List.map (fun p : MW × Nat => refD (i, p.2)) (List.filter (fun p => S p.1) k.zipIdx)).length ≤ 10 := by
            rw [List.length_map]
            exact Nat.le_trans (List.length_filter_le _ _) (by rw [List.length_zipIdx]; exact hkl)
          have h2 : ([] ++ ks.zipIdx.flatMap fun p : Knd × Nat => match p.1 with | none => ([] : List D) | some ws => (refsOf p.2 S ws).map refD).length ≤ 100 * 10 := by
            rw [List.nil_append]
            refine Nat.le_trans (flat_le (n := 10) ?_) (by rw [List.length_zipIdx]; omega)
            rintro ⟨k', i'⟩ hk'
            cases k' with
            | none => exact Nat.zero_le _
            | some k' =>
              show ((refsOf i' S k').map refD).length ≤ 10
              rw [List.length_map]
              exact Nat.le_trans refsOf_len (hz2 k' (List.mem_of_getElem? (List.mem_zipIdx_iff_getElem?.mp hk')))
          exact Nat.le_trans (by omega : acc.length + _ ≤ 1010) (by decide)
        · exact PD.Sub.new' (PD.Sub.new' b1 (PD.Sub.free b1 hq2)) hq
        · rw [mset_same]
          congr 3
          show _ = List.map refD (refsOf i S k)
          unfold refsOf
          rw [List.map_map]
          rfl
  · rintro s' m' ⟨x, y, z, u, rfl⟩ b1 b2
    walk_at "pd"
    refine ⟨_, seqOf_ref b2, m, b1, ?_⟩
    have e : ([] ++ ks.zipIdx.flatMap fun p : Knd × Nat => match p.1 with | none => ([] : List D) | some ws => (refsOf p.2 S ws).map refD) = (refsTo S ks).map refD := by
      unfold refsTo
      rw [List.nil_append, List.map_flatMap]
      congr 1
      funext p
      cases p.1 <;> rfl
    rw [e]; exact h
def sp_sign_places : SpD := fun ds m Q => ∃ (ks : List Knd), ds = [kindsD ks] ∧ ks.length ≤ 100 ∧ (∀ k, some k ∈ ks → k.length ≤ 10) ∧ Q (.tup ((refsTo isSg ks).map refD)) m
theorem ok_sign_places  (T : Txt K mg) (G__refs_to : FnOk P w K mg base CX0 (1) T.f__refs_to T.fd__refs_to ["kinds", "words"] (spL K 2 sp__refs_to)) : FnOk P w K mg base CX0 (2) T.f_sign_places T.fd_sign_places ["kinds"] (spL K 1 sp_sign_places) := by
  refine fn_ok T.F_sign_places sc_sign_places (fun cdv A outer s H E hr =>
(gss_one (gs_ret (ge_call G__refs_to (hr.mono (by omega)) (by rfl) T.g__refs_to T.F__refs_to.kp T.b__refs_to (ga_cons (gv 0) (ga_cons (ge_tup (ga_cons ge_str ga_nil)) ga_nil)))))) (fun ds m Q h => ?_)
  obtain ⟨ks, rfl, hz, hz2, h⟩ := h
  rw [show startD N_sign_places [kindsD ks] = [some (kindsD ks)] from rfl]
  walk_at "pd"
  exact ⟨ks, _, isSg, rfl, rfl, (fun a => by cases a <;> decide), hz, hz2, sub_refl_fin h⟩
def sp_kinds_by_maker : SpD := fun ds m Q => ∃ (ws : List Way), ds = [.rol (ws.map Way.d)] ∧ ws.length ≤ 10000 ∧ (∀ y ∈ ws, y.ps.length ≤ 100 ∧ ∀ ms, Piece.plain ms ∈ y.ps → ms.length ≤ 10) ∧ Q (dicOf (sDic kindsD (kbm ws))) m
theorem ok_kinds_by_maker  (T : Txt K mg) (G_kinds_of : FnOk P w K mg base CX0 (2) T.f_kinds_of T.fd_kinds_of ["way"] (spL K 1 sp_kinds_of)) : FnOk P w K mg base CX0 (3) T.f_kinds_by_maker T.fd_kinds_by_maker ["ways"] (spL K 1 sp_kinds_by_maker) := by
  refine fn_ok T.F_kinds_by_maker sc_kinds_by_maker (fun cdv A outer s H E hr =>
(gss_cons (gs_set (i := 1) sc_kinds_by_maker.nd rfl (.inl rfl) ge_dnew)
 (gss_cons (gs_for PassesOwn.never rfl (gi_seq (gv 0)) (gg_name (i := 2) sc_kinds_by_maker.nd rfl (.inl rfl))
 (gss_one (gs_if (gt_dnotinU (lt1 hr.units) (ge_ix (gv 2) ge_int) (gv 1))
 (gss_one (gs_dput (lt1 hr.units) (gv 1) (ge_ix (gv 2) ge_int) (ge_call G_kinds_of (hr.mono (by omega)) (by rfl) T.g_kinds_of T.F_kinds_of.kp T.b_kinds_of (ga_cons (gv 2) ga_nil))))
 gss_nil)))
 (gss_one (gs_ret (ge_frzD (gv 1))))))) (fun ds m Q h => ?_)
  obtain ⟨ws, rfl, hz, hz2, h⟩ := h
  rw [show startD N_kinds_by_maker [.rol (ws.map Way.d)] = [some (.rol (ws.map Way.d)), none, none] from rfl]
  walk_at "pd"
  intro q hq
  refine loop_pre (fun pre s' m' => (∃ x, s' = [some (.rol (ws.map Way.d)), some (.ref q), x]) ∧ m' = mset m q (.dct (sDic kindsD (kbm pre)))) Way.d (fun _ _ _ _ => trivial) ?_ ?_ ⟨⟨_, rfl⟩, rfl⟩
  · rintro pre y post e s' m' R ⟨⟨x, rfl⟩, rfl⟩ hR
    have hy : y ∈ ws := by rw [e]; simp
    have ek : kbm (pre ++ [y]) = insK (kbm pre) y := by unfold kbm; rw [List.foldl_append]; rfl
    have hl : (kbm pre).length < 20000 := by
      have := foldK_len pre []
      have h2 : pre.length ≤ ws.length := by rw [e]; simp
      unfold kbm
      rw [List.length_nil] at this
      omega
    unfold Way.d
    walk_at "pd"
    refine ⟨_, dct_ref mset_same, _, rfl, ?_⟩
    rw [valD_s]
    by_cases hc : y.mr ∈ (kbm pre).map (·.1)
    · obtain ⟨ks, ev⟩ := fnd_some hc
      rw [ev]
      walk_at "pd"
      refine hR _ _ ⟨⟨_, rfl⟩, ?_⟩
      rw [ek]; unfold insK; rw [if_pos hc]
    · rw [fnd_none.mpr hc]
      walk_at "pd"
      refine ⟨y, rfl, (hz2 y hy).1, (hz2 y hy).2, ?_⟩
      walk_at "pd"
      refine ⟨q, _, _, rfl, mset_same, rfl, by rw [sDic_len]; exact Nat.lt_of_lt_of_le hl (by decide), hR _ _ ⟨⟨_, rfl⟩, ?_⟩⟩
      rw [put_new hc, mset_mset, ek]; unfold insK; rw [if_neg hc]
  · rintro s' m' ⟨⟨x, rfl⟩, rfl⟩
    walk_at "pd"
    exact ⟨q, _, rfl, mset_same, m, (PD.Sub.new hq).del hq, h⟩
end
section
variable {P : Program} {w : World} {K : PySem.W.Frag} {mg : Str → Option Value} {base : Heap}
def sp_has_only : SpD := fun ds m Q => ∃ (l sg : List Nat), ds = [.str (tx l), .str (tx sg)] ∧ l.length ≤ 1000 ∧ Q (.bl (l.all fun c => decide (c ∈ sg))) m
theorem ok_has_only  (T : Txt K mg)  : FnOk P w K mg base CX0 (1) T.f_has_only T.fd_has_only ["word", "characters"] (spL K 2 sp_has_only) := by
  refine fn_ok T.F_has_only sc_has_only (fun cdv A outer s H E hr =>
(gss_one (gs_ret (ge_callB (cr_all rfl) lc_all (by rfl) T.z_all (by decide +kernel) (ga_cons (ge_lc (own := [("character", 2)]) rfl sc_has_only.nd (gi_str (gv 0)) (blkOk_by (N := N_has_only) (sc := defScope s_has_only) (by decide +kernel)) (fun _ _ _ _ _ => (gg_name (i := 2) sc_has_only.nd rfl (.inl rfl))) (fun _ _ _ _ _ => gts_nil) (fun _ _ _ _ _ => (ge_cmpR op_in_sign lr_inSg (gv 2) (gv 1) (by rfl))) (by decide)) ga_nil))))) (fun ds m Q h => ?_)
  obtain ⟨l, sg, rfl, hl, h⟩ := h
  rw [show startD N_has_only [.str (tx l), .str (tx sg)] = [some (.str (tx l)), some (.str (tx sg)), none] from rfl]
  walk_at "pd"
  intro p hp
  refine comp_all (fun c => D.str (tx [c])) (fun c => D.bl (decide (c ∈ sg))) (fun _ => trivial) (by omega) (fun c hc acc R1 k1 => ?_) ?_
  · walk_at "pd"
    refine ⟨c, tx sg, rfl, rfl, ?_⟩
    rw [cps_tx]
    exact k1
  refine ⟨p, l.map fun c => decide (c ∈ sg), rfl, by rw [List.map_map, mset_same]; rfl, ?_⟩
  have e : (l.map fun c => decide (c ∈ sg)).all id = l.all fun c => decide (c ∈ sg) := by rw [List.all_map]; rfl
  rw [e]
  exact ⟨m, .new hp, h⟩
def sp__look_list : SpX := fun ds m Q Ed => ∃ ns : List Str, ds = [.rol (ns.map .str)] ∧ ns.Nodup ∧ ns.length ≤ 1000 ∧ Q .non m
theorem ok__look_list  (T : Txt K mg)  : FnOk P w K mg base (L2.CX P w) (3) T.f__look_list T.fd__look_list ["names"] (spX K 1 sp__look_list) := by
  refine fn_okX T.F__look_list sc__look_list (fun cdv A outer s H E Ed hr tk =>
(gss_cons (gs_set (i := 1) sc__look_list.nd rfl (.inl rfl) (ge_set0P (P := P) (w := w) rfl rfl (by rfl) T.z_set))
 (gss_one (gs_for (passes_of rfl) rfl (gi_seq (gv 0)) (gg_name (i := 2) sc__look_list.nd rfl (.inl rfl))
 (gss_cons (gs_if (gt_cmpR or_sinK (lr_sin (P := P) (w := w)) (gv 2) (gv 1) (by rfl))
 (gss_one (gs_raise rfl tk T.oe_TwiceNamed T.no_TwiceNamed T.ic_TwiceNamed T.ti_TwiceNamed (T.ini_TwiceNamed) (hr.mono (by omega)) T.bi_TwiceNamed (by rfl) T.gc_TwiceNamed (ga_cons (gv 2) ga_nil) (by decide)))
 gss_nil)
 (gss_one (gs_expr (ge_saddP (P := P) (w := w) rfl rfl (gv 1) (ga_cons (gv 2) ga_nil))))))))) (fun ds m Q Ed h _ => ?_)
  obtain ⟨ns, rfl, nd, hl, h⟩ := h
  rw [show startD N__look_list [.rol (ns.map .str)] = [some (.rol (ns.map .str)), none, none] from rfl]
  walk_at "pd"
  intro q hq
  refine loop_pre (fun pre s' m' => (∃ x, s' = [some (.rol (ns.map .str)), some (.ref q), x]) ∧ m' = mset m q (.sset P w (fun j => decide (∃ n ∈ pre, j = Sum.inr n)) pre.length)) D.str (fun _ _ _ _ => trivial) ?_ ?_ ⟨⟨_, rfl⟩, ?_⟩
  · rintro pre n post e s' m' R ⟨⟨x, rfl⟩, rfl⟩ hR
    have hn : n ∉ pre := by
      rw [e, List.nodup_append] at nd
      exact fun hc => nd.2.2 _ hc _ (List.mem_cons_self ..) rfl
    have hS : (decide (∃ a ∈ pre, (Sum.inr n : Key) = Sum.inr a)) = false := decide_eq_false (by rintro ⟨a, ha, e⟩; cases e; exact hn ha)
    have hpl : pre.length < ns.length := by rw [e]; simp
    walk_at "pd"
    refine ⟨_, q, _, _, rfl, rfl, mset_same, ?_⟩
    rw [hS]
    walk_at "pd"
    refine ⟨⟨q, _, _, rfl, mset_same⟩, q, _, _, _, _, rfl, rfl, rfl, mset_same, ?_, hR _ _ ⟨⟨_, rfl⟩, ?_⟩⟩
    · exact Nat.lt_of_lt_of_le (by omega : pre.length + 1 < 1002) (by decide)
    · rw [mset_mset]
      rw [hS, if_neg (by decide), List.length_append, List.length_singleton]
      congr 2
      funext j
      rw [← Bool.decide_or]
      congr 1
      apply propext
      constructor
      · rintro (⟨a, ha, e⟩ | e)
        · exact ⟨a, by simp [ha], e⟩
        · exact ⟨n, by simp, e⟩
      · rintro ⟨a, ha, e⟩
        rcases List.mem_append.mp ha with ha | ha
        · exact .inl ⟨a, ha, e⟩
        · exact .inr (by rw [e, List.mem_singleton.mp ha])
  · rintro s' m' ⟨⟨x, rfl⟩, rfl⟩
    exact ⟨m, PD.Sub.new hq, h⟩
  · congr 2
def sp_look_names : SpX := fun ds m Q Ed => ∃ p : Prog, ds = [p.d] ∧ Good0 p ∧ Q .non m
theorem names_comp {α : Type} {f : α → D} {nm : α → Str} {us : List α} {s : Sd} {m : Mu} {p : Addr} {Q : DK} {j : Nat} (hz : us.length ≤ 1000) (hf : ∀ u ∈ us, ∀ m' (R : D → Mu → Prop), R (.str (nm u)) m' → dgN j (f u) s m' fun s2 m2 => dOp dIx (dVar j) (dC (.int 0)) s2 m2 R)
    (h : Q (.ref p) (mset m p (.lst ((us.map nm).map .str)))) : dComp (fun _ => True) (dgN j) dYes (dOp dIx (dVar j) (dC (.int 0))) p s Q (us.map f) [] (mset m p (.lst [])) := by
  refine comp_all f (fun u => .str (nm u)) (fun _ => trivial) (by omega) (fun u hu acc R1 k1 => hf u hu _ _ k1) ?_
  rw [List.map_map] at h
  exact h
theorem ok_look_names  (T : Txt K mg) (G__look_list : FnOk P w K mg base (L2.CX P w) (3) T.f__look_list T.fd__look_list ["names"] (spX K 1 sp__look_list)) : FnOk P w K mg base (L2.CX P w) (4) T.f_look_names T.fd_look_names ["program"] (spX K 1 sp_look_names) := by
  refine fn_okX T.F_look_names sc_look_names (fun cdv A outer s H E Ed hr tk =>
(gss_one (gs_for (passes_of rfl) rfl (gi_seq (ge_tup (ga_cons (ge_glb (by rfl) T.v_PAIRS) (ga_cons (ge_glb (by rfl) T.v_NUMBERS) (ga_cons (ge_glb (by rfl) T.v_LOTS) (ga_cons (ge_glb (by rfl) T.v_JUDGES) (ga_cons (ge_glb (by rfl) T.v_ASKS) ga_nil))))))) (gg_name (i := 1) sc_look_names.nd rfl (.inl rfl))
 (gss_one (gs_expr (ge_callX G__look_list tk (hr.mono (by omega)) (by rfl) T.g__look_list T.F__look_list.kp T.b__look_list (ga_cons (ge_frz (ge_lc (own := [("entry", 2)]) rfl sc_look_names.nd (gi_seq (ge_ix (gv 0) (gv 1))) (blkOk_by (N := N_look_names) (sc := defScope s_look_names) (by decide +kernel)) (fun _ _ _ _ _ => (gg_name (i := 2) sc_look_names.nd rfl (.inl rfl))) (fun _ _ _ _ _ => gts_nil) (fun _ _ _ _ _ => (ge_ix (gv 2) ge_int)) (by decide))) ga_nil))))))) (fun ds m Q Ed h _ => ?_)
  obtain ⟨p, rfl, g, h⟩ := h
  rw [show startD N_look_names [p.d] = [some (p.d), none, none] from rfl]
  unfold Prog.d
  walk_at "pd"
  intro q1 hq1
  refine names_comp (nm := fun x : Str × List (List Nat) => x.1) (by have := g.pr; omega) (fun u hu m' R k => by unfold Bk.pairD; walk_at "pd"; exact k) ?_
  refine ⟨_, mset_same, _, rfl, g.ndP, by rw [List.length_map]; have := g.pr; omega, ?_⟩
  rw [g.nn, g.nj, g.na]
  have S1 := PD.Sub.del (PD.Sub.new (o := .lst (List.map D.str (List.map (fun x : Str × List (List Nat) => x.1) p.pairs))) hq1) hq1
  generalize mdel (mset m q1 (.lst (List.map D.str (List.map (fun x : Str × List (List Nat) => x.1) p.pairs)))) q1 = m1 at *
  intro q2 hq2
  walk_at "pd"
  refine ⟨[], rfl, [], rfl, List.nodup_nil, Nat.zero_le _, ?_⟩
  have S2 := PD.Sub.del (PD.Sub.new' (o := .lst []) S1 (PD.Sub.free S1 hq2)) (PD.Sub.free S1 hq2)
  generalize mdel (mset m1 q2 (.lst [])) q2 = m2 at *
  intro q3 hq3
  refine names_comp (nm := fun x : Str × List Way => x.1) (by have := g.lt; omega) (fun u hu m' R k => by unfold lotD; walk_at "pd"; exact k) ?_
  refine ⟨_, mset_same, _, rfl, g.ndL, by rw [List.length_map]; have := g.lt; omega, ?_⟩
  have S3 := PD.Sub.del (PD.Sub.new' (o := .lst (List.map D.str (List.map (fun x : Str × List Way => x.1) p.lots))) S2 (PD.Sub.free S2 hq3)) (PD.Sub.free S2 hq3)
  generalize mdel (mset m2 q3 (.lst (List.map D.str (List.map (fun x : Str × List Way => x.1) p.lots)))) q3 = m3 at *
  intro q4 hq4
  refine ⟨[], rfl, [], rfl, List.nodup_nil, Nat.zero_le _, ?_⟩
  have S4 := PD.Sub.del (PD.Sub.new' (o := .lst []) S3 (PD.Sub.free S3 hq4)) (PD.Sub.free S3 hq4)
  generalize mdel (mset m3 q4 (.lst [])) q4 = m4 at *
  intro q5 hq5
  refine ⟨[], rfl, [], rfl, List.nodup_nil, Nat.zero_le _, ?_⟩
  have S5 := PD.Sub.del (PD.Sub.new' (o := .lst []) S4 (PD.Sub.free S4 hq5)) (PD.Sub.free S4 hq5)
  exact ⟨m, S5, h⟩
def sp__words_of : SpD := fun ds m Q => ∃ p : Prog, ds = [p.d] ∧ Good0 p ∧ Q (.rol ((p.pairs.flatMap (·.2)).map fun l => .str (tx l))) m
theorem ok__words_of  (T : Txt K mg)  : FnOk P w K mg base CX0 (1) T.f__words_of T.fd__words_of ["program"] (spL K 1 sp__words_of) := by
  refine fn_ok T.F__words_of sc__words_of (fun cdv A outer s H E hr =>
(gss_cons (gs_set (i := 1) sc__words_of.nd rfl (.inl rfl) (ge_lst ga_nil))
 (gss_cons (gs_for PassesOwn.never rfl (gi_seq (ge_ix (gv 0) (ge_glb (by rfl) T.v_PAIRS))) (gg_name (i := 2) sc__words_of.nd rfl (.inl rfl))
 (gss_one (gs_expr (ge_bm PySem.F.slot_list_extend PySem.F.type_list_extend mt_extendU lm_extend (gv 1) (ga_cons (ge_ix (gv 2) ge_int) ga_nil)))))
 (gss_cons (gs_for PassesOwn.never rfl (gi_seq (ge_ix (gv 0) (ge_glb (by rfl) T.v_NUMBERS))) (gg_name (i := 3) sc__words_of.nd rfl (.inl rfl))
 (gss_one (gs_expr (ge_bm PySem.F.slot_list_extend PySem.F.type_list_extend mt_extendU lm_extend (gv 1) (ga_cons (ge_lc (own := [("word", 4), ("integer", 5)]) rfl sc__words_of.nd (gi_seq (ge_ix (gv 3) ge_int)) (blkOk_by (N := N__words_of) (sc := defScope s__words_of) (by decide +kernel)) (fun _ _ _ _ _ => (gg_tup (n := 2) rfl (ggs_cons (gg_name (i := 4) sc__words_of.nd rfl (.inl rfl)) (ggs_cons (gg_name (i := 5) sc__words_of.nd rfl (.inl rfl)) ggs_nil)))) (fun _ _ _ _ _ => gts_nil) (fun _ _ _ _ _ => (gv 4)) (by decide)) ga_nil)))))
 (gss_one (gs_ret (ge_frz (gv 1)))))))) (fun ds m Q h => ?_)
  obtain ⟨p, rfl, g, h⟩ := h
  rw [show startD N__words_of [p.d] = [some (p.d), none, none, none, none, none] from rfl]
  unfold Prog.d
  walk_at "pd"
  intro q hq
  have hsz : (p.pairs.flatMap fun x => x.2).length ≤ 10000 := by
    have := flat_le (f := fun x : Str × List (List Nat) => x.2) (n := 100) g.wd
    have := g.pr
    omega
  have e0 : ([] ++ p.pairs.flatMap fun x : Str × List (List Nat) => x.2.map fun l => D.str (tx l)).length = (p.pairs.flatMap (·.2)).length := by rw [List.nil_append, ← List.map_flatMap, List.length_map]
  refine loop_accT (m0 := m) (p := q) (fun s' => ∃ x y z u, s' = [some p.d, some (.ref q), x, y, z, u]) Bk.pairD (fun x : Str × List (List Nat) => x.2.map fun l => .str (tx l)) (us := p.pairs) (init := []) (fun _ _ => trivial) ?_ ?_ ⟨_, _, _, _, rfl⟩ (PD.Sub.new hq) mset_same
  · rintro l hl acc s' m' R ⟨x, y, z, u, rfl⟩ b1 b2 hz2 hR
    unfold Bk.pairD wordsD
    walk_at "pd"
    refine ⟨⟨_, _, lstOf_ref b2⟩, _, _, _, lstOf_ref b2, rfl, ?_, hR _ _ ⟨_, _, _, _, rfl⟩ (PD.Sub.new' b1 hq) mset_same⟩
    rw [e0] at hz2
    exact Nat.le_trans hz2 (Nat.le_trans hsz (by decide))
  · rintro s' m' ⟨x, y, z, u, rfl⟩ b1 b2
    unfold Prog.d
    rw [g.nn]
    walk_at "pd"
    refine ⟨_, b2, m, PD.Sub.del b1 hq, ?_⟩
    rw [List.nil_append, ← List.map_flatMap]
    exact h
def sp__letters_of : SpD := fun ds m Q => ∃ p : Prog, ds = [p.d] ∧ Good p ∧ Q (.rol ((p.ways.flatMap wayLetters).map fun l => .str (tx l))) m
theorem ok__letters_of  (T : Txt K mg) (G_all_ways : FnOk P w K mg base CX0 (1) T.f_all_ways T.fd_all_ways ["program"] (spL K 1 sp_all_ways)) : FnOk P w K mg base CX0 (2) T.f__letters_of T.fd__letters_of ["program"] (spL K 1 sp__letters_of) := by
  refine fn_ok T.F__letters_of sc__letters_of (fun cdv A outer s H E hr =>
(gss_cons (gs_set (i := 1) sc__letters_of.nd rfl (.inl rfl) (ge_lst ga_nil))
 (gss_cons (gs_for PassesOwn.never rfl (gi_seq (ge_call G_all_ways (hr.mono (by omega)) (by rfl) T.g_all_ways T.F_all_ways.kp T.b_all_ways (ga_cons (gv 0) ga_nil))) (gg_name (i := 2) sc__letters_of.nd rfl (.inl rfl))
 (gss_one (gs_for PassesOwn.never rfl (gi_seq (ge_ix (gv 2) ge_int)) (gg_name (i := 3) sc__letters_of.nd rfl (.inl rfl))
 (gss_one (gs_if (gt_cmpR (op_eqS hr.units) lr_eq (ge_ix (gv 3) ge_int) ge_str (nomark _))
 (gss_one (gs_expr (ge_bm PySem.F.slot_list_extend PySem.F.type_list_extend mt_extendU lm_extend (gv 1) (ga_cons (ge_lc (own := [("mark", 4)]) rfl sc__letters_of.nd (gi_seq (ge_ix (gv 3) ge_int)) (blkOk_by (N := N__letters_of) (sc := defScope s__letters_of) (by decide +kernel)) (fun _ _ _ _ _ => (gg_name (i := 4) sc__letters_of.nd rfl (.inl rfl))) (fun _ _ _ _ _ => (gts_one (gt_cmpR (op_eqS hr.units) lr_eq (ge_ix (gv 4) ge_int) ge_str (nomark _)))) (fun _ _ _ _ _ => (ge_ix (gv 4) ge_int)) (by decide)) ga_nil))))
 gss_nil)))))
 (gss_one (gs_ret (ge_frz (gv 1))))))) (fun ds m Q h => ?_)
  obtain ⟨p, rfl, g, h⟩ := h
  have hsz := g.ll
  rw [show startD N__letters_of [p.d] = [some (p.d), none, none, none, none] from rfl]
  walk_at "pd"
  intro q hq
  refine ⟨p, rfl, g.toSizes, ?_⟩
  walk_at "pd"
  have e0 : ([] ++ p.ways.flatMap fun x => (wayLetters x).map fun l => D.str (tx l)).length = (p.ways.flatMap wayLetters).length := by rw [List.nil_append, ← List.map_flatMap, List.length_map]
  refine loop_accT (m0 := m) (p := q) (fun s' => ∃ x y z, s' = [some p.d, some (.ref q), x, y, z]) Way.d (fun x => (wayLetters x).map fun l => .str (tx l)) (us := p.ways) (init := []) (fun _ _ => trivial) ?_ ?_ ⟨_, _, _, rfl⟩ (PD.Sub.new hq) mset_same
  · rintro y hy acc s' m' R ⟨x, z, u, rfl⟩ b1 b2 hz2 hR
    rw [e0] at hz2
    unfold Way.d
    walk_at "pd"
    have e1 : ((wayLetters y).map fun l => D.str (tx l)) = y.ps.flatMap fun q => (lettersOf q).map fun l => D.str (tx l) := by unfold wayLetters; rw [List.map_flatMap]
    rw [e1] at hR hz2
    refine loop_accT (m0 := m) (p := q) (fun s' => ∃ x z, s' = [some p.d, some (.ref q), some (.tup [.str y.mr, .tup (y.ps.map Piece.d), .tup (y.ts.map Test.d)]), x, z]) Piece.d (fun x => (lettersOf x).map fun l => .str (tx l)) (us := y.ps) (init := acc) (fun _ _ => trivial) ?_ ?_ ⟨_, _, rfl⟩ b1 b2
    · rintro a ha acc2 s2 m2 R2 ⟨x2, z2, rfl⟩ c1 c2 hz3 hR2
      rw [List.length_append] at hz3
      cases a with
      | lot n =>
        unfold Piece.d
        walk_at "pd"
        simp only [lettersOf, List.map_nil, List.append_nil] at hR2
        exact hR2 _ _ ⟨_, _, rfl⟩ c1 c2
      | plain ms =>
        have hp := g.pc y hy _ ha
        unfold Piece.d
        walk_at "pd"
        refine ⟨⟨_, _, lstOf_ref c2⟩, fun q2 hq2 => ?_⟩
        have n2 : q ≠ q2 := fun e => by rw [e, hq2] at c2; cases c2
        refine comp_pT Mark.d (fun a => match a with | .sign l => .str (tx l) | _ => .non) (fun a => a.w == .sign) (fun _ => trivial) (by have := hp.1; omega) (fun a ha2 acc3 R3 R4 k1 k2 => ?_) ?_
        · cases a with
          | sign l => unfold Mark.d; walk_at "pd"; exact k1 rfl
          | none => unfold Mark.d; walk_at "pd"; exact k2 rfl
          | run lo hi => unfold Mark.d; walk_at "pd"; exact k2 rfl
        · have e2 : ∀ ms : List Mark, (List.map (fun a : Mark => match a with | .sign l => D.str (tx l) | _ => .non) (List.filter (fun a => a.w == .sign) ms)) = (lettersOf (.plain ms)).map fun l => D.str (tx l) := by
            intro ms
            unfold lettersOf
            induction ms with
            | nil => rfl
            | cons a ms ih => cases a <;> simp [Mark.w, List.filter_cons, List.filterMap_cons] at ih ⊢ <;> exact ih
          rw [e2]
          refine ⟨_, _, _, lstOf_ref (by rw [mset_ne n2]; exact c2), seqW_ref mset_same, ?_, hR2 _ _ ⟨_, _, rfl⟩ (PD.Sub.new' (PD.Sub.new' c1 (PD.Sub.free c1 hq2)) hq) mset_same⟩
          exact Nat.le_trans (by omega : _ ≤ 100000) (by decide)
    · rintro s2 m2 ⟨x2, z2, rfl⟩ c1 c2
      exact hR _ _ ⟨_, _, _, rfl⟩ c1 c2
  · rintro s' m' ⟨x, y, z, rfl⟩ b1 b2
    walk_at "pd"
    refine ⟨_, b2, m, PD.Sub.del b1 hq, ?_⟩
    rw [List.nil_append, ← List.map_flatMap]
    exact h
theorem over_all {sg l : List Nat} (h : OverSg sg l) : (l.all fun c => decide (c ∈ sg)) = true := List.all_eq_true.mpr fun c hc => decide_eq_true (h.1 c hc)
def sp_look_signs : SpX := fun ds m Q Ed => ∃ p : Prog, ds = [p.d] ∧ Good0 p ∧ Q .non m
theorem ok_look_signs  (T : Txt K mg) (G__words_of : FnOk P w K mg base CX0 (1) T.f__words_of T.fd__words_of ["program"] (spL K 1 sp__words_of)) (G__letters_of : FnOk P w K mg base CX0 (2) T.f__letters_of T.fd__letters_of ["program"] (spL K 1 sp__letters_of)) (G_has_only : FnOk P w K mg base CX0 (1) T.f_has_only T.fd_has_only ["word", "characters"] (spL K 2 sp_has_only)) : FnOk P w K mg base (L2.CX P w) (3) T.f_look_signs T.fd_look_signs ["program"] (spX K 1 sp_look_signs) := by
  refine fn_okX T.F_look_signs sc_look_signs (fun cdv A outer s H E Ed hr tk =>
(gss_one (gs_for (passes_of rfl) rfl (gi_seq (ge_op op_addL lr_addL (ge_call G__words_of (hr.mono (by omega)) (by rfl) T.g__words_of T.F__words_of.kp T.b__words_of (ga_cons (gv 0) ga_nil)) (ge_call G__letters_of (hr.mono (by omega)) (by rfl) T.g__letters_of T.F__letters_of.kp T.b__letters_of (ga_cons (gv 0) ga_nil)))) (gg_name (i := 1) sc_look_signs.nd rfl (.inl rfl))
 (gss_one (gs_if (gt_not (gt_val (ge_call G_has_only (hr.mono (by omega)) (by rfl) T.g_has_only T.F_has_only.kp T.b_has_only (ga_cons (gv 1) (ga_cons (ge_ix (gv 0) (ge_glb (by rfl) T.v_SIGNS)) ga_nil)))))
 (gss_one (gs_raise rfl tk T.oe_BadSign T.no_BadSign T.ic_BadSign T.ti_BadSign (T.ini_BadSign) (hr.mono (by omega)) T.bi_BadSign (by rfl) T.gc_BadSign (ga_cons (gv 1) ga_nil) (by decide)))
 gss_nil))))) (fun ds m Q Ed h _ => ?_)
  obtain ⟨p, rfl, g, h⟩ := h
  rw [show startD N_look_signs [p.d] = [some (p.d), none] from rfl]
  walk_at "pd"
  refine ⟨p, rfl, g, ?_⟩
  walk_at "pd"
  refine ⟨p, rfl, g.toGood, ?_⟩
  walk_at "pd"
  have h1 : (p.pairs.flatMap (·.2)).length ≤ 10000 := by
    have := flat_le (f := fun x : Str × List (List Nat) => x.2) (n := 100) g.wd
    have := g.pr
    omega
  have h2 := g.ll
  refine ⟨_, _, rfl, rfl, by rw [List.length_map, List.length_map]; exact Nat.le_trans (Nat.add_le_add h1 h2) (by decide), fun q hq => ⟨_, seqOf_ref mset_same, ?_⟩⟩
  rw [← List.map_append]
  refine loop_chk (m := mset m q _) (fun s' => ∃ x, s' = [some p.d, x]) (fun l : List Nat => D.str (tx l)) (seqOf_ref mset_same) ?_ ?_ ⟨_, rfl⟩
  · rintro l hl s' R ⟨x, rfl⟩ hR
    have hov : OverSg p.sg l := by
      rcases List.mem_append.mp hl with hl | hl
      · obtain ⟨x, hx, hl⟩ := List.mem_flatMap.mp hl
        exact g.wp x hx l hl
      · obtain ⟨y, hy, hl⟩ := List.mem_flatMap.mp hl
        obtain ⟨a, ha, hl⟩ := List.mem_flatMap.mp hl
        have := g.pc y hy a ha
        cases a with
        | lot n => exact (List.not_mem_nil hl).elim
        | plain ms =>
          obtain ⟨mk, hm, he⟩ := List.mem_filterMap.mp hl
          cases mk with
          | sign l' => cases he; exact this.2 l hm
          | none => cases he
          | run lo hi => cases he
    walk_at "pd"
    refine ⟨l, p.sg, rfl, hov.2, ?_⟩
    rw [over_all hov]
    walk_at "pd"
    exact hR _ ⟨_, rfl⟩
  · rintro s' ⟨x, rfl⟩
    exact ⟨m, PD.Sub.new hq, h⟩
def sp__look_name : SpX := fun ds m Q Ed => ∃ (n : Str) (ns : List Str), ds = [.str n, .rol (ns.map .str)] ∧ n ∈ ns ∧ Q .non m
theorem inF_s {n : Str} : ∀ {ns : List Str}, inF (.str n) (ns.map D.str) = decide (n ∈ ns)
  | [] => by unfold inF; rw [List.map_nil]; simp
  | x :: ns => by
    have ih := inF_s (n := n) (ns := ns)
    unfold inF at ih ⊢
    rw [List.map_cons, List.any_cons, ih]
    by_cases h : x = n
    · subst h; simp [eqF]
    · have : eqF (.str x) (.str n) = false := by simp [eqF, h]
      rw [this, Bool.false_or]
      simp [Ne.symm h]
theorem flat_s {ns : List Str} : (ns.map D.str).all flatD = true := by rw [List.all_map]; exact List.all_eq_true.mpr fun _ _ => rfl
theorem ok__look_name  (T : Txt K mg)  : FnOk P w K mg base (L2.CX P w) (3) T.f__look_name T.fd__look_name ["name", "names"] (spX K 2 sp__look_name) := by
  refine fn_okX T.F__look_name sc__look_name (fun cdv A outer s H E Ed hr tk =>
(gss_one (gs_if (gt_cmpR op_notInU lr_notIn (gv 0) (gv 1) (by rfl))
 (gss_one (gs_raise rfl tk T.oe_NoName T.no_NoName T.ic_NoName T.ti_NoName (T.ini_NoName) (hr.mono (by omega)) T.bi_NoName (by rfl) T.gc_NoName (ga_cons (gv 0) ga_nil) (by decide)))
 gss_nil))) (fun ds m Q Ed h _ => ?_)
  obtain ⟨n, ns, rfl, hn, h⟩ := h
  rw [show startD N__look_name [.str n, .rol (ns.map .str)] = [some (.str n), some (.rol (ns.map .str))] from rfl]
  walk_at "pd"
  refine ⟨flat_s, ?_⟩
  rw [inF_s, decide_eq_true hn]
  walk_at "pd"
  exact sub_refl_fin h
end
section
variable {P : Program} {w : World} {K : PySem.W.Frag} {mg : Str → Option Value} {base : Heap}
def sp_look_mentions : SpX := fun ds m Q Ed => ∃ p : Prog, ds = [p.d] ∧ Good p ∧ Q .non m
theorem ok_look_mentions  (T : Txt K mg) (G_all_ways : FnOk P w K mg base CX0 (1) T.f_all_ways T.fd_all_ways ["program"] (spL K 1 sp_all_ways)) (G__look_name : FnOk P w K mg base (L2.CX P w) (3) T.f__look_name T.fd__look_name ["name", "names"] (spX K 2 sp__look_name)) : FnOk P w K mg base (L2.CX P w) (4) T.f_look_mentions T.fd_look_mentions ["program"] (spX K 1 sp_look_mentions) := by
  refine fn_okX T.F_look_mentions sc_look_mentions (fun cdv A outer s H E Ed hr tk =>
(gss_cons (gs_fz 1 (gs_setLc (i := 1) (own := [("lot", 8)]) rfl sc_look_mentions.nd rfl rfl (sw_true rfl rfl rfl (by decide +kernel)) (gi_seq (ge_ix (gv 0) (ge_glb (by rfl) T.v_LOTS))) (blkOk_by (N := N_look_mentions) (sc := defScope s_look_mentions) (by decide +kernel)) (fun _ _ _ _ _ => (gg_name (i := 8) sc_look_mentions.nd rfl (.inl rfl))) (fun _ _ _ _ _ => gts_nil) (fun _ _ _ _ _ => (ge_ix (gv 8) ge_int)) (by decide)))
 (gss_cons (gs_fz 2 (gs_setLc (i := 2) (own := [("pair", 9)]) rfl sc_look_mentions.nd rfl rfl (sw_true rfl rfl rfl (by decide +kernel)) (gi_seq (ge_ix (gv 0) (ge_glb (by rfl) T.v_PAIRS))) (blkOk_by (N := N_look_mentions) (sc := defScope s_look_mentions) (by decide +kernel)) (fun _ _ _ _ _ => (gg_name (i := 9) sc_look_mentions.nd rfl (.inl rfl))) (fun _ _ _ _ _ => gts_nil) (fun _ _ _ _ _ => (ge_ix (gv 9) ge_int)) (by decide)))
 (gss_cons (gs_expr (ge_callX G__look_name tk (hr.mono (by omega)) (by rfl) T.g__look_name T.F__look_name.kp T.b__look_name (ga_cons (ge_ix (gv 0) (ge_glb (by rfl) T.v_START)) (ga_cons (ge_frz (gv 1)) ga_nil))))
 (gss_one (gs_for (passes_of rfl) rfl (gi_seq (ge_call G_all_ways (hr.mono (by omega)) (by rfl) T.g_all_ways T.F_all_ways.kp T.b_all_ways (ga_cons (gv 0) ga_nil))) (gg_tup (n := 3) rfl (ggs_cons (gg_name (i := 3) sc_look_mentions.nd rfl (.inl rfl)) (ggs_cons (gg_name (i := 4) sc_look_mentions.nd rfl (.inl rfl)) (ggs_cons (gg_name (i := 5) sc_look_mentions.nd rfl (.inl rfl)) ggs_nil))))
 (gss_cons (gs_for (passes_of rfl) rfl (gi_seq (gv 4)) (gg_name (i := 6) sc_look_mentions.nd rfl (.inl rfl))
 (gss_one (gs_if (gt_cmpR (op_eqS hr.units) lr_eq (ge_ix (gv 6) ge_int) ge_str (nomark _))
 (gss_one (gs_expr (ge_callX G__look_name tk (hr.mono (by omega)) (by rfl) T.g__look_name T.F__look_name.kp T.b__look_name (ga_cons (ge_ix (gv 6) ge_int) (ga_cons (ge_frz (gv 1)) ga_nil)))))
 gss_nil)))
 (gss_one (gs_for (passes_of rfl) rfl (gi_seq (gv 5)) (gg_name (i := 7) sc_look_mentions.nd rfl (.inl rfl))
 (gss_one (gs_expr (ge_callX G__look_name tk (hr.mono (by omega)) (by rfl) T.g__look_name T.F__look_name.kp T.b__look_name (ga_cons (ge_ix (gv 7) ge_int) (ga_cons (ge_frz (gv 2)) ga_nil)))))))))))))) (fun ds m Q Ed h _ => ?_)
  obtain ⟨p, rfl, g, h⟩ := h
  rw [show startD N_look_mentions [p.d] = [some (p.d), none, none, none, none, none, none, none, none, none] from rfl]
  unfold Prog.d
  walk_at "pd"
  intro q1 hq1
  refine names_comp (nm := fun x : Str × List Way => x.1) (by have := g.lt; omega) (fun u hu m' R k => by unfold lotD; walk_at "pd"; exact k) ?_
  refine ⟨q1, _, rfl, mset_same, ?_⟩
  have S1 := PD.Sub.del (PD.Sub.new (o := .lst (List.map D.str (List.map (fun x : Str × List Way => x.1) p.lots))) hq1) hq1
  generalize mdel (mset m q1 (.lst (List.map D.str (List.map (fun x : Str × List Way => x.1) p.lots)))) q1 = m1 at *
  intro q2 hq2
  refine names_comp (nm := fun x : Str × List (List Nat) => x.1) (by have := g.pr; omega) (fun u hu m' R k => by unfold Bk.pairD; walk_at "pd"; exact k) ?_
  refine ⟨q2, _, rfl, mset_same, ?_⟩
  have S2 := PD.Sub.del (PD.Sub.new' (o := .lst (List.map D.str (List.map (fun x : Str × List (List Nat) => x.1) p.pairs))) S1 (PD.Sub.free S1 hq2)) (PD.Sub.free S1 hq2)
  generalize mdel (mset m1 q2 (.lst (List.map D.str (List.map (fun x : Str × List (List Nat) => x.1) p.pairs)))) q2 = m2 at *
  refine ⟨_, _, rfl, g.st, ?_⟩
  refine ⟨p, rfl, g.toSizes, ?_⟩
  walk_at "pd"
  have eD : D.tup [.str "program", .str (tx p.sg), .int (p.rows : Int), .tup (p.pairs.map Bk.pairD), .tup p.nums, .str p.start, .tup (p.lots.map lotD), .tup p.js, .tup p.as] = p.d := rfl
  rw [eD]
  refine loop_chk (m := m2) (fun s' => ∃ a b c x y z u, s' = [some p.d, some (.rol (List.map D.str (List.map (fun x : Str × List Way => x.1) p.lots))), some (.rol (List.map D.str (List.map (fun x : Str × List (List Nat) => x.1) p.pairs))), a, b, c, x, y, z, u]) Way.d trivial ?_ ?_ ⟨_, _, _, _, _, _, _, rfl⟩
  · rintro y hy s' R ⟨a, b, c, x, z, u, v, rfl⟩ hR
    unfold Way.d
    walk_at "pd"
    refine loop_chk (m := m2) (fun s' => ∃ a1 c1 x1 z1 u1, s' = [some p.d, some (.rol (List.map D.str (List.map (fun x : Str × List Way => x.1) p.lots))), some (.rol (List.map D.str (List.map (fun x : Str × List (List Nat) => x.1) p.pairs))), a1, some (.tup (List.map Piece.d y.ps)), some (.tup (List.map Test.d y.ts)), c1, x1, z1, u1]) Piece.d trivial ?_ ?_ ⟨_, _, _, _, _, rfl⟩
    · rintro a ha s2 R2 ⟨a', c', x', z', u', rfl⟩ hR2
      have hp := g.pc y hy a ha
      cases a with
      | lot n =>
        unfold Piece.d
        walk_at "pd"
        exact ⟨_, _, rfl, hp, hR2 _ ⟨_, _, _, _, _, rfl⟩⟩
      | plain ms =>
        unfold Piece.d
        walk_at "pd"
        exact hR2 _ ⟨_, _, _, _, _, rfl⟩
    · rintro s2 ⟨a', c', x', z', u', rfl⟩
      walk_at "pd"
      refine loop_chk (m := m2) (fun s' => ∃ a b c x y z u, s' = [some p.d, some (.rol (List.map D.str (List.map (fun x : Str × List Way => x.1) p.lots))), some (.rol (List.map D.str (List.map (fun x : Str × List (List Nat) => x.1) p.pairs))), a, b, c, x, y, z, u]) Test.d trivial ?_ ?_ ⟨_, _, _, _, _, _, _, rfl⟩
      · rintro t ht s3 R3 ⟨a3, b3, c3, x3, y3, z3, u3, rfl⟩ hR3
        unfold Test.d
        walk_at "pd"
        exact ⟨_, _, rfl, (g.ts y hy t ht).1, hR3 _ ⟨_, _, _, _, _, _, _, rfl⟩⟩
      · rintro s3 ⟨a3, b3, c3, x3, y3, z3, u3, rfl⟩
        exact hR _ ⟨_, _, _, _, _, _, _, rfl⟩
  · rintro s' ⟨a, b, c, x, y, z, u, rfl⟩
    exact ⟨m, S2, h⟩
theorem kinds_pln (ks : List Knd) : pln (kindsD ks) = true ∧ sok (kindsD ks) = true ∧ dep (kindsD ks) ≤ 2 := by
  have h1 : ∀ k : Knd, pln (kindD k) = true ∧ sok (kindD k) = true ∧ dep (kindD k) ≤ 1 := by
    intro k
    cases k with
    | none => exact ⟨rfl, by decide +kernel, by decide⟩
    | some ws =>
      refine ⟨?_, ?_, ?_⟩
      · show plns (ws.map fun w => D.str w.s) = true
        rw [plns_iff]
        intro d hd
        obtain ⟨a, _, rfl⟩ := List.mem_map.mp hd
        rfl
      · show soks (ws.map fun w => D.str w.s) = true
        rw [soks_iff]
        intro d hd
        obtain ⟨a, _, rfl⟩ := List.mem_map.mp hd
        cases a <;> decide +kernel
      · show deps (ws.map fun w => D.str w.s) + 1 ≤ 1
        have : deps (ws.map fun w => D.str w.s) ≤ 0 := by
          rw [deps_le]
          intro d hd
          obtain ⟨a, _, rfl⟩ := List.mem_map.mp hd
          exact Nat.le_refl _
        omega
  refine ⟨?_, ?_, ?_⟩
  · show plns (ks.map kindD) = true
    rw [plns_iff]
    intro d hd
    obtain ⟨a, _, rfl⟩ := List.mem_map.mp hd
    exact (h1 a).1
  · show soks (ks.map kindD) = true
    rw [soks_iff]
    intro d hd
    obtain ⟨a, _, rfl⟩ := List.mem_map.mp hd
    exact (h1 a).2.1
  · show deps (ks.map kindD) + 1 ≤ 2
    have : deps (ks.map kindD) ≤ 1 := by
      rw [deps_le]
      intro d hd
      obtain ⟨a, _, rfl⟩ := List.mem_map.mp hd
      exact (h1 a).2.2
    omega
theorem way_ok {p : Prog} (g : Good p) {y : Way} (hy : y ∈ p.ways) : y.ps.length ≤ 100 ∧ ∀ ms, Piece.plain ms ∈ y.ps → ms.length ≤ 10 := ⟨(g.wy y hy).1, fun ms hm => (g.pc y hy _ hm).1⟩
def sp_look_makers : SpX := fun ds m Q Ed => ∃ p : Prog, ds = [p.d] ∧ Good p ∧ Q .non m
theorem ok_look_makers  (T : Txt K mg) (G_kinds_of : FnOk P w K mg base CX0 (2) T.f_kinds_of T.fd_kinds_of ["way"] (spL K 1 sp_kinds_of)) (G_kinds_by_maker : FnOk P w K mg base CX0 (3) T.f_kinds_by_maker T.fd_kinds_by_maker ["ways"] (spL K 1 sp_kinds_by_maker)) (G_all_ways : FnOk P w K mg base CX0 (1) T.f_all_ways T.fd_all_ways ["program"] (spL K 1 sp_all_ways)) : FnOk P w K mg base (L2.CX P w) (4) T.f_look_makers T.fd_look_makers ["program"] (spX K 1 sp_look_makers) := by
  refine fn_okX T.F_look_makers sc_look_makers (fun cdv A outer s H E Ed hr tk =>
(gss_cons (gs_set (i := 1) sc_look_makers.nd rfl (.inl rfl) (ge_call G_all_ways (hr.mono (by omega)) (by rfl) T.g_all_ways T.F_all_ways.kp T.b_all_ways (ga_cons (gv 0) ga_nil)))
 (gss_cons (gs_set (i := 2) sc_look_makers.nd rfl (.inl rfl) (ge_call G_kinds_by_maker (hr.mono (by omega)) (by rfl) T.g_kinds_by_maker T.F_kinds_by_maker.kp T.b_kinds_by_maker (ga_cons (gv 1) ga_nil)))
 (gss_one (gs_for (passes_of rfl) rfl (gi_seq (gv 1)) (gg_name (i := 3) sc_look_makers.nd rfl (.inl rfl))
 (gss_one (gs_if (gt_cmpR (op_neS hr.units) lr_ne (ge_call G_kinds_of (hr.mono (by omega)) (by rfl) T.g_kinds_of T.F_kinds_of.kp T.b_kinds_of (ga_cons (gv 3) ga_nil)) (ge_dgetU (lt1 hr.units) (gv 2) (ge_ix (gv 3) ge_int) (fun _ _ => rfl)) (nomark _))
 (gss_one (gs_raise rfl tk T.oe_BadMaker T.no_BadMaker T.ic_BadMaker T.ti_BadMaker (T.ini_BadMaker) (hr.mono (by omega)) T.bi_BadMaker (by rfl) T.gc_BadMaker (ga_cons (ge_ix (gv 3) ge_int) ga_nil) (by decide)))
 gss_nil))))))) (fun ds m Q Ed h _ => ?_)
  obtain ⟨p, rfl, g, h⟩ := h
  rw [show startD N_look_makers [p.d] = [some (p.d), none, none, none] from rfl]
  walk_at "pd"
  refine ⟨p, rfl, g.toSizes, ?_⟩
  walk_at "pd"
  refine ⟨p.ways, rfl, g.ways, fun y hy => way_ok g hy, ?_⟩
  walk_at "pd"
  refine loop_chk (m := m) (fun s' => ∃ x, s' = [some p.d, some (.rol (p.ways.map Way.d)), some (dicOf (sDic kindsD (kbm p.ways))), x]) Way.d trivial ?_ ?_ ⟨_, rfl⟩
  · rintro y hy s' R ⟨x, rfl⟩ hR
    obtain ⟨v, hv, e1, e2⟩ := kbm_fnd hy
    have ek : v.k = y.k := g.mkk v hv y hy e1
    walk_at "pd"
    refine ⟨y, rfl, (way_ok g hy).1, (way_ok g hy).2, ?_⟩
    unfold Way.d
    walk_at "pd"
    refine ⟨_, dct_dic, _, rfl, _, by rw [valD_s, e2]; rfl, ?_⟩
    rw [ek]
    obtain ⟨k1, k2, k3⟩ := kinds_pln y.k
    refine ⟨_, eqK_yes m k1 k2 (by omega), ?_⟩
    walk_at "pd"
    exact hR _ ⟨_, rfl⟩
  · rintro s' ⟨x, rfl⟩
    exact sub_refl_fin h
theorem refD_inj {a b : Ref} (h : refD a = refD b) : a = b := by
  unfold refD at h
  injection h with h
  injection h with h1 h2
  injection h2 with h2 _
  injection h1 with h1
  injection h2 with h2
  exact Prod.ext (by omega) (by omega)
theorem ref_pln (a : Ref) : pln (refD a) = true := rfl
theorem ref_dep (a : Ref) : dep (refD a) ≤ 60 := by simp [refD, dep, deps]
theorem refs_pln (l : List Ref) : plns (l.map refD) = true := by
  rw [plns_iff]
  intro d hd
  obtain ⟨a, _, rfl⟩ := List.mem_map.mp hd
  rfl
theorem inP_ref {a : Ref} {l : List Ref} : inP (refD a) (l.map refD) = decide (a ∈ l) := by
  rw [Bool.eq_iff_iff, inP_iff (ref_pln a) (refs_pln l), decide_eq_true_eq, List.mem_map]
  exact ⟨fun ⟨b, hb, e⟩ => refD_inj e ▸ hb, fun h => ⟨a, h, rfl⟩⟩
def sp_look_tests : SpX := fun ds m Q Ed => ∃ p : Prog, ds = [p.d] ∧ Good p ∧ Q .non m
theorem ok_look_tests  (T : Txt K mg) (G_all_ways : FnOk P w K mg base CX0 (1) T.f_all_ways T.fd_all_ways ["program"] (spL K 1 sp_all_ways)) (G_sign_places : FnOk P w K mg base CX0 (2) T.f_sign_places T.fd_sign_places ["kinds"] (spL K 1 sp_sign_places)) (G_kinds_of : FnOk P w K mg base CX0 (2) T.f_kinds_of T.fd_kinds_of ["way"] (spL K 1 sp_kinds_of)) : FnOk P w K mg base (L2.CX P w) (4) T.f_look_tests T.fd_look_tests ["program"] (spX K 1 sp_look_tests) := by
  refine fn_okX T.F_look_tests sc_look_tests (fun cdv A outer s H E Ed hr tk =>
(gss_one (gs_for (passes_of rfl) rfl (gi_seq (ge_call G_all_ways (hr.mono (by omega)) (by rfl) T.g_all_ways T.F_all_ways.kp T.b_all_ways (ga_cons (gv 0) ga_nil))) (gg_name (i := 1) sc_look_tests.nd rfl (.inl rfl))
 (gss_cons (gs_set (i := 2) sc_look_tests.nd rfl (.inl rfl) (ge_call G_sign_places (hr.mono (by omega)) (by rfl) T.g_sign_places T.F_sign_places.kp T.b_sign_places (ga_cons (ge_call G_kinds_of (hr.mono (by omega)) (by rfl) T.g_kinds_of T.F_kinds_of.kp T.b_kinds_of (ga_cons (gv 1) ga_nil)) ga_nil)))
 (gss_one (gs_for (passes_of rfl) rfl (gi_seq (ge_ix (gv 1) ge_int)) (gg_tup (n := 3) rfl (ggs_cons (gg_name (i := 3) sc_look_tests.nd rfl (.inl rfl)) (ggs_cons (gg_name (i := 4) sc_look_tests.nd rfl (.inl rfl)) (ggs_cons (gg_name (i := 5) sc_look_tests.nd rfl (.inl rfl)) ggs_nil))))
 (gss_one (gs_if (gw_or (gt_cmpR (op_notInP hr.units) lr_notInPP (gv 4) (gv 2) (by rfl)) (gw_or1 (gt_cmpR (op_notInP hr.units) lr_notInPP (gv 5) (gv 2) (by rfl)))).gt
 (gss_one (gs_raise rfl tk T.oe_BadRef T.no_BadRef T.ic_BadRef T.ti_BadRef (T.ini_BadRef) (hr.mono (by omega)) T.bi_BadRef (by rfl) T.gc_BadRef (ga_cons (ge_ix (gv 1) ge_int) ga_nil) (by decide)))
 gss_nil)))))))) (fun ds m Q Ed h _ => ?_)
  obtain ⟨p, rfl, g, h⟩ := h
  rw [show startD N_look_tests [p.d] = [some (p.d), none, none, none, none, none] from rfl]
  walk_at "pd"
  refine ⟨p, rfl, g.toSizes, ?_⟩
  walk_at "pd"
  refine loop_chk (m := m) (fun s' => ∃ x y z u v, s' = [some p.d, x, y, z, u, v]) Way.d trivial ?_ ?_ ⟨_, _, _, _, _, rfl⟩
  · rintro y hy s' R ⟨x, y1, z, u, v, rfl⟩ hR
    walk_at "pd"
    refine ⟨y, rfl, (way_ok g hy).1, (way_ok g hy).2, ?_⟩
    walk_at "pd"
    refine ⟨y.k, rfl, by unfold Way.k; rw [List.length_map]; exact (way_ok g hy).1, ?_, ?_⟩
    · intro k hk
      unfold Way.k at hk
      obtain ⟨a, ha, e⟩ := List.mem_map.mp hk
      cases a with
      | lot n => cases e
      | plain ms =>
        injection e with e
        rw [← e, List.length_map]
        exact (way_ok g hy).2 ms ha
    · unfold Way.d
      walk_at "pd"
      refine loop_chk (m := m) (fun s' => ∃ x1 y1 z1, s' = [some p.d, some (.tup [.str y.mr, .tup (List.map Piece.d y.ps), .tup (List.map Test.d y.ts)]), some (.tup ((refsTo isSg y.k).map refD)), x1, y1, z1]) Test.d trivial ?_ ?_ ⟨_, _, _, rfl⟩
      · rintro t ht s2 R2 ⟨x1, y1, z1, rfl⟩ hR2
        obtain ⟨_, t1, t2⟩ := g.ts y hy t ht
        rw [Test.d.eq_1]
        walk_at "pd"
        refine ⟨_, rfl, ref_pln _, refs_pln _, ref_dep _, ?_⟩
        rw [inP_ref, decide_eq_true t1]
        walk_at "pd"
        refine ⟨_, rfl, ref_pln _, refs_pln _, ref_dep _, ?_⟩
        rw [inP_ref, decide_eq_true t2]
        walk_at "pd"
        exact hR2 _ ⟨_, _, _, rfl⟩
      · rintro s2 ⟨x1, y1, z1, rfl⟩
        exact hR _ ⟨_, _, _, _, _, rfl⟩
  · rintro s' ⟨x, y, z, u, v, rfl⟩
    exact sub_refl_fin h
end
section
variable {P : Program} {w : World} {K : PySem.W.Frag} {mg : Str → Option Value} {base : Heap}
theorem ok__look_makers_of (T : Txt K mg) : FnOk P w K mg base (L2.CX P w) (2) T.f__look_makers_of T.fd__look_makers_of ["formulas", "sort", "first_kinds", "widths"] (spX K 4 sp_nevX) := fn_nevX (k := 2 - 1) T.F__look_makers_of sc__look_makers_of
theorem ok_judges_of (T : Txt K mg) : FnOk P w K mg base CX0 (1) T.f_judges_of T.fd_judges_of ["ask"] (spL K 1 sp_nev) := fn_nev (k := 1 - 1) T.F_judges_of sc_judges_of
theorem ok_has_first (T : Txt K mg) : FnOk P w K mg base CX0 (1) T.f_has_first T.fd_has_first ["ask"] (spL K 1 sp_nev) := fn_nev (k := 1 - 1) T.F_has_first sc_has_first
theorem ok__is_let (T : Txt K mg) : FnOk P w K mg base CX0 (1) T.f__is_let T.fd__is_let ["ask", "sorts"] (spL K 2 sp_nev) := fn_nev (k := 1 - 1) T.F__is_let sc__is_let
theorem ok_all_asks (T : Txt K mg) : FnOk P w K mg base CX0 (1) T.f_all_asks T.fd_all_asks ["ask"] (spL K 1 sp_nev) := fn_nev (k := 1 - 1) T.F_all_asks sc_all_asks
theorem ok__told_by (T : Txt K mg) : FnOk P w K mg base CX0 (1) T.f__told_by T.fd__told_by ["numbers"] (spL K 1 sp_nev) := fn_nev (k := 1 - 1) T.F__told_by sc__told_by
def sp__first_told : SpD := fun ds m Q => ∃ l : List (Str × D), ds = [.rol (l.map fun p => .tup [.str p.1, p.2])] ∧ (l.map (·.1)).Nodup ∧ l.length ≤ 1000 ∧ Q (dicOf (sDic id l)) m
theorem ok__first_told  (T : Txt K mg)  : FnOk P w K mg base CX0 (1) T.f__first_told T.fd__first_told ["pairs"] (spL K 1 sp__first_told) := by
  refine fn_ok T.F__first_told sc__first_told (fun cdv A outer s H E hr =>
(gss_cons (gs_set (i := 1) sc__first_told.nd rfl (.inl rfl) ge_dnew)
 (gss_cons (gs_for PassesOwn.never rfl (gi_seq (gv 0)) (gg_tup (n := 2) rfl (ggs_cons (gg_name (i := 2) sc__first_told.nd rfl (.inl rfl)) (ggs_cons (gg_name (i := 3) sc__first_told.nd rfl (.inl rfl)) ggs_nil)))
 (gss_one (gs_if (gt_dnotinU (lt1 hr.units) (gv 2) (gv 1))
 (gss_one (gs_dput (lt1 hr.units) (gv 1) (gv 2) (gv 3)))
 gss_nil)))
 (gss_one (gs_ret (ge_frzD (gv 1))))))) (fun ds m Q h => ?_)
  obtain ⟨l, rfl, nd, hl, h⟩ := h
  rw [show startD N__first_told [.rol (l.map fun p => .tup [.str p.1, p.2])] = [some (.rol (l.map fun p => .tup [.str p.1, p.2])), none, none, none] from rfl]
  walk_at "pd"
  intro q hq
  refine loop_pre (fun pre s' m' => (∃ x y, s' = [some (.rol (l.map fun p => .tup [.str p.1, p.2])), some (.ref q), x, y]) ∧ m' = mset m q (.dct (sDic id pre))) (fun p : Str × D => .tup [.str p.1, p.2]) (fun _ _ _ _ => trivial) ?_ ?_ ⟨⟨_, _, rfl⟩, rfl⟩
  · rintro pre x post e s' m' R ⟨⟨y, z, rfl⟩, rfl⟩ hR
    have hn : x.1 ∉ pre.map (·.1) := by
      rw [e, List.map_append, List.nodup_append] at nd
      exact fun hc => nd.2.2 _ hc _ (List.mem_cons_self ..) rfl
    have hpl : pre.length < l.length := by rw [e]; simp
    walk_at "pd"
    refine ⟨_, dct_ref mset_same, _, rfl, ?_⟩
    rw [valD_s, fnd_none.mpr hn]
    walk_at "pd"
    refine ⟨q, _, _, rfl, mset_same, rfl, by rw [sDic_len]; exact Nat.lt_of_lt_of_le (by omega : pre.length < 1000) (by decide), hR _ _ ⟨⟨_, _, rfl⟩, ?_⟩⟩
    rw [mset_mset]
    congr 2
    exact put_new (f := id) (a := x.2) hn
  · rintro s' m' ⟨⟨x, y, rfl⟩, rfl⟩
    walk_at "pd"
    exact ⟨q, _, rfl, mset_same, m, (PD.Sub.new hq).del hq, h⟩
def sp_look_formulas : SpX := fun ds m Q Ed => ∃ p : Prog, ds = [p.d] ∧ Good0 p ∧ Q .non m
theorem ok_look_formulas  (T : Txt K mg) (G__look_makers_of : FnOk P w K mg base (L2.CX P w) (2) T.f__look_makers_of T.fd__look_makers_of ["formulas", "sort", "first_kinds", "widths"] (spX K 4 sp_nevX)) (G__first_told : FnOk P w K mg base CX0 (1) T.f__first_told T.fd__first_told ["pairs"] (spL K 1 sp__first_told)) (G_kinds_by_maker : FnOk P w K mg base CX0 (3) T.f_kinds_by_maker T.fd_kinds_by_maker ["ways"] (spL K 1 sp_kinds_by_maker)) (G_all_ways : FnOk P w K mg base CX0 (1) T.f_all_ways T.fd_all_ways ["program"] (spL K 1 sp_all_ways)) : FnOk P w K mg base (L2.CX P w) (4) T.f_look_formulas T.fd_look_formulas ["program"] (spX K 1 sp_look_formulas) := by
  refine fn_okX T.F_look_formulas sc_look_formulas (fun cdv A outer s H E Ed hr tk =>
(gss_cons (gs_set (i := 1) sc_look_formulas.nd rfl (.inl rfl) (ge_call G_kinds_by_maker (hr.mono (by omega)) (by rfl) T.g_kinds_by_maker T.F_kinds_by_maker.kp T.b_kinds_by_maker (ga_cons (ge_call G_all_ways (hr.mono (by omega)) (by rfl) T.g_all_ways T.F_all_ways.kp T.b_all_ways (ga_cons (gv 0) ga_nil)) ga_nil)))
 (gss_cons (gs_set (i := 2) sc_look_formulas.nd rfl (.inl rfl) (ge_call G__first_told (hr.mono (by omega)) (by rfl) T.g__first_told T.F__first_told.kp T.b__first_told (ga_cons (ge_frz (ge_lc (own := [("entry", 8)]) rfl sc_look_formulas.nd (gi_seq (ge_ix (gv 0) (ge_glb (by rfl) T.v_NUMBERS))) (blkOk_by (N := N_look_formulas) (sc := defScope s_look_formulas) (by decide +kernel)) (fun _ _ _ _ _ => (gg_name (i := 8) sc_look_formulas.nd rfl (.inl rfl))) (fun _ _ _ _ _ => gts_nil) (fun _ _ _ _ _ => (ge_tup (ga_cons (ge_ix (gv 8) ge_int) (ga_cons (ge_ix (gv 8) ge_int) ga_nil)))) (by decide))) ga_nil)))
 (gss_one (gs_for (passes_of rfl) rfl (gi_seq (ge_ix (gv 0) (ge_glb (by rfl) T.v_JUDGES))) (gg_tup (n := 3) rfl (ggs_cons (gg_name (i := 3) sc_look_formulas.nd rfl (.inl rfl)) (ggs_cons (gg_name (i := 4) sc_look_formulas.nd rfl (.inl rfl)) (ggs_cons (gg_name (i := 5) sc_look_formulas.nd rfl (.inl rfl)) ggs_nil))))
 (gss_cons (gs_expr (ge_callX G__look_makers_of tk (hr.mono (by omega)) (by rfl) T.g__look_makers_of T.F__look_makers_of.kp T.b__look_makers_of (ga_cons (gv 5) (ga_cons (gv 4) (ga_cons (gv 1) (ga_cons (gv 2) ga_nil))))))
 (gss_cons (gs_setLc (i := 6) (own := [("maker", 7), ("formula", 9)]) rfl sc_look_formulas.nd rfl rfl (sw_true rfl rfl rfl (by decide +kernel)) (gi_seq (gv 5)) (blkOk_by (N := N_look_formulas) (sc := defScope s_look_formulas) (by decide +kernel)) (fun _ _ _ _ _ => (gg_tup (n := 2) rfl (ggs_cons (gg_name (i := 7) sc_look_formulas.nd rfl (.inl rfl)) (ggs_cons (gg_name (i := 9) sc_look_formulas.nd rfl (.inl rfl)) ggs_nil)))) (fun _ _ _ _ _ => gts_nil) (fun _ _ _ _ _ => (gv 7)) (by decide))
 (gss_one (gs_for (passes_of rfl) rfl (gi_keys (gv 1)) (gg_name (i := 7) sc_look_formulas.nd rfl (.inl rfl))
 (gss_one (gs_if (gt_cmpR op_notInU lr_notIn (gv 7) (gv 6) (by rfl))
 (gss_one (gs_raise rfl tk T.oe_Missing T.no_Missing T.ic_Missing T.ti_Missing (T.ini_Missing) (hr.mono (by omega)) T.bi_Missing (by rfl) T.gc_Missing (ga_cons (gv 3) (ga_cons (gv 7) ga_nil)) (by decide)))
 gss_nil))))))))))) (fun ds m Q Ed h _ => ?_)
  obtain ⟨p, rfl, g, h⟩ := h
  rw [show startD N_look_formulas [p.d] = [some (p.d), none, none, none, none, none, none, none, none, none] from rfl]
  walk_at "pd"
  refine ⟨p, rfl, g.toSizes, ?_⟩
  walk_at "pd"
  refine ⟨p.ways, rfl, g.ways, fun y hy => way_ok g.toGood hy, ?_⟩
  unfold Prog.d
  rw [g.nn, g.nj]
  walk_at "pd"
  intro q hq
  refine ⟨_, rfl, [], rfl, List.nodup_nil, Nat.zero_le _, ?_⟩
  walk_at "pd"
  exact ⟨m, PD.Sub.del (PD.Sub.new hq) hq, h⟩
def sp_look_asks : SpX := fun ds m Q Ed => ∃ p : Prog, ds = [p.d] ∧ Good0 p ∧ Q .non m
theorem ok_look_asks  (T : Txt K mg) (G_all_asks : FnOk P w K mg base CX0 (1) T.f_all_asks T.fd_all_asks ["ask"] (spL K 1 sp_nev)) (G__is_let : FnOk P w K mg base CX0 (1) T.f__is_let T.fd__is_let ["ask", "sorts"] (spL K 2 sp_nev)) (G_has_first : FnOk P w K mg base CX0 (1) T.f_has_first T.fd_has_first ["ask"] (spL K 1 sp_nev)) (G_judges_of : FnOk P w K mg base CX0 (1) T.f_judges_of T.fd_judges_of ["ask"] (spL K 1 sp_nev)) (G__first_told : FnOk P w K mg base CX0 (1) T.f__first_told T.fd__first_told ["pairs"] (spL K 1 sp__first_told)) : FnOk P w K mg base (L2.CX P w) (3) T.f_look_asks T.fd_look_asks ["program"] (spX K 1 sp_look_asks) := by
  refine fn_okX T.F_look_asks sc_look_asks (fun cdv A outer s H E Ed hr tk =>
(gss_cons (gs_set (i := 1) sc_look_asks.nd rfl (.inr rfl) (ge_call G__first_told (hr.mono (by omega)) (by rfl) T.g__first_told T.F__first_told.kp T.b__first_told (ga_cons (ge_frz (ge_lc (own := [("entry", 7)]) rfl sc_look_asks.nd (gi_seq (ge_ix (gv 0) (ge_glb (by rfl) T.v_JUDGES))) (blkOk_by (N := N_look_asks) (sc := defScope s_look_asks) (by decide +kernel)) (fun _ _ _ _ _ => (gg_name (i := 7) sc_look_asks.nd rfl (.inl rfl))) (fun _ _ _ _ _ => gts_nil) (fun _ _ _ _ _ => (ge_tup (ga_cons (ge_ix (gv 7) ge_int) (ga_cons (ge_ix (gv 7) ge_int) ga_nil)))) (by decide))) ga_nil)))
 (gss_one (gs_for (passes_of rfl) rfl (gi_seq (ge_ix (gv 0) (ge_glb (by rfl) T.v_ASKS))) (gg_tup (n := 2) rfl (ggs_cons (gg_name (i := 2) sc_look_asks.nd rfl (.inl rfl)) (ggs_cons (gg_name (i := 3) sc_look_asks.nd rfl (.inl rfl)) ggs_nil)))
 (gss_cons (gs_set (i := 4) sc_look_asks.nd rfl (.inl rfl) (ge_call G_judges_of (hr.mono (by omega)) (by rfl) T.g_judges_of T.F_judges_of.kp T.b_judges_of (ga_cons (gv 3) ga_nil)))
 (gss_cons (gs_for (passes_of rfl) rfl (gi_seq (gv 4)) (gg_name (i := 5) sc_look_asks.nd rfl (.inl rfl))
 (gss_one (gs_if (gt_dnotinU (lt1 hr.units) (gv 5) (gv 1))
 (gss_one (gs_raise rfl tk T.oe_NoName T.no_NoName T.ic_NoName T.ti_NoName (T.ini_NoName) (hr.mono (by omega)) T.bi_NoName (by rfl) T.gc_NoName (ga_cons (gv 5) ga_nil) (by decide)))
 gss_nil)))
 (gss_cons (gs_set (i := 6) sc_look_asks.nd rfl (.inl rfl) (ge_or (ge_cmpR (op_ltS hr.units) lr_ltP (ge_callB cr_lenTx lc_lenTx (by rfl) T.z_len PySem.boot_len (ga_cons (ge_callTy (cr_setTx rfl) lc_setTx (by rfl) T.z_set (by decide +kernel) (ga_cons (gv 4) ga_nil)) ga_nil)) (ge_callB call_lenU lc_len (by rfl) T.z_len PySem.boot_len (ga_cons (gv 4) ga_nil)) (nomark _)) (ge_one (ge_cmpR (op_gtS hr.units) lr_gtP (ge_call G_has_first (hr.mono (by omega)) (by rfl) T.g_has_first T.F_has_first.kp T.b_has_first (ga_cons (gv 3) ga_nil)) ge_int (nomark _)))))
 (gss_one (gs_if (gw_or (gt_tru (gv 6)) (gw_or1 (gt_not (gt_val (ge_callB (cr_all rfl) lc_all (by rfl) T.z_all (by decide +kernel) (ga_cons (ge_lc (own := [("one", 8)]) rfl sc_look_asks.nd (gi_seq (ge_call G_all_asks (hr.mono (by omega)) (by rfl) T.g_all_asks T.F_all_asks.kp T.b_all_asks (ga_cons (gv 3) ga_nil))) (blkOk_by (N := N_look_asks) (sc := defScope s_look_asks) (by decide +kernel)) (fun _ _ _ _ _ => (gg_name (i := 8) sc_look_asks.nd rfl (.inl rfl))) (fun _ _ _ _ _ => gts_nil) (fun _ _ _ _ _ => (ge_call G__is_let (hr.mono (by omega)) (by rfl) T.g__is_let T.F__is_let.kp T.b__is_let (ga_cons (gv 8) (ga_cons (gv 1) ga_nil)))) (by decide)) ga_nil)))))).gt
 (gss_one (gs_raise rfl tk T.oe_BadAsk T.no_BadAsk T.ic_BadAsk T.ti_BadAsk (T.ini_BadAsk) (hr.mono (by omega)) T.bi_BadAsk (by rfl) T.gc_BadAsk (ga_cons (gv 2) ga_nil) (by decide)))
 gss_nil))))))))) (fun ds m Q Ed h _ => ?_)
  obtain ⟨p, rfl, g, h⟩ := h
  rw [show startD N_look_asks [p.d] = [some (p.d), none, none, none, none, none, none, none, none] from rfl]
  unfold Prog.d
  rw [g.na, g.nj]
  walk_at "pd"
  intro q hq
  refine ⟨_, rfl, [], rfl, List.nodup_nil, Nat.zero_le _, ?_⟩
  walk_at "pd"
  exact ⟨m, PD.Sub.del (PD.Sub.new hq) hq, h⟩
def sp__look_all : SpX := fun ds m Q Ed => ∃ p : Prog, ds = [p.d] ∧ Good0 p ∧ Q .non m
theorem ok__look_all  (T : Txt K mg) (G_look_asks : FnOk P w K mg base (L2.CX P w) (3) T.f_look_asks T.fd_look_asks ["program"] (spX K 1 sp_look_asks)) (G_look_formulas : FnOk P w K mg base (L2.CX P w) (4) T.f_look_formulas T.fd_look_formulas ["program"] (spX K 1 sp_look_formulas)) (G_look_tests : FnOk P w K mg base (L2.CX P w) (4) T.f_look_tests T.fd_look_tests ["program"] (spX K 1 sp_look_tests)) (G_look_makers : FnOk P w K mg base (L2.CX P w) (4) T.f_look_makers T.fd_look_makers ["program"] (spX K 1 sp_look_makers)) (G_look_mentions : FnOk P w K mg base (L2.CX P w) (4) T.f_look_mentions T.fd_look_mentions ["program"] (spX K 1 sp_look_mentions)) (G_look_signs : FnOk P w K mg base (L2.CX P w) (3) T.f_look_signs T.fd_look_signs ["program"] (spX K 1 sp_look_signs)) (G_look_names : FnOk P w K mg base (L2.CX P w) (4) T.f_look_names T.fd_look_names ["program"] (spX K 1 sp_look_names)) : FnOk P w K mg base (L2.CX P w) (5) T.f__look_all T.fd__look_all ["program"] (spX K 1 sp__look_all) := by
  refine fn_okX T.F__look_all sc__look_all (fun cdv A outer s H E Ed hr tk =>
(gss_cons (gs_expr (ge_callX G_look_names tk (hr.mono (by omega)) (by rfl) T.g_look_names T.F_look_names.kp T.b_look_names (ga_cons (gv 0) ga_nil)))
 (gss_cons (gs_expr (ge_callX G_look_signs tk (hr.mono (by omega)) (by rfl) T.g_look_signs T.F_look_signs.kp T.b_look_signs (ga_cons (gv 0) ga_nil)))
 (gss_cons (gs_expr (ge_callX G_look_mentions tk (hr.mono (by omega)) (by rfl) T.g_look_mentions T.F_look_mentions.kp T.b_look_mentions (ga_cons (gv 0) ga_nil)))
 (gss_cons (gs_expr (ge_callX G_look_makers tk (hr.mono (by omega)) (by rfl) T.g_look_makers T.F_look_makers.kp T.b_look_makers (ga_cons (gv 0) ga_nil)))
 (gss_cons (gs_expr (ge_callX G_look_tests tk (hr.mono (by omega)) (by rfl) T.g_look_tests T.F_look_tests.kp T.b_look_tests (ga_cons (gv 0) ga_nil)))
 (gss_cons (gs_expr (ge_callX G_look_formulas tk (hr.mono (by omega)) (by rfl) T.g_look_formulas T.F_look_formulas.kp T.b_look_formulas (ga_cons (gv 0) ga_nil)))
 (gss_one (gs_expr (ge_callX G_look_asks tk (hr.mono (by omega)) (by rfl) T.g_look_asks T.F_look_asks.kp T.b_look_asks (ga_cons (gv 0) ga_nil))))))))))) (fun ds m Q Ed h _ => ?_)
  obtain ⟨p, rfl, g, h⟩ := h
  rw [show startD N__look_all [p.d] = [some (p.d)] from rfl]
  walk_at "pd"
  refine ⟨p, rfl, g, ?_⟩
  refine ⟨p, rfl, g, ?_⟩
  refine ⟨p, rfl, g.toGood, ?_⟩
  refine ⟨p, rfl, g.toGood, ?_⟩
  refine ⟨p, rfl, g.toGood, ?_⟩
  refine ⟨p, rfl, g, ?_⟩
  refine ⟨p, rfl, g, ?_⟩
  exact sub_refl_fin h
def sp__formulas_of : SpD := fun ds m Q => ∃ p : Prog, ds = [p.d] ∧ p.js = [] ∧ Q (dicTOf []) m
theorem ok__formulas_of  (T : Txt K mg)  : FnOk P w K mg base CX0 (1) T.f__formulas_of T.fd__formulas_of ["program"] (spL K 1 sp__formulas_of) := by
  refine fn_ok T.F__formulas_of sc__formulas_of (fun cdv A outer s H E hr =>
(gss_cons (gs_set (i := 1) sc__formulas_of.nd rfl (.inl rfl) ge_dnewT)
 (gss_cons (gs_for PassesOwn.never rfl (gi_seq (ge_ix (gv 0) (ge_glb (by rfl) T.v_JUDGES))) (gg_tup (n := 3) rfl (ggs_cons (gg_name (i := 2) sc__formulas_of.nd rfl (.inl rfl)) (ggs_cons (gg_name (i := 3) sc__formulas_of.nd rfl (.inl rfl)) (ggs_cons (gg_name (i := 4) sc__formulas_of.nd rfl (.inl rfl)) ggs_nil))))
 (gss_one (gs_for PassesOwn.never rfl (gi_seq (gv 4)) (gg_tup (n := 2) rfl (ggs_cons (gg_name (i := 5) sc__formulas_of.nd rfl (.inl rfl)) (ggs_cons (gg_name (i := 6) sc__formulas_of.nd rfl (.inl rfl)) ggs_nil)))
 (gss_one (gs_dputT (lt1 hr.units) (gv 1) (ga_cons (gv 2) (ga_cons (gv 5) ga_nil)) (gv 6))))))
 (gss_one (gs_ret (ge_frzT (gv 1))))))) (fun ds m Q h => ?_)
  obtain ⟨p, rfl, g, h⟩ := h
  rw [show startD N__formulas_of [p.d] = [some (p.d), none, none, none, none, none, none] from rfl]
  unfold Prog.d
  rw [g]
  walk_at "pd"
  intro q hq
  exact ⟨q, _, rfl, mset_same, m, PD.Sub.del (PD.Sub.new hq) hq, h⟩
theorem sub_put {m M : Mu} {x : Addr} {o o' : MO} (S : PD.Sub (mset m x o) M) : PD.Sub (mset m x o') (mset M x o') := fun a u e => by
  by_cases h : a = x
  · subst h; rw [mset_same] at e ⊢; exact e
  · rw [mset_ne h] at e ⊢; exact S a u (by rw [mset_ne h]; exact e)
theorem sub_at {m M : Mu} {x : Addr} {o : MO} (S : PD.Sub (mset m x o) M) : M x = some o := S x o mset_same
def bkFl (p : Prog) : List (Str × D) := bkFs.zip (bkVs p (dicOf []) (dicOf []) (dicTOf []) (dicOf []))
theorem fl_len (p : Prog) (k : Nat) : ((bkFl p).take k).length < 1000 := by
  rw [List.length_take]
  have : (bkFl p).length = 11 := rfl
  omega
theorem nd_inr {l : List Str} (h : l.Nodup) : (l.map (Sum.inr : Str → Key)).Nodup := by
  unfold List.Nodup at *
  rw [List.pairwise_map]
  exact h.imp fun hne e => hne (Sum.inr.inj e)
def sp_Book___init__ (T : Txt K mg) : SpX := fun ds m Q Ed => ∃ (p : Prog) (x : Addr), ds = [.ref x, p.d] ∧ m x = some (.ins T.c_Book []) ∧ Good0 p ∧ Q .non (mset m x (.ins T.c_Book (bkFl p)))
set_option maxHeartbeats 8000000 in
theorem ok_Book___init__  (T : Txt K mg) (G__formulas_of : FnOk P w K mg base CX0 (1) T.f__formulas_of T.fd__formulas_of ["program"] (spL K 1 sp__formulas_of)) (G__told_by : FnOk P w K mg base CX0 (1) T.f__told_by T.fd__told_by ["numbers"] (spL K 1 sp_nev)) (G_kinds_by_maker : FnOk P w K mg base CX0 (3) T.f_kinds_by_maker T.fd_kinds_by_maker ["ways"] (spL K 1 sp_kinds_by_maker)) (G_all_ways : FnOk P w K mg base CX0 (1) T.f_all_ways T.fd_all_ways ["program"] (spL K 1 sp_all_ways)) (G__look_all : FnOk P w K mg base (L2.CX P w) (5) T.f__look_all T.fd__look_all ["program"] (spX K 1 sp__look_all)) : FnOk P w K mg base (L2.CX P w) (6) T.f_Book___init__ T.fd_Book___init__ ["self", "program"] (spX K 2 (sp_Book___init__ T)) := by
  refine fn_okX T.F_Book___init__ sc_Book___init__ (fun cdv A outer s H E Ed hr tk =>
(gss_cons (gs_expr (ge_callX G__look_all (no_tk) (hr.mono (by omega)) (by rfl) T.g__look_all T.F__look_all.kp T.b__look_all (ga_cons (gv 1) ga_nil)))
 (gss_cons (gs_fld T.cls_Book T.na_Book_program (gv 0) (gv 1))
 (gss_cons (gs_fld T.cls_Book T.na_Book_signs (gv 0) (ge_ix (gv 1) (ge_glb (by rfl) T.v_SIGNS)))
 (gss_cons (gs_fld T.cls_Book T.na_Book_rows (gv 0) (ge_ix (gv 1) (ge_glb (by rfl) T.v_ROWS)))
 (gss_cons (gs_fld T.cls_Book T.na_Book_start (gv 0) (ge_ix (gv 1) (ge_glb (by rfl) T.v_START)))
 (gss_cons (gs_fld T.cls_Book T.na_Book__ways (gv 0) (ge_frzD (ge_dc (own := [("name", 3), ("ways", 4)]) rfl sc_Book___init__.nd (gi_seq (ge_ix (gv 1) (ge_glb (by rfl) T.v_LOTS))) (blkOk_by (N := N_Book___init__) (sc := defScope s_Book___init__) (by decide +kernel)) (fun _ _ _ _ _ => (gg_tup (n := 2) rfl (ggs_cons (gg_name (i := 3) sc_Book___init__.nd rfl (.inl rfl)) (ggs_cons (gg_name (i := 4) sc_Book___init__.nd rfl (.inl rfl)) ggs_nil)))) (fun _ _ _ _ _ => gts_nil) (fun _ _ _ _ _ => (gv 3)) (fun _ _ _ _ _ => (gv 4)) (by decide))))
 (gss_cons (gs_fld T.cls_Book T.na_Book__kinds (gv 0) (ge_call G_kinds_by_maker (hr.mono (by omega)) (by rfl) T.g_kinds_by_maker T.F_kinds_by_maker.kp T.b_kinds_by_maker (ga_cons (ge_call G_all_ways (hr.mono (by omega)) (by rfl) T.g_all_ways T.F_all_ways.kp T.b_all_ways (ga_cons (gv 1) ga_nil)) ga_nil)))
 (gss_cons (gs_fld T.cls_Book T.na_Book__pairs (gv 0) (ge_frzD (ge_dc (own := [("name", 3), ("words", 5)]) rfl sc_Book___init__.nd (gi_seq (ge_ix (gv 1) (ge_glb (by rfl) T.v_PAIRS))) (blkOk_by (N := N_Book___init__) (sc := defScope s_Book___init__) (by decide +kernel)) (fun _ _ _ _ _ => (gg_tup (n := 2) rfl (ggs_cons (gg_name (i := 3) sc_Book___init__.nd rfl (.inl rfl)) (ggs_cons (gg_name (i := 5) sc_Book___init__.nd rfl (.inl rfl)) ggs_nil)))) (fun _ _ _ _ _ => gts_nil) (fun _ _ _ _ _ => (gv 3)) (fun _ _ _ _ _ => (gv 5)) (by decide))))
 (gss_cons (gs_fld T.cls_Book T.na_Book__numbers (gv 0) (ge_frzD (ge_dc (own := [("entry", 2)]) rfl sc_Book___init__.nd (gi_seq (ge_ix (gv 1) (ge_glb (by rfl) T.v_NUMBERS))) (blkOk_by (N := N_Book___init__) (sc := defScope s_Book___init__) (by decide +kernel)) (fun _ _ _ _ _ => (gg_name (i := 2) sc_Book___init__.nd rfl (.inl rfl))) (fun _ _ _ _ _ => gts_nil) (fun _ _ _ _ _ => (ge_ix (gv 2) ge_int)) (fun _ _ _ _ _ => (ge_call G__told_by (hr.mono (by omega)) (by rfl) T.g__told_by T.F__told_by.kp T.b__told_by (ga_cons (gv 2) ga_nil))) (by decide))))
 (gss_cons (gs_fld T.cls_Book T.na_Book__sorts (gv 0) (ge_frzD (ge_dc (own := [("entry", 2)]) rfl sc_Book___init__.nd (gi_seq (ge_ix (gv 1) (ge_glb (by rfl) T.v_JUDGES))) (blkOk_by (N := N_Book___init__) (sc := defScope s_Book___init__) (by decide +kernel)) (fun _ _ _ _ _ => (gg_name (i := 2) sc_Book___init__.nd rfl (.inl rfl))) (fun _ _ _ _ _ => gts_nil) (fun _ _ _ _ _ => (ge_ix (gv 2) ge_int)) (fun _ _ _ _ _ => (ge_ix (gv 2) ge_int)) (by decide))))
 (gss_cons (gs_fld T.cls_Book T.na_Book__formulas (gv 0) (ge_call G__formulas_of (hr.mono (by omega)) (by rfl) T.g__formulas_of T.F__formulas_of.kp T.b__formulas_of (ga_cons (gv 1) ga_nil)))
 (gss_one (gs_fld T.cls_Book T.na_Book__asks (gv 0) (ge_frzD (ge_dc (own := [("name", 3), ("ask", 6)]) rfl sc_Book___init__.nd (gi_seq (ge_ix (gv 1) (ge_glb (by rfl) T.v_ASKS))) (blkOk_by (N := N_Book___init__) (sc := defScope s_Book___init__) (by decide +kernel)) (fun _ _ _ _ _ => (gg_tup (n := 2) rfl (ggs_cons (gg_name (i := 3) sc_Book___init__.nd rfl (.inl rfl)) (ggs_cons (gg_name (i := 6) sc_Book___init__.nd rfl (.inl rfl)) ggs_nil)))) (fun _ _ _ _ _ => gts_nil) (fun _ _ _ _ _ => (gv 3)) (fun _ _ _ _ _ => (gv 6)) (by decide))))))))))))))))) (fun ds m Q Ed h _ => ?_)
  obtain ⟨p, x, rfl, hx, g, h⟩ := h
  rw [show startD N_Book___init__ [.ref x, p.d] = [some (.ref x), some (p.d), none, none, none, none, none] from rfl]
  walk_at "pd"
  refine ⟨p, rfl, g, ?_⟩
  have S0 : PD.Sub (mset m x (.ins T.c_Book ((bkFl p).take 0))) m := fun a u e => by
    by_cases h : a = x
    · subst h; rw [mset_same] at e; rw [← e]; exact hx
    · rw [mset_ne h] at e; exact e
  refine ⟨x, _, rfl, hx, by decide, ?_⟩
  rw [show putD "program" p.d ([] : List (Str × D)) = (bkFl p).take 1 from rfl]
  generalize eM : mset m x (.ins T.c_Book ((bkFl p).take 1)) = M1
  have S1 : PD.Sub (mset m x (.ins T.c_Book ((bkFl p).take 1))) M1 := eM ▸ PD.Sub.refl _
  refine ⟨x, _, rfl, sub_at S1, fl_len p _, ?_⟩
  rw [show putD "signs" (.str (tx p.sg)) ((bkFl p).take 1) = (bkFl p).take 2 from rfl]
  have S2 := sub_put (o' := .ins T.c_Book ((bkFl p).take 2)) S1
  generalize mset M1 x (.ins T.c_Book ((bkFl p).take 2)) = M2 at *
  refine ⟨x, _, rfl, sub_at S2, fl_len p _, ?_⟩
  rw [show putD "rows" (.int (p.rows : Int)) ((bkFl p).take 2) = (bkFl p).take 3 from rfl]
  have S3 := sub_put (o' := .ins T.c_Book ((bkFl p).take 3)) S2
  generalize mset M2 x (.ins T.c_Book ((bkFl p).take 3)) = M3 at *
  refine ⟨x, _, rfl, sub_at S3, fl_len p _, ?_⟩
  rw [show putD "start" (.str p.start) ((bkFl p).take 3) = (bkFl p).take 4 from rfl]
  have S4 := sub_put (o' := .ins T.c_Book ((bkFl p).take 4)) S3
  generalize mset M3 x (.ins T.c_Book ((bkFl p).take 4)) = M4 at *
  intro q4 hq4
  refine dcomp_pure lotD (fun l => ((.inr l.1 : Key), waysD l.2)) (fun _ => trivial) (by have := g.lt; omega) ?_ (fun l hl a R k => ?_) ?_
  · have e : (p.lots.map fun l => (Sum.inr l.1 : Key)) = (p.lots.map (·.1)).map Sum.inr := by rw [List.map_map]; rfl
    rw [e]
    exact nd_inr g.ndL
  · rw [lotD.eq_1]
    walk_at "pd"
    exact k _ rfl
  refine ⟨q4, _, rfl, mset_same, ?_⟩
  rw [show (p.lots.map fun l => ((Sum.inr l.1 : Key), waysD l.2)) = sDic waysD p.lots from rfl]
  have F4 := PD.Sub.free S4 hq4
  have n4 : x ≠ q4 := fun e => by have z := sub_at S4; rw [e, hq4] at z; cases z
  have S4' := PD.Sub.del (PD.Sub.new' (o := .dct (sDic waysD p.lots)) S4 F4) F4
  generalize mdel (mset M4 q4 (.dct (sDic waysD p.lots))) q4 = M4' at *
  refine ⟨x, _, rfl, sub_at S4', fl_len p _, ?_⟩
  rw [show putD "_ways" (dicOf (sDic waysD p.lots)) ((bkFl p).take 4) = (bkFl p).take 5 from rfl]
  have S5 := sub_put (o' := .ins T.c_Book ((bkFl p).take 5)) S4'
  generalize mset M4' x (.ins T.c_Book ((bkFl p).take 5)) = M5 at *
  refine ⟨p, rfl, g.toSizes, ?_⟩
  walk_at "pd"
  refine ⟨p.ways, rfl, g.ways, fun y hy => way_ok g.toGood hy, ?_⟩
  refine ⟨x, _, rfl, sub_at S5, fl_len p _, ?_⟩
  rw [show putD "_kinds" (dicOf (sDic kindsD (kbm p.ways))) ((bkFl p).take 5) = (bkFl p).take 6 from rfl]
  have S6 := sub_put (o' := .ins T.c_Book ((bkFl p).take 6)) S5
  generalize mset M5 x (.ins T.c_Book ((bkFl p).take 6)) = M6 at *
  intro q6 hq6
  refine dcomp_pure Bk.pairD (fun l => ((.inr l.1 : Key), wordsD l.2)) (fun _ => trivial) (by have := g.pr; omega) ?_ (fun l hl a R k => ?_) ?_
  · have e : (p.pairs.map fun l => (Sum.inr l.1 : Key)) = (p.pairs.map (·.1)).map Sum.inr := by rw [List.map_map]; rfl
    rw [e]
    exact nd_inr g.ndP
  · rw [Bk.pairD.eq_1]
    walk_at "pd"
    exact k _ rfl
  refine ⟨q6, _, rfl, mset_same, ?_⟩
  rw [show (p.pairs.map fun l => ((Sum.inr l.1 : Key), wordsD l.2)) = sDic wordsD p.pairs from rfl]
  have F6 := PD.Sub.free S6 hq6
  have n6 : x ≠ q6 := fun e => by have z := sub_at S6; rw [e, hq6] at z; cases z
  have S6' := PD.Sub.del (PD.Sub.new' (o := .dct (sDic wordsD p.pairs)) S6 F6) F6
  generalize mdel (mset M6 q6 (.dct (sDic wordsD p.pairs))) q6 = M6' at *
  refine ⟨x, _, rfl, sub_at S6', fl_len p _, ?_⟩
  rw [show putD "_pairs" (dicOf (sDic wordsD p.pairs)) ((bkFl p).take 6) = (bkFl p).take 7 from rfl]
  have S7 := sub_put (o' := .ins T.c_Book ((bkFl p).take 7)) S6'
  generalize mset M6' x (.ins T.c_Book ((bkFl p).take 7)) = M7 at *
  rw [g.nn]
  walk_at "pd"
  intro q7 hq7
  refine ⟨q7, _, rfl, mset_same, ?_⟩
  have F7 := PD.Sub.free S7 hq7
  have n7 : x ≠ q7 := fun e => by have z := sub_at S7; rw [e, hq7] at z; cases z
  have S7' := PD.Sub.del (PD.Sub.new' (o := .dct []) S7 F7) F7
  generalize mdel (mset M7 q7 (.dct [])) q7 = M7' at *
  refine ⟨x, _, rfl, sub_at S7', fl_len p _, ?_⟩
  rw [show putD "_numbers" (dicOf []) ((bkFl p).take 7) = (bkFl p).take 8 from rfl]
  have S8 := sub_put (o' := .ins T.c_Book ((bkFl p).take 8)) S7'
  generalize mset M7' x (.ins T.c_Book ((bkFl p).take 8)) = M8 at *
  rw [g.nj]
  walk_at "pd"
  intro q8 hq8
  refine ⟨q8, _, rfl, mset_same, ?_⟩
  have F8 := PD.Sub.free S8 hq8
  have n8 : x ≠ q8 := fun e => by have z := sub_at S8; rw [e, hq8] at z; cases z
  have S8' := PD.Sub.del (PD.Sub.new' (o := .dct []) S8 F8) F8
  generalize mdel (mset M8 q8 (.dct [])) q8 = M8' at *
  refine ⟨x, _, rfl, sub_at S8', fl_len p _, ?_⟩
  rw [show putD "_sorts" (dicOf []) ((bkFl p).take 8) = (bkFl p).take 9 from rfl]
  have S9 := sub_put (o' := .ins T.c_Book ((bkFl p).take 9)) S8'
  generalize mset M8' x (.ins T.c_Book ((bkFl p).take 9)) = M9 at *
  refine ⟨p, rfl, g.nj, ?_⟩
  refine ⟨x, _, rfl, sub_at S9, fl_len p _, ?_⟩
  rw [show putD "_formulas" (dicTOf []) ((bkFl p).take 9) = (bkFl p).take 10 from rfl]
  have S10 := sub_put (o' := .ins T.c_Book ((bkFl p).take 10)) S9
  generalize mset M9 x (.ins T.c_Book ((bkFl p).take 10)) = M10 at *
  rw [g.na]
  walk_at "pd"
  intro q10 hq10
  refine ⟨q10, _, rfl, mset_same, ?_⟩
  have F10 := PD.Sub.free S10 hq10
  have n10 : x ≠ q10 := fun e => by have z := sub_at S10; rw [e, hq10] at z; cases z
  have S10' := PD.Sub.del (PD.Sub.new' (o := .dct []) S10 F10) F10
  generalize mdel (mset M10 q10 (.dct [])) q10 = M10' at *
  refine ⟨x, _, rfl, sub_at S10', fl_len p _, ?_⟩
  rw [show putD "_asks" (dicOf []) ((bkFl p).take 10) = (bkFl p).take 11 from rfl]
  have S11 := sub_put (o' := .ins T.c_Book ((bkFl p).take 11)) S10'
  generalize mset M10' x (.ins T.c_Book ((bkFl p).take 11)) = M11 at *
  exact ⟨_, S11, h⟩
end
section
variable {P : Program} {w : World} {K : PySem.W.Frag} {mg : Str → Option Value} {base : Heap}
def sp_letters_of (C : Addr) : SpD := fun ds m Q => ∃ (p : Prog) (nv sv fv av : D) (l : List Nat), ds = [bookD C p nv sv fv av, (Mark.sign l).d] ∧ Q (.str (tx (if l = [] then p.sg else l))) m
theorem ok_letters_of  (T : Txt K mg)  : FnOk P w K mg base CX0 (1) T.f_letters_of T.fd_letters_of ["book", "mark"] (spL K 2 (sp_letters_of T.c_Book)) := by
  refine fn_ok T.F_letters_of sc_letters_of (fun cdv A outer s H E hr =>
(gss_one (gs_ret (ge_ifE (gt_cmpR (op_eqS hr.units) lr_eq (ge_ix (gv 1) ge_int) ge_str (nomark _)) (ge_fldO T.cls_Book T.na_Book_signs (gv 0)) (ge_ix (gv 1) ge_int))))) (fun ds m Q h => ?_)
  obtain ⟨p, nv, sv, fv, av, l, rfl, h⟩ := h
  unfold bookD Mark.d
  rw [show startD N_letters_of [.obj T.c_Book bkFs (bkVs p nv sv fv av), .tup [.str "sign", .str (tx l)]] = [some (.obj T.c_Book bkFs (bkVs p nv sv fv av)), some (.tup [.str "sign", .str (tx l)])] from rfl]
  walk_at "pd"
  by_cases c : l = []
  · rw [if_pos c] at h
    rw [if_pos (by rw [c])]
    exact sub_refl_fin h
  · rw [if_neg c] at h
    rw [if_neg (fun e => c (tx_inj e))]
    exact sub_refl_fin h
def sp_Book_in_pairs (C : Addr) : SpD := fun ds m Q => ∃ (p : Prog) (nv sv fv av : D) (n : Str) (l : List Nat), ds = [bookD C p nv sv fv av, .str n, .str (tx l)] ∧ n ∈ p.pairs.map (·.1) ∧ Q (.bl (decide (l ∈ Bk.wordsOf p.pairs n))) m
theorem ok_Book_in_pairs  (T : Txt K mg)  : FnOk P w K mg base CX0 (1) T.f_Book_in_pairs T.fd_Book_in_pairs ["self", "name", "word"] (spL K 3 (sp_Book_in_pairs T.c_Book)) := by
  refine fn_ok T.F_Book_in_pairs sc_Book_in_pairs (fun cdv A outer s H E hr =>
(gss_one (gs_ret (ge_cmpR op_inU lr_in (gv 2) (ge_dgetU (lt1 hr.units) (ge_fldO T.cls_Book T.na_Book__pairs (gv 0)) (gv 1) (fun _ _ => rfl)) (by rfl))))) (fun ds m Q h => ?_)
  obtain ⟨p, nv, sv, fv, av, n, l, rfl, hn, h⟩ := h
  unfold bookD
  rw [show startD N_Book_in_pairs [.obj T.c_Book bkFs (bkVs p nv sv fv av), .str n, .str (tx l)] = [some (.obj T.c_Book bkFs (bkVs p nv sv fv av)), some (.str n), some (.str (tx l))] from rfl]
  obtain ⟨ls, e⟩ := fnd_some hn
  walk_at "pd"
  refine ⟨_, dct_dic, _, rfl, _, by rw [valD_s, e]; rfl, ?_⟩
  unfold wordsD
  walk_at "pd"
  refine ⟨flat_tx, ?_⟩
  rw [inF_tx]
  unfold Bk.wordsOf at h
  rw [e] at h
  exact sub_refl_fin h
def sp_Book_ways (C : Addr) : SpD := fun ds m Q => ∃ (p : Prog) (nv sv fv av : D) (n : Str) (ws : List Way), ds = [bookD C p nv sv fv av, .str n] ∧ fnd p.lots n = some ws ∧ Q (waysD ws) m
theorem ok_Book_ways  (T : Txt K mg)  : FnOk P w K mg base CX0 (1) T.f_Book_ways T.fd_Book_ways ["self", "lot"] (spL K 2 (sp_Book_ways T.c_Book)) := by
  refine fn_ok T.F_Book_ways sc_Book_ways (fun cdv A outer s H E hr =>
(gss_one (gs_ret (ge_dgetU (lt1 hr.units) (ge_fldO T.cls_Book T.na_Book__ways (gv 0)) (gv 1) (fun _ _ => rfl))))) (fun ds m Q h => ?_)
  obtain ⟨p, nv, sv, fv, av, n, ws, rfl, e, h⟩ := h
  unfold bookD
  rw [show startD N_Book_ways [.obj T.c_Book bkFs (bkVs p nv sv fv av), .str n] = [some (.obj T.c_Book bkFs (bkVs p nv sv fv av)), some (.str n)] from rfl]
  walk_at "pd"
  refine ⟨_, dct_dic, _, rfl, _, by rw [valD_s, e]; rfl, ?_⟩
  exact sub_refl_fin h
def sp_text_at : SpD := fun ds m Q => ∃ (d : Dr) (r : Ref) (ts : List Tx) (t : Tx), ds = [drD d, refD r] ∧ d[r.1]? = some (some ts) ∧ ts[r.2]? = some t ∧ Q (.str (tx (txAt d r))) m
theorem ok_text_at  (T : Txt K mg)  : FnOk P w K mg base CX0 (1) T.f_text_at T.fd_text_at ["dress", "ref"] (spL K 2 sp_text_at) := by
  refine fn_ok T.F_text_at sc_text_at (fun cdv A outer s H E hr =>
(gss_cons (gs_asg (gv 1) (gg_tup (n := 2) rfl (ggs_cons (gg_name (i := 2) sc_text_at.nd rfl (.inl rfl)) (ggs_cons (gg_name (i := 3) sc_text_at.nd rfl (.inl rfl)) ggs_nil))))
 (gss_one (gs_ret (ge_ix (ge_ix (gv 0) (gv 2)) (gv 3)))))) (fun ds m Q h => ?_)
  obtain ⟨d, r, ts, t, rfl, e1, e2, h⟩ := h
  have et : txAt d r = t := by unfold txAt; rw [e1]; show ts.getD r.2 [] = t; rw [List.getD_eq_getElem?_getD, e2]; rfl
  rw [et] at h
  unfold drD refD
  rw [show startD N_text_at [.tup (d.map ptD), .tup [.int (r.1 : Int), .int (r.2 : Int)]] = [some (.tup (d.map ptD)), some (.tup [.int (r.1 : Int), .int (r.2 : Int)]), none, none] from rfl]
  walk_at "pd"
  refine ⟨_, atI_map e1, ?_⟩
  unfold ptD wordsD
  walk_at "pd"
  refine ⟨_, atI_map e2, ?_⟩
  exact sub_refl_fin h
def sp_fits_dresses (C : Addr) : SpD := fun ds m Q => ∃ (p : Prog) (nv sv fv av : D) (k : Mark) (t : Tx), ds = [bookD C p nv sv fv av, k.d, .str (tx t)] ∧ t.length ≤ 1000 ∧ Q (.bl (mfit p.sg k t)) m
theorem ok_fits_dresses  (T : Txt K mg) (G_letters_of : FnOk P w K mg base CX0 (1) T.f_letters_of T.fd_letters_of ["book", "mark"] (spL K 2 (sp_letters_of T.c_Book))) : FnOk P w K mg base CX0 (2) T.f_fits_dresses T.fd_fits_dresses ["book", "mark", "text"] (spL K 3 (sp_fits_dresses T.c_Book)) := by
  refine fn_ok T.F_fits_dresses sc_fits_dresses (fun cdv A outer s H E hr =>
(gss_cons (gs_if (gt_cmpR (op_neS hr.units) lr_ne (ge_ix (gv 1) ge_int) ge_str (nomark _))
 (gss_one (gs_ret ge_bl))
 gss_nil)
 (gss_one (gs_ret (ge_and (ge_cmpR (op_eqS hr.units) lr_eq (ge_callB call_lenU lc_len (by rfl) T.z_len PySem.boot_len (ga_cons (gv 2) ga_nil)) ge_int (nomark _)) (ge_one (ge_cmpR op_in_sign lr_inSg (gv 2) (ge_call G_letters_of (hr.mono (by omega)) (by rfl) T.g_letters_of T.F_letters_of.kp T.b_letters_of (ga_cons (gv 0) (ga_cons (gv 1) ga_nil))) (by rfl)))))))) (fun ds m Q h => ?_)
  obtain ⟨p, nv, sv, fv, av, k, t, rfl, ht, h⟩ := h
  have hz : t.length ≤ sizeLine := Nat.le_trans ht (by decide)
  rw [show startD N_fits_dresses [bookD T.c_Book p nv sv fv av, k.d, .str (tx t)] = [some (bookD T.c_Book p nv sv fv av), some (k.d), some (.str (tx t))] from rfl]
  cases k with
  | none =>
    unfold Mark.d
    walk_at "pd"
    exact sub_refl_fin h
  | run lo hi =>
    unfold Mark.d
    walk_at "pd"
    exact sub_refl_fin h
  | sign l =>
    rw [show (Mark.sign l).d = .tup [.str "sign", .str (tx l)] from rfl]
    walk_at "pd"
    refine ⟨hz, ?_⟩
    match t, ht, hz, h with
    | [], _, _, h =>
      walk_at "pd"
      exact sub_refl_fin h
    | [c], _, _, h =>
      walk_at "pd"
      refine ⟨p, nv, sv, fv, av, l, rfl, ?_⟩
      walk_at "pd"
      exact ⟨c, _, rfl, rfl, sub_refl_fin h⟩
    | c :: c' :: t, _, _, h =>
      walk_at "pd"
      rw [if_neg (by omega)]
      exact sub_refl_fin h
def sp_letters_hold (C : Addr) : SpD := fun ds m Q => ∃ (p : Prog) (nv sv fv av : D) (y : Way) (d : Dr), ds = [bookD C p nv sv fv av, y.d, drD d] ∧ d.length = y.ps.length ∧ (∀ (ms : List Mark) (ts : List Tx) (i : Nat), y.ps[i]? = some (.plain ms) → d[i]? = some (some ts) → ms.length ≤ 10 ∧ ts.length ≤ 10) ∧
    (∀ (ms : List Mark) (i : Nat), y.ps[i]? = some (.plain ms) → ∃ ts, d[i]? = some (some ts)) ∧ (∀ ts, some ts ∈ d → ∀ t ∈ ts, t.length ≤ 1000) ∧ Q (.bl (lhold p.sg y.ps d)) m
theorem ok_letters_hold  (T : Txt K mg) (G_fits_dresses : FnOk P w K mg base CX0 (2) T.f_fits_dresses T.fd_fits_dresses ["book", "mark", "text"] (spL K 3 (sp_fits_dresses T.c_Book))) : FnOk P w K mg base CX0 (3) T.f_letters_hold T.fd_letters_hold ["book", "way", "dress"] (spL K 3 (sp_letters_hold T.c_Book)) := by
  refine fn_ok T.F_letters_hold sc_letters_hold (fun cdv A outer s H E hr =>
(gss_cons (gs_for PassesOwn.never rfl (gi_zipL (by rfl) T.z_zip (ga_cons (ge_ix (gv 1) ge_int) (ga_cons (gv 2) ga_nil))) (gg_tup (n := 2) rfl (ggs_cons (gg_name (i := 3) sc_letters_hold.nd rfl (.inl rfl)) (ggs_cons (gg_name (i := 4) sc_letters_hold.nd rfl (.inl rfl)) ggs_nil)))
 (gss_one (gs_if (gt_cmpR (op_eqS hr.units) lr_eq (ge_ix (gv 3) ge_int) ge_str (nomark _))
 (gss_cons (gs_setLc (i := 5) (own := [("mark", 6), ("text", 7)]) rfl sc_letters_hold.nd rfl rfl (sw_true rfl rfl rfl (by decide +kernel)) (gi_zipL (by rfl) T.z_zip (ga_cons (ge_ix (gv 3) ge_int) (ga_cons (gv 4) ga_nil))) (blkOk_by (N := N_letters_hold) (sc := defScope s_letters_hold) (by decide +kernel)) (fun _ _ _ _ _ => (gg_tup (n := 2) rfl (ggs_cons (gg_name (i := 6) sc_letters_hold.nd rfl (.inl rfl)) (ggs_cons (gg_name (i := 7) sc_letters_hold.nd rfl (.inl rfl)) ggs_nil)))) (fun _ _ _ _ _ => gts_nil) (fun _ _ _ _ _ => (ge_call G_fits_dresses (hr.mono (by omega)) (by rfl) T.g_fits_dresses T.F_fits_dresses.kp T.b_fits_dresses (ga_cons (gv 0) (ga_cons (gv 6) (ga_cons (gv 7) ga_nil))))) (by decide))
 (gss_one (gs_if (gt_not (gt_val (ge_callB (cr_all rfl) lc_all (by rfl) T.z_all (by decide +kernel) (ga_cons (gv 5) ga_nil))))
 (gss_one (gs_ret ge_bl))
 gss_nil)))
 gss_nil)))
 (gss_one (gs_ret ge_bl)))) (fun ds m Q h => ?_)
  obtain ⟨p, nv, sv, fv, av, y, d, rfl, hl, hs, hs2, ht, h⟩ := h
  unfold drD Way.d
  rw [show startD N_letters_hold [bookD T.c_Book p nv sv fv av, .tup [.str y.mr, .tup (y.ps.map Piece.d), .tup (y.ts.map Test.d)], .tup (d.map ptD)] = [some (bookD T.c_Book p nv sv fv av), some (.tup [.str y.mr, .tup (y.ps.map Piece.d), .tup (y.ts.map Test.d)]), some (.tup (d.map ptD)), none, none, none, none, none] from rfl]
  walk_at "pd"
  rw [zipD_map]
  unfold lhold at h
  refine loop_pre (fun pre s' m' => (∃ c3 c4 c5, s' = [some (bookD T.c_Book p nv sv fv av), some (.tup [.str y.mr, .tup (y.ps.map Piece.d), .tup (y.ts.map Test.d)]), some (.tup (d.map ptD)), c3, c4, c5, none, none]) ∧ PD.Sub m m' ∧ (pre.all fun q => pfit p.sg q.1 q.2) = true) (fun q : Piece × Option (List Tx) => D.tup [q.1.d, ptD q.2]) (fun _ _ _ _ => trivial) ?_ ?_ ⟨⟨_, _, _, rfl⟩, PD.Sub.refl _, rfl⟩
  · rintro pre ⟨q, o⟩ post e s' m' R ⟨⟨c3, c4, c5, rfl⟩, S, hp⟩ hR
    have ep : (y.ps.zip d)[pre.length]? = some (q, o) := by rw [e, List.getElem?_append_right (Nat.le_refl _), Nat.sub_self]; rfl
    obtain ⟨e1, e2⟩ := List.getElem?_zip_eq_some.mp ep
    dsimp only at e1 e2
    have pfx : ∀ b, pfit p.sg q o = b → ((pre ++ [(q, o)]).all fun q => pfit p.sg q.1 q.2) = b := fun b eb => by
      rw [List.all_append, hp, Bool.true_and, List.all_cons, List.all_nil, Bool.and_true]; exact eb
    have bad : pfit p.sg q o = false → ((y.ps.zip d).all fun q => pfit p.sg q.1 q.2) = false := fun hf => by
      rw [e, List.all_append, List.all_cons, hf, Bool.false_and, Bool.and_false]
    cases q with
    | lot n =>
      unfold Piece.d
      walk_at "pd"
      exact hR _ _ ⟨⟨_, _, _, rfl⟩, S, pfx true rfl⟩
    | plain ms =>
      obtain ⟨ts, ed⟩ := hs2 ms _ e1
      rw [e2] at ed
      cases ed
      obtain ⟨hm, hts⟩ := hs ms ts _ e1 e2
      have htm := ht ts (List.mem_of_getElem? e2)
      unfold Piece.d ptD wordsD
      walk_at "pd"
      intro q hq
      rw [zipD_map]
      refine comp_all (us := ms.zip ts) (fun z : Mark × Tx => D.tup [z.1.d, .str (tx z.2)]) (fun z => .bl (mfit p.sg z.1 z.2)) (fun _ => trivial) (by rw [List.length_zip]; omega) (fun z hz acc R2 k2 => ?_) ?_
      · walk_at "pd"
        exact ⟨p, nv, sv, fv, av, z.1, z.2, rfl, htm _ (List.of_mem_zip hz).2, k2⟩
      · refine ⟨q, (ms.zip ts).map fun z => mfit p.sg z.1 z.2, rfl, by rw [mset_same, List.map_map]; rfl, ?_⟩
        have eb : (((ms.zip ts).map fun z => mfit p.sg z.1 z.2).all id) = pfit p.sg (.plain ms) (some ts) := by
          rw [List.all_map]; rfl
        rw [eb]
        walk_at "pd"
        cases hb : pfit p.sg (.plain ms) (some ts) with
        | true =>
          rw [if_neg (by decide)]
          exact hR _ _ ⟨⟨_, _, _, rfl⟩, S.trans (.new hq), pfx true hb⟩
        | false =>
          rw [if_pos (by decide)]
          rw [bad hb] at h
          exact ⟨m, S.trans (.new hq), h⟩
  · rintro s' m' ⟨⟨c3, c4, c5, rfl⟩, S, hp⟩
    walk_at "pd"
    rw [hp] at h
    exact ⟨m, S, h⟩
def sp_tests_hold (C : Addr) : SpD := fun ds m Q => ∃ (p : Prog) (nv sv fv av : D) (y : Way) (d : Dr), ds = [bookD C p nv sv fv av, y.d, drD d] ∧ y.ts = [] ∧ Q (.bl true) m
theorem ok_tests_hold  (T : Txt K mg) (G_Book_in_pairs : FnOk P w K mg base CX0 (1) T.f_Book_in_pairs T.fd_Book_in_pairs ["self", "name", "word"] (spL K 3 (sp_Book_in_pairs T.c_Book))) (G_text_at : FnOk P w K mg base CX0 (1) T.f_text_at T.fd_text_at ["dress", "ref"] (spL K 2 sp_text_at)) : FnOk P w K mg base CX0 (2) T.f_tests_hold T.fd_tests_hold ["book", "way", "dress"] (spL K 3 (sp_tests_hold T.c_Book)) := by
  refine fn_ok T.F_tests_hold sc_tests_hold (fun cdv A outer s H E hr =>
(gss_cons (gs_for PassesOwn.never rfl (gi_seq (ge_ix (gv 1) ge_int)) (gg_tup (n := 3) rfl (ggs_cons (gg_name (i := 3) sc_tests_hold.nd rfl (.inl rfl)) (ggs_cons (gg_name (i := 4) sc_tests_hold.nd rfl (.inl rfl)) (ggs_cons (gg_name (i := 5) sc_tests_hold.nd rfl (.inl rfl)) ggs_nil))))
 (gss_one (gs_if (gt_not (gt_val (ge_methO T.cls_Book T.m_Book_in_pairs G_Book_in_pairs (hr.mono (by omega)) T.b_Book_in_pairs (gv 0) (ga_cons (gv 3) (ga_cons (ge_frz (ge_op op_addL lr_addL (ge_call G_text_at (hr.mono (by omega)) (by rfl) T.g_text_at T.F_text_at.kp T.b_text_at (ga_cons (gv 2) (ga_cons (gv 4) ga_nil))) (ge_call G_text_at (hr.mono (by omega)) (by rfl) T.g_text_at T.F_text_at.kp T.b_text_at (ga_cons (gv 2) (ga_cons (gv 5) ga_nil))))) ga_nil)))))
 (gss_one (gs_ret ge_bl))
 gss_nil)))
 (gss_one (gs_ret ge_bl)))) (fun ds m Q h => ?_)
  obtain ⟨p, nv, sv, fv, av, y, d, rfl, ht, h⟩ := h
  unfold Way.d
  rw [show startD N_tests_hold [bookD T.c_Book p nv sv fv av, .tup [.str y.mr, .tup (y.ps.map Piece.d), .tup (y.ts.map Test.d)], drD d] = [some (bookD T.c_Book p nv sv fv av), some (.tup [.str y.mr, .tup (y.ps.map Piece.d), .tup (y.ts.map Test.d)]), some (drD d), none, none, none] from rfl]
  rw [ht, List.map_nil]
  walk_at "pd"
  exact sub_refl_fin h
end
theorem len_two {α : Type} : ∀ {l : List α}, l.length = 2 → ∃ a b, l = [a, b]
  | [a, b], _ => ⟨a, b, rfl⟩
  | [], h => by cases h
  | [_], h => by cases h
  | _ :: _ :: _ :: _, h => by simp at h
section
variable {P : Program} {w : World} {K : PySem.W.Frag} {mg : Str → Option Value} {base : Heap}
def sp__pairs_along : SpD := fun ds m Q => ∃ (s : Int) (ws : List Nat), ds = [.int s, .tup (ws.map fun (w : Nat) => .int (w : Int))] ∧ ws.length ≤ 1000 ∧ Q (.rol ((pal s ws).map pairI)) m
theorem ok__pairs_along  (T : Txt K mg)  : FnOk P w K mg base CX0 (1) T.f__pairs_along T.fd__pairs_along ["start", "widths"] (spL K 2 sp__pairs_along) := by
  refine fn_ok T.F__pairs_along sc__pairs_along (fun cdv A outer s H E hr =>
(gss_cons (gs_set (i := 2) sc__pairs_along.nd rfl (.inl rfl) (ge_lst ga_nil))
 (gss_cons (gs_set (i := 3) sc__pairs_along.nd rfl (.inl rfl) (gv 0))
 (gss_cons (gs_for PassesOwn.never rfl (gi_seq (gv 1)) (gg_name (i := 4) sc__pairs_along.nd rfl (.inl rfl))
 (gss_cons (gs_expr (ge_bm PySem.F.slot_list_append PySem.F.type_list_append mt_append lm_append (gv 2) (ga_cons (ge_tup (ga_cons (gv 3) (ga_cons (ge_op op_addL lr_addL (gv 3) (gv 4)) ga_nil))) ga_nil)))
 (gss_one (gs_aug (i := 3) sc__pairs_along.nd rfl (.inl rfl) (gv 4) ip_add lr_ip))))
 (gss_one (gs_ret (ge_frz (gv 2)))))))) (fun ds m Q h => ?_)
  obtain ⟨s0, ws, rfl, hl, h⟩ := h
  rw [show startD N__pairs_along [.int s0, .tup (ws.map fun (w : Nat) => .int (w : Int))] = [some (.int s0), some (.tup (ws.map fun (w : Nat) => .int (w : Int))), none, none, none] from rfl]
  walk_at "pd"
  intro p hp
  refine loop_pre (fun pre s' m' => (∃ (z : Int) (c : Option D), z = s0 + ((pre.sum : Nat) : Int) ∧ s' = [some (.int s0), some (.tup (ws.map fun (w : Nat) => .int (w : Int))), some (.ref p), some (.int z), c]) ∧ m' = mset m p (.lst ((pal s0 pre).map pairI)) ∧ pre.length ≤ 1000) (fun (w : Nat) => D.int (w : Int)) (fun _ _ _ _ => trivial) ?_ ?_ ⟨⟨s0, _, by simp, rfl⟩, rfl, Nat.zero_le _⟩
  · rintro pre v post e s' m' R ⟨⟨z, c, ez, rfl⟩, rfl, hpl⟩ hR
    have hpl2 : (pre ++ [v]).length ≤ 1000 := by have := congrArg List.length e; simp at this ⊢; omega
    walk_at "pd"
    refine ⟨⟨_, _, lstOf_ref mset_same⟩, p, _, lstOf_ref mset_same, by rw [List.length_map, pal_len]; exact Nat.lt_of_le_of_lt hpl (by decide), ?_⟩
    refine hR _ _ ⟨⟨_, _, ?_, rfl⟩, ?_, hpl2⟩
    · rw [ez, List.sum_append, List.sum_singleton, Int.natCast_add, Int.add_assoc]
    · rw [mset_mset, pal_app, List.map_append, ← ez]; rfl
  · rintro s' m' ⟨⟨z, c, ez, rfl⟩, rfl, hpl⟩
    walk_at "pd"
    exact ⟨_, rfl, m, PD.Sub.del (.new hp) hp, h⟩
def sp_piece_stretches : SpD := fun ds m Q => ∃ (st : List (Int × Int)) (cs : List (List Nat)) (n : Nat), ds = [stD st, cutsD cs] ∧ st.length = cs.length ∧ (st.length = 1 ∨ st.length = 2) ∧ (∀ c ∈ cs, c.length = n) ∧ n ≤ 1000 ∧ Q (.tup ((pst (st.map (·.1)) cs).map stD)) m
theorem ok_piece_stretches  (T : Txt K mg) (G__pairs_along : FnOk P w K mg base CX0 (1) T.f__pairs_along T.fd__pairs_along ["start", "widths"] (spL K 2 sp__pairs_along)) : FnOk P w K mg base CX0 (2) T.f_piece_stretches T.fd_piece_stretches ["stretch", "cut"] (spL K 2 sp_piece_stretches) := by
  refine fn_ok T.F_piece_stretches sc_piece_stretches (fun cdv A outer s H E hr =>
(gss_cons (gs_setLc (i := 2) (own := [("pair", 3), ("widths", 4)]) rfl sc_piece_stretches.nd rfl rfl (sw_true rfl rfl rfl (by decide +kernel)) (gi_zipL (by rfl) T.z_zip (ga_cons (gv 0) (ga_cons (gv 1) ga_nil))) (blkOk_by (N := N_piece_stretches) (sc := defScope s_piece_stretches) (by decide +kernel)) (fun _ _ _ _ _ => (gg_tup (n := 2) rfl (ggs_cons (gg_name (i := 3) sc_piece_stretches.nd rfl (.inl rfl)) (ggs_cons (gg_name (i := 4) sc_piece_stretches.nd rfl (.inl rfl)) ggs_nil)))) (fun _ _ _ _ _ => gts_nil) (fun _ _ _ _ _ => (ge_call G__pairs_along (hr.mono (by omega)) (by rfl) T.g__pairs_along T.F__pairs_along.kp T.b__pairs_along (ga_cons (ge_ix (gv 3) ge_int) (ga_cons (gv 4) ga_nil)))) (by decide))
 (gss_one (gs_ret (ge_tupZipS rfl (by rfl) T.z_tuple (by rfl) T.z_zip (gv 2)))))) (fun ds m Q h => ?_)
  obtain ⟨st, cs, n, rfl, hl, h12, hc, hn, h⟩ := h
  unfold stD cutsD
  rw [show startD N_piece_stretches [.tup (st.map pairI), .tup (cs.map fun c => .tup (c.map fun (w : Nat) => .int (w : Int)))] = [some (.tup (st.map pairI)), some (.tup (cs.map fun c => .tup (c.map fun (w : Nat) => .int (w : Int)))), none, none, none] from rfl]
  walk_at "pd"
  intro p hp
  rw [zipD_map]
  refine comp_all (us := st.zip cs) (fun z : (Int × Int) × List Nat => D.tup [pairI z.1, .tup (z.2.map fun (w : Nat) => .int (w : Int))]) (fun z => .rol ((pal z.1.1 z.2).map pairI)) (fun _ => trivial) (by rw [List.length_zip]; omega) (fun z hz acc R2 k2 => ?_) ?_
  · unfold pairI
    walk_at "pd"
    exact ⟨z.1.1, z.2, rfl, by rw [hc _ (List.of_mem_zip hz).2]; exact hn, k2⟩
  · unfold dTupZipS
    walk_at "pd"
    rcases h12 with h1 | h2
    · obtain ⟨q, rfl⟩ := List.length_eq_one_iff.mp h1
      obtain ⟨c, rfl⟩ := List.length_eq_one_iff.mp (hl.symm.trans h1)
      refine .inl ⟨_, _, seqOf_ref mset_same, rfl, m, .new hp, ?_⟩
      have e : ((pal q.1 c).map pairI).map (fun x => D.tup [x]) = (pst [q.1] [c]).map stD := by
        show _ = ((pal q.1 c).map fun p => [p]).map stD
        rw [List.map_map, List.map_map]; rfl
      rw [e]; exact h
    · obtain ⟨q, q2, rfl⟩ := len_two h2
      obtain ⟨c, c2, rfl⟩ := len_two (hl.symm.trans h2)
      refine .inr ⟨_, _, _, _, seqOf_ref mset_same, rfl, rfl, ?_, m, .new hp, ?_⟩
      · rw [List.length_map, List.length_map, pal_len, pal_len, hc c (by simp), hc c2 (by simp)]
      have e : (((pal q.1 c).map pairI).zip ((pal q2.1 c2).map pairI)).map (fun p => D.tup [p.1, p.2]) = (pst [q.1, q2.1] [c, c2]).map stD := by
        show _ = (((pal q.1 c).zip (pal q2.1 c2)).map fun p => [p.1, p.2]).map stD
        rw [List.zip_map, List.map_map, List.map_map]; rfl
      rw [e]; exact h
def sp_texts_in : SpD := fun ds m Q => ∃ (R : List Tx) (S : List (Int × Int)), ds = [rowsD R, stD S] ∧ R.length ≤ 10 ∧ (∀ q ∈ R.zip S, 0 ≤ q.2.1 ∧ q.2.1 ≤ q.2.2 ∧ q.2.2 ≤ q.1.length ∧ q.1.length ≤ 10000) ∧ Q (wordsD (txIn R S)) m
theorem ok_texts_in  (T : Txt K mg)  : FnOk P w K mg base CX0 (1) T.f_texts_in T.fd_texts_in ["rows", "stretch"] (spL K 2 sp_texts_in) := by
  refine fn_ok T.F_texts_in sc_texts_in (fun cdv A outer s H E hr =>
(gss_one (gs_ret (ge_callTy call_tuple_of lc_tuple (by rfl) T.z_tuple (by decide +kernel) (ga_cons (ge_lc (own := [("row", 2), ("start", 3), ("end", 4)]) rfl sc_texts_in.nd (gi_zipL (by rfl) T.z_zip (ga_cons (gv 0) (ga_cons (gv 1) ga_nil))) (blkOk_by (N := N_texts_in) (sc := defScope s_texts_in) (by decide +kernel)) (fun _ _ _ _ _ => (gg_tup (n := 2) rfl (ggs_cons (gg_name (i := 2) sc_texts_in.nd rfl (.inl rfl)) (ggs_cons (gg_tup (n := 2) rfl (ggs_cons (gg_name (i := 3) sc_texts_in.nd rfl (.inl rfl)) (ggs_cons (gg_name (i := 4) sc_texts_in.nd rfl (.inl rfl)) ggs_nil))) ggs_nil)))) (fun _ _ _ _ _ => gts_nil) (fun _ _ _ _ _ => (ge_sliceS (gv 2) (go_some (gv 3)) (go_some (gv 4)))) (by decide)) ga_nil))))) (fun ds m Q h => ?_)
  obtain ⟨R, S, rfl, hR, hq, h⟩ := h
  unfold rowsD stD
  rw [show startD N_texts_in [.tup (R.map fun l => .str (tx l)), .tup (S.map pairI)] = [some (.tup (R.map fun l => .str (tx l))), some (.tup (S.map pairI)), none, none, none] from rfl]
  walk_at "pd"
  intro p hp
  rw [zipD_map]
  refine comp_all (us := R.zip S) (fun z : Tx × (Int × Int) => D.tup [.str (tx z.1), pairI z.2]) (fun z => .str (tx ((z.1.drop z.2.1.toNat).take (z.2.2 - z.2.1).toNat))) (fun _ => trivial) (by rw [List.length_zip]; omega) (fun z hz acc R2 k2 => ?_) ?_
  · obtain ⟨h1, h2, h3, h4⟩ := hq z hz
    unfold pairI
    walk_at "pd"
    refine ⟨Nat.le_trans h4 (by decide), ?_⟩
    have : cutS (tx z.1) (some z.2.1) (some z.2.2) = tx ((z.1.drop z.2.1.toNat).take (z.2.2 - z.2.1).toNat) := by
      rw [show (z.2.2 - z.2.1).toNat = z.2.2.toNat - z.2.1.toNat by omega]
      rw [← cutS_ab (by omega) (by omega), show ((z.2.1.toNat : Nat) : Int) = z.2.1 by omega, show ((z.2.2.toNat : Nat) : Int) = z.2.2 by omega]
    rw [this]
    exact k2
  · refine ⟨_, seqOf_ref mset_same, m, .new hp, ?_⟩
    unfold wordsD txIn at h
    rw [List.map_map] at h
    exact h
/-- the text of a piece under its stretch -/
def txOf (R : List Tx) (q : Piece × List (Int × Int)) : Option (List Tx) := match q.1 with
  | .lot _ => none
  | .plain _ => some (txIn R q.2)
def InR (R : List Tx) (S : List (Int × Int)) : Prop := ∀ q ∈ R.zip S, 0 ≤ q.2.1 ∧ q.2.1 ≤ q.2.2 ∧ q.2.2 ≤ q.1.length ∧ q.1.length ≤ 10000
def sp__texts_of : SpD := fun ds m Q => ∃ (R : List Tx) (q : Piece) (S : List (Int × Int)), ds = [rowsD R, q.d, stD S] ∧ R.length ≤ 10 ∧ InR R S ∧ Q (ptD (txOf R (q, S))) m
theorem ok__texts_of  (T : Txt K mg) (G_texts_in : FnOk P w K mg base CX0 (1) T.f_texts_in T.fd_texts_in ["rows", "stretch"] (spL K 2 sp_texts_in)) : FnOk P w K mg base CX0 (2) T.f__texts_of T.fd__texts_of ["rows", "piece", "place"] (spL K 3 sp__texts_of) := by
  refine fn_ok T.F__texts_of sc__texts_of (fun cdv A outer s H E hr =>
(gss_one (gs_ret (ge_ifE (gt_cmpR (op_eqS hr.units) lr_eq (ge_ix (gv 1) ge_int) ge_str (nomark _)) ge_non (ge_call G_texts_in (hr.mono (by omega)) (by rfl) T.g_texts_in T.F_texts_in.kp T.b_texts_in (ga_cons (gv 0) (ga_cons (gv 2) ga_nil))))))) (fun ds m Q h => ?_)
  obtain ⟨R, q, S, rfl, hR, hq, h⟩ := h
  rw [show startD N__texts_of [rowsD R, q.d, stD S] = [some (rowsD R), some (q.d), some (stD S)] from rfl]
  cases q with
  | lot n =>
    unfold Piece.d
    walk_at "pd"
    exact sub_refl_fin h
  | plain ms =>
    unfold Piece.d
    walk_at "pd"
    refine ⟨R, S, rfl, hR, hq, ?_⟩
    exact sub_refl_fin h
def sp_dress_of : SpD := fun ds m Q => ∃ (R : List Tx) (y : Way) (st : List (Int × Int)) (cs : List (List Nat)), ds = [rowsD R, y.d, stD st, cutsD cs] ∧ st.length = cs.length ∧ (st.length = 1 ∨ st.length = 2) ∧ (∀ c ∈ cs, c.length = y.ps.length) ∧ y.ps.length ≤ 1000 ∧ R.length ≤ 10 ∧
    (∀ S ∈ pst (st.map (·.1)) cs, InR R S) ∧ Q (drD ((y.ps.zip (pst (st.map (·.1)) cs)).map (txOf R))) m
theorem ok_dress_of  (T : Txt K mg) (G__texts_of : FnOk P w K mg base CX0 (2) T.f__texts_of T.fd__texts_of ["rows", "piece", "place"] (spL K 3 sp__texts_of)) (G_piece_stretches : FnOk P w K mg base CX0 (2) T.f_piece_stretches T.fd_piece_stretches ["stretch", "cut"] (spL K 2 sp_piece_stretches)) : FnOk P w K mg base CX0 (3) T.f_dress_of T.fd_dress_of ["rows", "way", "stretch", "cut"] (spL K 4 sp_dress_of) := by
  refine fn_ok T.F_dress_of sc_dress_of (fun cdv A outer s H E hr =>
(gss_cons (gs_set (i := 4) sc_dress_of.nd rfl (.inl rfl) (ge_call G_piece_stretches (hr.mono (by omega)) (by rfl) T.g_piece_stretches T.F_piece_stretches.kp T.b_piece_stretches (ga_cons (gv 2) (ga_cons (gv 3) ga_nil))))
 (gss_one (gs_ret (ge_callTy call_tuple_of lc_tuple (by rfl) T.z_tuple (by decide +kernel) (ga_cons (ge_lc (own := [("piece", 5), ("place", 6)]) rfl sc_dress_of.nd (gi_zipL (by rfl) T.z_zip (ga_cons (ge_ix (gv 1) ge_int) (ga_cons (gv 4) ga_nil))) (blkOk_by (N := N_dress_of) (sc := defScope s_dress_of) (by decide +kernel)) (fun _ _ _ _ _ => (gg_tup (n := 2) rfl (ggs_cons (gg_name (i := 5) sc_dress_of.nd rfl (.inl rfl)) (ggs_cons (gg_name (i := 6) sc_dress_of.nd rfl (.inl rfl)) ggs_nil)))) (fun _ _ _ _ _ => gts_nil) (fun _ _ _ _ _ => (ge_call G__texts_of (hr.mono (by omega)) (by rfl) T.g__texts_of T.F__texts_of.kp T.b__texts_of (ga_cons (gv 0) (ga_cons (gv 5) (ga_cons (gv 6) ga_nil))))) (by decide)) ga_nil)))))) (fun ds m Q h => ?_)
  obtain ⟨R, y, st, cs, rfl, h1, h2, h3, h4, hR, hS, h⟩ := h
  unfold Way.d
  rw [show startD N_dress_of [rowsD R, .tup [.str y.mr, .tup (y.ps.map Piece.d), .tup (y.ts.map Test.d)], stD st, cutsD cs] = [some (rowsD R), some (.tup [.str y.mr, .tup (y.ps.map Piece.d), .tup (y.ts.map Test.d)]), some (stD st), some (cutsD cs), none, none, none] from rfl]
  walk_at "pd"
  refine ⟨st, cs, y.ps.length, rfl, h1, h2, h3, h4, ?_⟩
  walk_at "pd"
  intro p hp
  rw [zipD_map]
  refine comp_all (st := fun _ => True) (us := y.ps.zip (pst (st.map (·.1)) cs)) (fun z : Piece × List (Int × Int) => D.tup [z.1.d, stD z.2]) (fun z => ptD (txOf R z)) (fun _ => trivial) (by rw [List.length_zip]; omega) (fun z hz acc R2 k2 => ?_) ?_
  · walk_at "pd"
    exact ⟨R, z.1, z.2, rfl, hR, hS _ (List.of_mem_zip hz).2, k2⟩
  · refine ⟨_, seqOf_ref mset_same, m, .new hp, ?_⟩
    unfold drD at h
    rw [List.map_map] at h
    exact h
end
def Tp (m : Mu) (a g : Addr) : Prop := ∃ (z c i : Int) (xs : List Int), m a = some (.lst [.int z, .int c, .int i, .ref g]) ∧ m g = some (.lst (xs.map .int)) ∧ g ≠ a ∧ xs.length ≤ 63 ∧ 0 ≤ i ∧ 0 ≤ z ∧ z < 2305843009213693951
theorem Tp.keep {m m' : Mu} {a g : Addr} (h : Tp m a g) (ka : ∀ o, m a = some o → m' a = some o) (kg : ∀ o, m g = some o → m' g = some o) : Tp m' a g :=
  let ⟨z, c, i, xs, e, f, r⟩ := h; ⟨z, c, i, xs, ka _ e, kg _ f, r⟩
theorem Tp.new {m : Mu} {a g p : Addr} {o : MO} (h : Tp m a g) (hp : m p = none) : Tp (mset m p o) a g := h.keep (fun _ e => mset_new hp e) fun _ e => mset_new hp e
theorem Tp.ne {m : Mu} {a g p : Addr} (h : Tp m a g) (hp : m p = none) : p ≠ a ∧ p ≠ g := by
  obtain ⟨_, _, _, _, e, f, _⟩ := h
  refine ⟨fun z => ?_, fun z => ?_⟩
  · rw [← z, hp] at e; cases e
  · rw [← z, hp] at f; cases f
theorem Tp.del {m : Mu} {a g p : Addr} (h : Tp m a g) (h1 : p ≠ a) (h2 : p ≠ g) : Tp (mdel m p) a g := h.keep (fun _ e => by rw [mdel_ne (Ne.symm h1)]; exact e) fun _ e => by rw [mdel_ne (Ne.symm h2)]; exact e
theorem Tp.setp {m : Mu} {a g p : Addr} {o : MO} (h : Tp m a g) (h1 : p ≠ a) (h2 : p ≠ g) : Tp (mset m p o) a g := h.keep (fun _ e => by rw [mset_ne (Ne.symm h1)]; exact e) fun _ e => by rw [mset_ne (Ne.symm h2)]; exact e
theorem mset_none {m : Mu} {p x : Addr} {o : MO} (h : mset m p o x = none) : m x = none ∧ x ≠ p := by
  have hx : x ≠ p := fun e => by rw [e, mset_same] at h; cases h
  exact ⟨by rw [mset_ne hx] at h; exact h, hx⟩
theorem cdw {x n : Int} (h : 0 < n) (h2 : n ≤ 1000000000000) : CDivW x n := by
  refine ⟨h, (Nat.log2_lt (by omega)).mpr (Nat.lt_of_lt_of_le (by omega : n.natAbs < 1000000000001) (Nat.le_trans (by decide : _ ≤ 2 ^ 40) (Nat.pow_le_pow_right (by decide) (by decide))))⟩
section
variable {P : Program} {w : World} {K : PySem.W.Frag} {mg : Str → Option Value} {base : Heap}
def sp__law_tape : SpD := fun ds m Q => ∃ ns : List Int, ds = [.rol (ns.map .int)] ∧ ns.length ≤ 63 ∧ ∀ a g m', m a = none → m g = none → PD.Sub m m' → Tp m' a g → Q (.ref a) m'
theorem ok__law_tape  (T : Txt K mg)  : FnOk P w K mg base CX0 (1) T.f__law_tape T.fd__law_tape ["_law_script"] (spL K 1 sp__law_tape) := by
  refine fn_ok T.F__law_tape sc__law_tape (fun cdv A outer s H E hr =>
(gss_cons (gs_set (i := 1) sc__law_tape.nd rfl (.inl rfl) ge_int)
 (gss_cons (gs_set (i := 2) sc__law_tape.nd rfl (.inl rfl) (ge_lst ga_nil))
 (gss_cons (gs_for PassesOwn.never rfl (gi_seq (gv 0)) (gg_name (i := 3) sc__law_tape.nd rfl (.inl rfl))
 (gss_cons (gs_set (i := 1) sc__law_tape.nd rfl (.inl rfl) (ge_op op_mod lr_int2 (ge_callTy call_int1 lc_int (by rfl) T.z_int (by decide +kernel) (ga_cons (ge_op op_addL lr_addL (ge_op op_addL lr_addL (ge_op op_mulL lr_mulL (gv 1) ge_int) (ge_callTy call_int1 lc_int (by rfl) T.z_int (by decide +kernel) (ga_cons (gv 3) ga_nil))) ge_int) ga_nil)) ge_int))
 (gss_one (gs_if (gt_cmpR op_ge lr_cmp (gv 3) (ge_op op_pow lr_int2 ge_int ge_int) (nomark _))
 (gss_one (gs_expr (ge_bm PySem.F.slot_list_append PySem.F.type_list_append mt_append lm_append (gv 2) (ga_cons (ge_callTy call_int1 lc_int (by rfl) T.z_int (by decide +kernel) (ga_cons (gv 3) ga_nil)) ga_nil))))
 gss_nil))))
 (gss_one (gs_ret (ge_lst (ga_cons (gv 1) (ga_cons ge_int (ga_cons ge_int (ga_cons (gv 2) ga_nil))))))))))) (fun ds m Q h => ?_)
  obtain ⟨ns, rfl, hl, h⟩ := h
  rw [show startD N__law_tape [.rol (ns.map .int)] = [some (.rol (ns.map .int)), none, none, none] from rfl]
  walk_at "pd"
  intro p hp
  refine loop_inv (fun rem s' m' => ∃ (post big : List Int) (z : Int) (c : Option D), rem = post.map .int ∧ s' = [some (.rol (ns.map .int)), some (.int z), some (.ref p), c] ∧ m' = mset m p (.lst (big.map .int)) ∧ big.length + post.length ≤ 63 ∧ 0 ≤ z ∧ z < 2305843009213693951) ?_ ?_ ⟨ns, [], _, none, rfl, rfl, rfl, by simpa using hl, by decide, by decide⟩
  · rintro d rem s' m' R hR ⟨post, big, z, c, e1, rfl, rfl, hb, z0, z1⟩
    cases post with
    | nil => cases e1
    | cons n post =>
      rw [List.map_cons] at e1
      injection e1 with e1 e2
      subst e1
      have hlb : (big.map D.int).length < sizeLine := by rw [List.length_map]; rw [List.length_cons] at hb; exact Nat.lt_of_lt_of_le (by omega : _ < 64) (by decide)
      refine ⟨trivial, ?_⟩
      walk_at "pd"
      rw [List.length_cons] at hb
      refine ⟨.inl ⟨by omega, by omega⟩, ⟨by decide, by decide, by decide⟩, ?_⟩
      by_cases hc : (10 : Int) ^ Int.toNat 18 ≤ n
      · rw [if_pos hc]
        refine ⟨⟨_, _, lstOf_ref mset_same⟩, _, _, lstOf_ref mset_same, hlb, hR _ _ ⟨post, big ++ [n], _, _, e2, rfl, ?_, ?_, Int.emod_nonneg _ (by decide), Int.lt_of_lt_of_le (Int.emod_lt_of_pos _ (by decide)) (by decide)⟩⟩
        · rw [mset_mset, List.map_append]; rfl
        · rw [List.length_append, List.length_singleton]; omega
      · rw [if_neg hc]
        exact hR _ _ ⟨post, big, _, _, e2, rfl, rfl, by omega, Int.emod_nonneg _ (by decide), Int.lt_of_lt_of_le (Int.emod_lt_of_pos _ (by decide)) (by decide)⟩
  · rintro s' m' ⟨post, big, z, c, e1, rfl, rfl, hb, z0, z1⟩
    refine ⟨trivial, ?_⟩
    walk_at "pd"
    intro q hq
    have hqp : q ≠ p := (mset_none hq).2
    have hqm : m q = none := (mset_none hq).1
    have eg : mset (mset m p (.lst (big.map .int))) q (.lst [.int z, .int 0, .int 0, .ref p]) p = some (.lst (big.map .int)) := by rw [mset_ne (Ne.symm hqp)]; exact mset_same
    exact sub_refl_fin (h q p _ hqm hp ((PD.Sub.new hp).trans (.new hq)) ⟨z, 0, 0, big, mset_same, eg, Ne.symm hqp, by omega, Int.le_refl _, z0, z1⟩)
def sp__law_pick : SpD := fun ds m Q => ∃ (a g : Addr) (n : Int), ds = [.ref a, .int n] ∧ 0 < n ∧ n ≤ 1000000000000 ∧ Tp m a g ∧ ∀ (r : Int) m', 0 ≤ r → r < n → Off1 a m m' → Tp m' a g → Q (.int r) m'
theorem ok__law_pick  (T : Txt K mg)  : FnOk P w K mg base CX0 (1) T.f__law_pick T.fd__law_pick ["_law_tape_here", "_law_many"] (spL K 2 sp__law_pick) := by
  refine fn_ok T.F__law_pick sc__law_pick (fun cdv A outer s H E hr =>
(gss_cons (gs_if (gw_and (gt_cmpR (op_leS hr.units) lr_leP (ge_ix (gv 0) ge_int) ge_int (nomark _)) (gw_and1 (gt_cmpR (op_ltS hr.units) lr_ltP (ge_ix (gv 0) ge_int) (ge_callB call_lenU lc_len (by rfl) T.z_len PySem.boot_len (ga_cons (ge_ix (gv 0) ge_int) ga_nil)) (nomark _)))).gt
 (gss_cons (gs_asg (ge_ix (ge_ix (gv 0) ge_int) (ge_ix (gv 0) ge_int)) (gg_sub (gv 0) ge_int))
 (gss_one (gs_asg (ge_op op_addL lr_addL (ge_ix (gv 0) ge_int) ge_int) (gg_sub (gv 0) ge_int))))
 gss_nil)
 (gss_cons (gs_if (gt_cmpR (op_gtS hr.units) lr_gtP (ge_ix (gv 0) ge_int) ge_int (nomark _))
 (gss_cons (gs_set (i := 2) sc__law_pick.nd rfl (.inl rfl) (ge_op op_mod lr_int2 (ge_callTy call_int1 lc_int (by rfl) T.z_int (by decide +kernel) (ga_cons (ge_ix (gv 0) ge_int) ga_nil)) (gv 1)))
 (gss_cons (gs_asg (ge_op op_fdivW lr_int2 (ge_ix (gv 0) ge_int) (gv 1)) (gg_sub (gv 0) ge_int))
 (gss_one (gs_ret (ge_frz (gv 2))))))
 gss_nil)
 (gss_cons (gs_asg (ge_op op_mod lr_int2 (ge_callTy call_int1 lc_int (by rfl) T.z_int (by decide +kernel) (ga_cons (ge_op op_addL lr_addL (ge_op op_mulL lr_mulL (ge_ix (gv 0) ge_int) ge_int) ge_int) ga_nil)) ge_int) (gg_sub (gv 0) ge_int))
 (gss_one (gs_ret (ge_frz (ge_op op_mod lr_int2 (ge_callTy call_int1 lc_int (by rfl) T.z_int (by decide +kernel) (ga_cons (ge_op op_fdivW lr_int2 (ge_ix (gv 0) ge_int) ge_int) ga_nil)) (gv 1))))))))) (fun ds m Q h => ?_)
  obtain ⟨a, g, n, rfl, hn, hn2, ⟨z, c, i, xs, ea, eg, ga, hxl, i0, z0, z1⟩, h⟩ := h
  rw [show startD N__law_pick [.ref a, .int n] = [some (.ref a), some (.int n), none] from rfl]
  refine seq_cut (fun s' m' => ∃ (c i : Int), s' = [some (.ref a), some (.int n), none] ∧ m' a = some (.lst [.int z, .int c, .int i, .ref g]) ∧ 0 ≤ i ∧ Off1 a m m') (fun R hR => ?_) ?_
  · walk_at "pd"
    refine ⟨_, seqOf_ref ea, _, atI_1, ?_⟩
    walk_at "pd"
    by_cases h1 : 1 < c
    · rw [if_neg (by simpa using h1)]
      exact hR _ _ ⟨c, i, rfl, ea, i0, .refl _ _⟩
    · rw [if_pos (by simpa using h1)]
      refine ⟨_, seqOf_ref ea, _, atI_2, _, seqOf_ref ea, _, atI_3, dLen_seq (seqOf_ref eg) ?_⟩
      walk_at "pd"
      rw [List.length_map]
      by_cases h2 : i < (xs.length : Int)
      · rw [if_pos h2]
        obtain ⟨k, rfl⟩ := Int.eq_ofNat_of_zero_le i0
        refine ⟨_, seqOf_ref ea, _, atI_3, _, seqOf_ref ea, _, atI_2, dIx_seq (seqOf_ref eg) (atI_map (f := D.int) (List.getElem?_eq_getElem (by omega))) ?_⟩
        refine ⟨a, _, lstOf_ref ea, 1, rfl, ?_⟩
        refine ⟨_, seqOf_ref mset_same, _, atI_2, ?_⟩
        walk_at "pd"
        refine ⟨a, _, lstOf_ref mset_same, 2, rfl, ?_⟩
        exact hR _ _ ⟨_, _, rfl, by rw [mset_mset]; exact mset_same, by omega, (Off1.refl _ _).set.set⟩
      · rw [if_neg h2]
        exact hR _ _ ⟨c, i, rfl, ea, i0, .refl _ _⟩
  rintro s' m1 ⟨c, i, rfl, ea, i0, O⟩
  have eg1 : m1 g = some (.lst (xs.map .int)) := O _ _ ga eg
  walk_at "pd"
  refine ⟨_, seqOf_ref ea, _, atI_1, ?_⟩
  walk_at "pd"
  by_cases h1 : 1 < c
  · rw [if_pos h1]
    refine ⟨_, seqOf_ref ea, _, atI_1, ?_⟩
    walk_at "pd"
    refine ⟨hn, _, seqOf_ref ea, _, atI_1, ?_⟩
    walk_at "pd"
    refine ⟨cdw hn hn2, a, _, lstOf_ref ea, 1, rfl, ?_⟩
    have eg2 : mset m1 a (.lst [.int z, .int (c / n), .int i, .ref g]) g = some (.lst (xs.map .int)) := by rw [mset_ne ga]; exact eg1
    exact sub_refl_fin (h _ _ (Int.emod_nonneg _ (by omega)) (Int.emod_lt_of_pos _ hn) O.set ⟨z, c / n, i, xs, mset_same, eg2, ga, hxl, i0, z0, z1⟩)
  · rw [if_neg h1]
    refine ⟨_, seqOf_ref ea, _, atI_0, ?_⟩
    walk_at "pd"
    refine ⟨.inl ⟨by omega, by omega⟩, a, _, lstOf_ref ea, 0, rfl, _, seqOf_ref mset_same, _, atI_0, ?_⟩
    walk_at "pd"
    refine ⟨cdw (by decide) (by decide), hn, ?_⟩
    have eg2 : mset m1 a (.lst [.int ((z * 1380926711340277 + 55108237) % 2305843009213693921), .int c, .int i, .ref g]) g = some (.lst (xs.map .int)) := by rw [mset_ne ga]; exact eg1
    exact sub_refl_fin (h _ _ (Int.emod_nonneg _ (by omega)) (Int.emod_lt_of_pos _ hn) O.set ⟨_, c, i, xs, mset_same, eg2, ga, hxl, i0, Int.emod_nonneg _ (by decide), Int.lt_of_lt_of_le (Int.emod_lt_of_pos _ (by decide)) (by decide)⟩)
end
/-- what _law_same compares: no deeper than n -/
def samD : Nat → D → Bool
  | _, .non => true
  | _, .bl _ => true
  | _, .int _ => true
  | _, .str _ => true
  | n + 1, .tup xs => decide (xs.length ≤ 100000) && xs.all (samD n)
  | _, _ => false
theorem zip_same {α : Type} : ∀ xs : List α, xs.zip xs = xs.map fun x => (x, x)
  | [] => rfl
  | x :: xs => by rw [List.zip_cons_cons, zip_same xs, List.map_cons]
section
variable {P : Program} {w : World} {K : PySem.W.Frag} {mg : Str → Option Value} {base : Heap}
def sp__law_same (n : Nat) : SpD := fun ds m Q => ∃ x, ds = [x, x] ∧ samD n x = true ∧ Q (.bl true) m
theorem same_turn {n : Nat} {sq : SpD} {A : Around} (T : Txt K mg) (h0 : A.handled = none) (h1 : A.depth < recursionLimit) (hr : ∀ (cdv : Value) (s : Shared), Room 1 (A.deeper (envOfC "_law_same" (defScope s__law_same) s.heap.objs.size T.f__law_same cdv)))
    (hs : ∀ x m Q, (∃ j, n = j + 1 ∧ samD j x = true) → Q (.bl true) m → sq [x, x] m Q) (G : ∀ (cdv : Value) (s : Shared), FnAt P w K mg base (A.deeper (envOfC "_law_same" (defScope s__law_same) s.heap.objs.size T.f__law_same cdv)) T.f__law_same T.fd__law_same ["_law_told", "_law_due_here"] (spL K 2 sq)) :
    FnAt P w K mg base A T.f__law_same T.fd__law_same ["_law_told", "_law_due_here"] (spL K 2 (sp__law_same n)) := by
  refine fn_at T.F__law_same sc__law_same h0 h1 (fun cdv outer s H E =>
(gss_cons (gs_if (gw_or (gt_cmpR op_isN lr_isN (gv 0) ge_non (nomark _)) (gw_or1 (gt_cmpR op_isN lr_isN (gv 1) ge_non (nomark _)))).gt
 (gss_one (gs_ret (ge_and (ge_cmpR op_isN lr_isN (gv 0) ge_non (nomark _)) (ge_one (ge_cmpR op_isN lr_isN (gv 1) ge_non (nomark _))))))
 gss_nil)
 (gss_cons (gs_if (gw_or (gt_val (ge_isi (T := "bool") rfl (by rfl) T.z_isinstance (gv 0) (by rfl) T.z_bool (by decide +kernel))) (gw_or1 (gt_val (ge_isi (T := "bool") rfl (by rfl) T.z_isinstance (gv 1) (by rfl) T.z_bool (by decide +kernel))))).gt
 (gss_one (gs_ret (ge_and (ge_isi (T := "bool") rfl (by rfl) T.z_isinstance (gv 0) (by rfl) T.z_bool (by decide +kernel)) (ge_and (ge_isi (T := "bool") rfl (by rfl) T.z_isinstance (gv 1) (by rfl) T.z_bool (by decide +kernel)) (ge_one (ge_cmpR (op_eqS (hr cdv s).units) lr_eq (gv 0) (gv 1) (nomark _)))))))
 gss_nil)
 (gss_cons (gs_if (gt_val (ge_isi (T := "int") rfl (by rfl) T.z_isinstance (gv 1) (by rfl) T.z_int (by decide +kernel)))
 (gss_one (gs_ret (ge_and (ge_isi (T := "int") rfl (by rfl) T.z_isinstance (gv 0) (by rfl) T.z_int (by decide +kernel)) (ge_one (ge_cmpR (op_eqS (hr cdv s).units) lr_eq (gv 0) (gv 1) (nomark _))))))
 gss_nil)
 (gss_cons (gs_if (gt_val (ge_isi (T := "str") rfl (by rfl) T.z_isinstance (gv 1) (by rfl) T.z_str (by decide +kernel)))
 (gss_one (gs_ret (ge_and (ge_isi (T := "str") rfl (by rfl) T.z_isinstance (gv 0) (by rfl) T.z_str (by decide +kernel)) (ge_one (ge_cmpR (op_eqS (hr cdv s).units) lr_eq (gv 0) (gv 1) (nomark _))))))
 gss_nil)
 (gss_cons (gs_if (gt_val (ge_isi (T := "tuple") rfl (by rfl) T.z_isinstance (gv 1) (by rfl) T.z_tuple (by decide +kernel)))
 (gss_cons (gs_if (gw_or (gt_not (gt_val (ge_isi (T := "tuple") rfl (by rfl) T.z_isinstance (gv 0) (by rfl) T.z_tuple (by decide +kernel)))) (gw_or1 (gt_cmpR (op_neS (hr cdv s).units) lr_ne (ge_callB call_lenU lc_len (by rfl) T.z_len PySem.boot_len (ga_cons (gv 0) ga_nil)) (ge_callB call_lenU lc_len (by rfl) T.z_len PySem.boot_len (ga_cons (gv 1) ga_nil)) (nomark _)))).gt
 (gss_one (gs_ret ge_bl))
 gss_nil)
 (gss_cons (gs_for PassesOwn.never rfl (gi_zipL (by rfl) T.z_zip (ga_cons (gv 0) (ga_cons (gv 1) ga_nil))) (gg_tup (n := 2) rfl (ggs_cons (gg_name (i := 2) sc__law_same.nd rfl (.inl rfl)) (ggs_cons (gg_name (i := 3) sc__law_same.nd rfl (.inl rfl)) ggs_nil)))
 (gss_one (gs_if (gt_not (gt_val (ge_callAt (G cdv s) (by rfl) T.g__law_same T.F__law_same.kp T.b__law_same (ga_cons (gv 2) (ga_cons (gv 3) ga_nil)))))
 (gss_one (gs_ret ge_bl))
 gss_nil)))
 (gss_one (gs_ret ge_bl))))
 gss_nil)
 (gss_one (gs_ret ge_bl)))))))) (fun ds m Q h => ?_)
  obtain ⟨x, rfl, hx, h⟩ := h
  rw [show startD N__law_same [x, x] = [some (x), some (x), none, none] from rfl]
  cases x with
  | non => walk_at "pd"; exact sub_refl_fin h
  | bl b => walk_at "pd"; exact sub_refl_fin h
  | int i => walk_at "pd"; exact sub_refl_fin h
  | str z => walk_at "pd"; exact sub_refl_fin h
  | tup xs =>
    cases n with
    | zero => cases hx
    | succ j =>
      unfold samD at hx
      rw [Bool.and_eq_true, decide_eq_true_eq, List.all_eq_true] at hx
      walk_at "pd"
      have ez : zipD xs xs = xs.map fun x => .tup [x, x] := by
        unfold zipD
        rw [zip_same, List.map_map]; rfl
      rw [ez]
      refine loop_pre (fun pre s' m' => (∃ c d, s' = [some (.tup xs), some (.tup xs), c, d]) ∧ m' = m) (fun x => D.tup [x, x]) (fun _ _ _ _ => trivial) ?_ ?_ ⟨⟨_, _, rfl⟩, rfl⟩
      · rintro pre u post e s' m' R ⟨⟨c, d, rfl⟩, rfl⟩ hR
        walk_at "pd"
        refine hs _ _ _ ⟨j, rfl, hx.2 u (by rw [e]; simp)⟩ ?_
        walk_at "pd"
        exact hR _ _ ⟨⟨_, _, rfl⟩, rfl⟩
      · rintro s' m' ⟨⟨c, d, rfl⟩, rfl⟩
        walk_at "pd"
        exact sub_refl_fin h
  | _ => unfold samD at hx; cases hx
theorem at_falso {A : Around} {f : Addr} {fd : FuncData} {ps : List Str} {n : Nat} : FnAt P w K mg base A f fd ps (spL K n fun _ _ _ => False) := ⟨fun vs H Q E ⟨_, _, _, _, _, ⟨_, q⟩, _⟩ => q.elim, fun _ _ _ _ _ _ _ _ _ _ _ ⟨_, _, _, _, _, ⟨_, q⟩, _⟩ => q.elim⟩
theorem same_dp (T : Txt K mg) : ∀ (n : Nat) (A : Around), A.handled = none → A.depth + n + 20 < recursionLimit → A.units + 3 * n + 300 < cLine → FnAt P w K mg base A T.f__law_same T.fd__law_same ["_law_told", "_law_due_here"] (spL K 2 (sp__law_same n))
  | 0, A, h0, h1, h2 => same_turn (sq := fun _ _ _ => False) T h0 (by omega) (fun cdv s => ⟨h0, by show A.depth + 1 + 3 * 1 + 5 < _; omega, by show A.units + 3 + 16 * 1 + 200 < _; omega⟩) (fun x m Q ⟨_, h, _⟩ _ => by cases h) fun cdv s => at_falso
  | n + 1, A, h0, h1, h2 => same_turn T h0 (by omega) (fun cdv s => ⟨h0, by show A.depth + 1 + 3 * 1 + 5 < _; omega, by show A.units + 3 + 16 * 1 + 200 < _; omega⟩) (fun x m Q ⟨j, h, hx⟩ hq => ⟨x, rfl, by cases h; exact hx, hq⟩)
    fun cdv s => same_dp T n _ h0 (by show A.depth + 1 + n + 20 < _; omega) (by show A.units + 3 + 3 * n + 300 < _; omega)
theorem same_all (T : Txt K mg) : FnOk P w K mg base CX0 90 T.f__law_same T.fd__law_same ["_law_told", "_law_due_here"] (spL K 2 (sp__law_same 250)) :=
  fnOk_of (fun vs H Q E ⟨ds, m, Qd, r, rm, q, _⟩ => by rw [← r.length]; exact q.1) fun A hr => same_dp T 250 A hr.hd (by have := hr.dp; omega) (by have := hr.un; omega)
end
def S4 (S : List Nat) : Prop := S = [97, 98] ∨ S = [98, 97] ∨ S = [99, 97, 98] ∨ S = [100, 98, 97, 99] ∨ S = [113]
theorem S4.len {S : List Nat} (h : S4 S) : 1 ≤ S.length ∧ S.length ≤ 4 := by rcases h with rfl | rfl | rfl | rfl | rfl <;> decide
def MkO (S : List Nat) (k : Mark) : Prop := match k with
  | .sign l => (∀ c ∈ l, c ∈ S) ∧ l.length ≤ 4
  | _ => True
def PcO (S : List Nat) (n : Nat) : Piece → Prop
  | .lot nm => nm = "s"
  | .plain ms => ms.length = n ∧ ∀ k ∈ ms, MkO S k
section
variable {P : Program} {w : World} {K : PySem.W.Frag} {mg : Str → Option Value} {base : Heap}
def sp_whole_of : SpD := fun ds m Q => ∃ ls : List Nat, ds = [.tup (ls.map fun (l : Nat) => .int (l : Int))] ∧ ls.length ≤ 1000 ∧ Q (stD (ls.map fun (l : Nat) => ((0 : Int), (l : Int)))) m
theorem ok_whole_of  (T : Txt K mg)  : FnOk P w K mg base CX0 (1) T.f_whole_of T.fd_whole_of ["lengths"] (spL K 1 sp_whole_of) := by
  refine fn_ok T.F_whole_of sc_whole_of (fun cdv A outer s H E hr =>
(gss_one (gs_ret (ge_callTy call_tuple_of lc_tuple (by rfl) T.z_tuple (by decide +kernel) (ga_cons (ge_lc (own := [("length", 1)]) rfl sc_whole_of.nd (gi_seq (gv 0)) (blkOk_by (N := N_whole_of) (sc := defScope s_whole_of) (by decide +kernel)) (fun _ _ _ _ _ => (gg_name (i := 1) sc_whole_of.nd rfl (.inl rfl))) (fun _ _ _ _ _ => gts_nil) (fun _ _ _ _ _ => (ge_tup (ga_cons ge_int (ga_cons (gv 1) ga_nil)))) (by decide)) ga_nil))))) (fun ds m Q h => ?_)
  obtain ⟨ls, rfl, hl, h⟩ := h
  rw [show startD N_whole_of [.tup (ls.map fun (l : Nat) => .int (l : Int))] = [some (.tup (ls.map fun (l : Nat) => .int (l : Int))), none] from rfl]
  walk_at "pd"
  intro p hp
  refine comp_all (st := fun _ => True) (us := ls) (fun (l : Nat) => D.int (l : Int)) (fun (l : Nat) => pairI ((0 : Int), (l : Int))) (fun _ => trivial) (by omega) (fun z hz acc R2 k2 => ?_) ?_
  · walk_at "pd"
    exact k2
  · refine ⟨_, seqOf_ref mset_same, m, .new hp, ?_⟩
    unfold stD at h
    rw [List.map_map] at h
    exact h
def sp_widths_of : SpD := fun ds m Q => ∃ st : List (Int × Int), ds = [stD st] ∧ st.length ≤ 1000 ∧ Q (.tup (st.map fun p => .int (p.2 - p.1))) m
theorem ok_widths_of  (T : Txt K mg)  : FnOk P w K mg base CX0 (1) T.f_widths_of T.fd_widths_of ["stretch"] (spL K 1 sp_widths_of) := by
  refine fn_ok T.F_widths_of sc_widths_of (fun cdv A outer s H E hr =>
(gss_one (gs_ret (ge_callTy call_tuple_of lc_tuple (by rfl) T.z_tuple (by decide +kernel) (ga_cons (ge_lc (own := [("start", 1), ("end", 2)]) rfl sc_widths_of.nd (gi_seq (gv 0)) (blkOk_by (N := N_widths_of) (sc := defScope s_widths_of) (by decide +kernel)) (fun _ _ _ _ _ => (gg_tup (n := 2) rfl (ggs_cons (gg_name (i := 1) sc_widths_of.nd rfl (.inl rfl)) (ggs_cons (gg_name (i := 2) sc_widths_of.nd rfl (.inl rfl)) ggs_nil)))) (fun _ _ _ _ _ => gts_nil) (fun _ _ _ _ _ => (ge_op op_sub lr_sub (gv 2) (gv 1))) (by decide)) ga_nil))))) (fun ds m Q h => ?_)
  obtain ⟨st, rfl, hl, h⟩ := h
  unfold stD
  rw [show startD N_widths_of [.tup (st.map pairI)] = [some (.tup (st.map pairI)), none, none] from rfl]
  walk_at "pd"
  intro p hp
  refine comp_all (st := fun _ => True) (us := st) pairI (fun p => D.int (p.2 - p.1)) (fun _ => trivial) (by omega) (fun z hz acc R2 k2 => ?_) ?_
  · unfold pairI
    walk_at "pd"
    exact k2
  · exact ⟨_, seqOf_ref mset_same, m, .new hp, h⟩
def sp__law_span : SpD := fun ds m Q => ∃ (a g : Addr) (n : Nat), ds = [.ref a, .int (n : Int)] ∧ n ≤ 1000 ∧ Tp m a g ∧ ∀ (i j : Nat) m', i ≤ j → j ≤ n → Off1 a m m' → Tp m' a g → Q (pairI ((i : Int), (j : Int))) m'
theorem ok__law_span  (T : Txt K mg) (G__law_pick : FnOk P w K mg base CX0 (1) T.f__law_pick T.fd__law_pick ["_law_tape_here", "_law_many"] (spL K 2 sp__law_pick)) : FnOk P w K mg base CX0 (2) T.f__law_span T.fd__law_span ["_law_tape_here", "_law_size"] (spL K 2 sp__law_span) := by
  refine fn_ok T.F__law_span sc__law_span (fun cdv A outer s H E hr =>
(gss_cons (gs_set (i := 2) sc__law_span.nd rfl (.inl rfl) (ge_call G__law_pick (hr.mono (by omega)) (by rfl) T.g__law_pick T.F__law_pick.kp T.b__law_pick (ga_cons (gv 0) (ga_cons (ge_frz (ge_op op_addL lr_addL (gv 1) ge_int)) ga_nil))))
 (gss_cons (gs_set (i := 3) sc__law_span.nd rfl (.inl rfl) (ge_op op_addL lr_addL (gv 2) (ge_call G__law_pick (hr.mono (by omega)) (by rfl) T.g__law_pick T.F__law_pick.kp T.b__law_pick (ga_cons (gv 0) (ga_cons (ge_frz (ge_op op_addL lr_addL (ge_op op_sub lr_sub (gv 1) (gv 2)) ge_int)) ga_nil)))))
 (gss_cons (gs_set (i := 4) sc__law_span.nd rfl (.inl rfl) (ge_call G__law_pick (hr.mono (by omega)) (by rfl) T.g__law_pick T.F__law_pick.kp T.b__law_pick (ga_cons (gv 0) (ga_cons ge_int ga_nil))))
 (gss_cons (gs_if (gt_cmpR (op_eqS hr.units) lr_eq (gv 4) ge_int (nomark _))
 (gss_one (gs_set (i := 2) sc__law_span.nd rfl (.inl rfl) ge_int))
 gss_nil)
 (gss_cons (gs_if (gt_cmpR (op_eqS hr.units) lr_eq (gv 4) ge_int (nomark _))
 (gss_one (gs_set (i := 3) sc__law_span.nd rfl (.inl rfl) (gv 1)))
 gss_nil)
 (gss_one (gs_ret (ge_tup (ga_cons (gv 2) (ga_cons (gv 3) ga_nil))))))))))) (fun ds m Q h => ?_)
  obtain ⟨a, g, n, rfl, hn, hT, h⟩ := h
  rw [show startD N__law_span [.ref a, .int (n : Int)] = [some (.ref a), some (.int (n : Int)), none, none, none] from rfl]
  walk_at "pd"
  refine ⟨a, g, _, rfl, by omega, by omega, hT, fun r m1 r0 r1 O1 T1 => ?_⟩
  walk_at "pd"
  refine ⟨a, g, _, rfl, by omega, by omega, T1, fun r2 m2 q0 q1 O2 T2 => ?_⟩
  walk_at "pd"
  refine ⟨a, g, 4, rfl, by omega, by omega, T2, fun r3 m3 s0 s1 O3 T3 => ?_⟩
  have fin : ∀ (x y : Int), 0 ≤ x → x ≤ y → y ≤ (n : Int) → ∃ m'', PD.Sub m'' m3 ∧ Q (.tup [.int x, .int y]) m'' := fun x y h0 h1 h2 => by
    obtain ⟨i, rfl⟩ := Int.eq_ofNat_of_zero_le h0
    obtain ⟨j, rfl⟩ := Int.eq_ofNat_of_zero_le (Int.le_trans h0 h1)
    exact sub_refl_fin (h i j m3 (by omega) (by omega) ((O1.trans O2).trans O3) T3)
  walk_at "pd"
  by_cases h1 : r3 = 1
  · rw [if_pos h1]
    split
    · exact fin _ _ (by omega) (by omega) (by omega)
    · exact fin _ _ (by omega) (by omega) (by omega)
  · rw [if_neg h1]
    split
    · exact fin _ _ (by omega) (by omega) (by omega)
    · exact fin _ _ (by omega) (by omega) (by omega)
def sp__law_mark : SpD := fun ds m Q => ∃ (a g : Addr) (S : List Nat), ds = [.ref a, .str (tx S)] ∧ S4 S ∧ Tp m a g ∧ ∀ (k : Mark) m', MkO S k → Off1 a m m' → Tp m' a g → Q k.d m'
theorem ok__law_mark  (T : Txt K mg) (G__law_pick : FnOk P w K mg base CX0 (1) T.f__law_pick T.fd__law_pick ["_law_tape_here", "_law_many"] (spL K 2 sp__law_pick)) : FnOk P w K mg base CX0 (2) T.f__law_mark T.fd__law_mark ["_law_tape_here", "_law_signs"] (spL K 2 sp__law_mark) := by
  refine fn_ok T.F__law_mark sc__law_mark (fun cdv A outer s H E hr =>
(gss_cons (gs_set (i := 2) sc__law_mark.nd rfl (.inl rfl) (ge_call G__law_pick (hr.mono (by omega)) (by rfl) T.g__law_pick T.F__law_pick.kp T.b__law_pick (ga_cons (gv 0) (ga_cons ge_int ga_nil))))
 (gss_cons (gs_if (gt_cmpR (op_ltS hr.units) lr_ltP (gv 2) ge_int (nomark _))
 (gss_cons (gs_set (i := 5) sc__law_mark.nd rfl (.inl rfl) (ge_lst (ga_cons ge_str (ga_cons (gv 1) (ga_cons (ge_sliceS (gv 1) go_none (go_some ge_int)) (ga_cons (ge_revT (gv 1)) ga_nil))))))
 (gss_one (gs_ret (ge_tup (ga_cons ge_str (ga_cons (ge_ix (gv 5) (ge_call G__law_pick (hr.mono (by omega)) (by rfl) T.g__law_pick T.F__law_pick.kp T.b__law_pick (ga_cons (gv 0) (ga_cons ge_int ga_nil)))) ga_nil))))))
 gss_nil)
 (gss_cons (gs_if (gt_cmpR (op_eqS hr.units) lr_eq (gv 2) ge_int (nomark _))
 (gss_one (gs_ret (ge_tup (ga_cons ge_str ga_nil))))
 gss_nil)
 (gss_cons (gs_set (i := 3) sc__law_mark.nd rfl (.inl rfl) (ge_call G__law_pick (hr.mono (by omega)) (by rfl) T.g__law_pick T.F__law_pick.kp T.b__law_pick (ga_cons (gv 0) (ga_cons ge_int ga_nil))))
 (gss_cons (gs_set (i := 4) sc__law_mark.nd rfl (.inl rfl) (ge_lst (ga_cons ge_non (ga_cons (gv 3) (ga_cons (ge_op op_addL lr_addL (gv 3) ge_int) ga_nil)))))
 (gss_one (gs_ret (ge_tup (ga_cons ge_str (ga_cons (gv 3) (ga_cons (ge_ix (gv 4) (ge_call G__law_pick (hr.mono (by omega)) (by rfl) T.g__law_pick T.F__law_pick.kp T.b__law_pick (ga_cons (gv 0) (ga_cons ge_int ga_nil)))) ga_nil)))))))))))) (fun ds m Q h => ?_)
  obtain ⟨a, g, S, rfl, hS, hT, h⟩ := h
  rw [show startD N__law_mark [.ref a, .str (tx S)] = [some (.ref a), some (.str (tx S)), none, none, none, none] from rfl]
  walk_at "pd"
  refine ⟨a, g, 6, rfl, by omega, by omega, hT, fun r m1 r0 r1 O1 T1 => ?_⟩
  walk_at "pd"
  have hz : S.length ≤ sizeLine := Nat.le_trans hS.len.2 (by decide)
  have h4 := hS.len.2
  by_cases c1 : r < 3
  · rw [if_pos c1]
    refine ⟨hz, _, rfl, by rw [tx_len]; exact hz, fun p hp => ?_⟩
    have np := T1.ne hp
    rw [show cutS (tx S) none (some (1 : Int)) = tx (S.take 1) from cutS_to (k := 1), revT_tx]
    refine ⟨a, g, 4, rfl, by omega, by omega, T1.new hp, fun z m3 z0 z1 O3 T3 => ?_⟩
    have ep := O3 _ _ np.1 mset_same
    have fin : ∀ l : Tx, (∀ c ∈ l, c ∈ S) → l.length ≤ 4 → ∃ m'', PD.Sub m'' m3 ∧ Q (.tup [.str "sign", .str (tx l)]) m'' := fun l h1 h2 => sub_refl_fin (h (.sign l) m3 ⟨h1, h2⟩ (O1.trans ((Off1.refl _ _).new hp |>.trans O3)) T3)
    have hz4 : z = 0 ∨ z = 1 ∨ z = 2 ∨ z = 3 := by omega
    rcases hz4 with rfl | rfl | rfl | rfl
    · exact dIx_seq (seqOf_ref ep) atI_0 (fin [] (fun _ h => (List.not_mem_nil h).elim) (by simp))
    · exact dIx_seq (seqOf_ref ep) atI_1 (fin S (fun _ h => h) h4)
    · exact dIx_seq (seqOf_ref ep) atI_2 (fin (S.take 1) (fun _ h => List.mem_of_mem_take h) (by rw [List.length_take]; omega))
    · exact dIx_seq (seqOf_ref ep) atI_3 (fin S.reverse (fun _ h => List.mem_reverse.mp h) (by rw [List.length_reverse]; exact h4))
  · rw [if_neg c1]
    by_cases c3 : r = 3
    · rw [if_pos c3]; exact sub_refl_fin (h .none m1 trivial O1 T1)
    · rw [if_neg c3]
      refine ⟨a, g, 3, rfl, by omega, by omega, T1, fun lo m2 q0 q1 O2 T2 => ?_⟩
      walk_at "pd"
      intro p hp
      have np := T2.ne hp
      refine ⟨a, g, 3, rfl, by omega, by omega, T2.new hp, fun z m3 z0 z1 O3 T3 => ?_⟩
      have ep := O3 _ _ np.1 mset_same
      have O4 : Off1 a m m3 := (O1.trans O2).trans ((Off1.refl _ _).new hp |>.trans O3)
      have hz3 : z = 0 ∨ z = 1 ∨ z = 2 := by omega
      rcases hz3 with rfl | rfl | rfl
      · exact dIx_seq (seqOf_ref ep) atI_0 (sub_refl_fin (h (.run lo none) m3 trivial O4 T3))
      · exact dIx_seq (seqOf_ref ep) atI_1 (sub_refl_fin (h (.run lo (some lo)) m3 trivial O4 T3))
      · exact dIx_seq (seqOf_ref ep) atI_2 (sub_refl_fin (h (.run lo (some (lo + 2))) m3 trivial O4 T3))
structure WayO (S : List Nat) (n : Nat) (y : Way) : Prop where
  p0 : 0 < y.ps.length
  p5 : y.ps.length ≤ 5
  pc : ∀ q ∈ y.ps, PcO S n q
  ts : y.ts = []
def sp__law_way : SpD := fun ds m Q => ∃ (a g : Addr) (mk : Str) (S : List Nat) (n : Nat), ds = [.ref a, .str mk, .str (tx S), .int (n : Int)] ∧ S4 S ∧ (n = 1 ∨ n = 2) ∧ Tp m a g ∧ ∀ (y : Way) m', WayO S n y → y.mr = mk → Off1 a m m' → Tp m' a g → Q y.d m'
theorem ok__law_way  (T : Txt K mg) (G__law_pick : FnOk P w K mg base CX0 (1) T.f__law_pick T.fd__law_pick ["_law_tape_here", "_law_many"] (spL K 2 sp__law_pick)) (G__law_mark : FnOk P w K mg base CX0 (2) T.f__law_mark T.fd__law_mark ["_law_tape_here", "_law_signs"] (spL K 2 sp__law_mark)) : FnOk P w K mg base CX0 (3) T.f__law_way T.fd__law_way ["_law_tape_here", "_law_maker", "_law_signs", "_law_sides"] (spL K 4 sp__law_way) := by
  refine fn_ok T.F__law_way sc__law_way (fun cdv A outer s H E hr =>
(gss_cons (gs_set (i := 4) sc__law_way.nd rfl (.inl rfl) (ge_op op_addL lr_addL ge_int (ge_call G__law_pick (hr.mono (by omega)) (by rfl) T.g__law_pick T.F__law_pick.kp T.b__law_pick (ga_cons (gv 0) (ga_cons ge_int ga_nil)))))
 (gss_cons (gs_if (gt_cmpR (op_eqS hr.units) lr_eq (ge_call G__law_pick (hr.mono (by omega)) (by rfl) T.g__law_pick T.F__law_pick.kp T.b__law_pick (ga_cons (gv 0) (ga_cons ge_int ga_nil))) ge_int (nomark _))
 (gss_one (gs_set (i := 4) sc__law_way.nd rfl (.inl rfl) (ge_op op_addL lr_addL ge_int (ge_call G__law_pick (hr.mono (by omega)) (by rfl) T.g__law_pick T.F__law_pick.kp T.b__law_pick (ga_cons (gv 0) (ga_cons ge_int ga_nil))))))
 gss_nil)
 (gss_cons (gs_set (i := 5) sc__law_way.nd rfl (.inl rfl) (ge_lst ga_nil))
 (gss_cons (gs_for PassesOwn.never rfl (gi_rng1 (by rfl) T.z_range (ga_cons (gv 4) ga_nil)) (gg_name (i := 6) sc__law_way.nd rfl (.inl rfl))
 (gss_one (gs_if (gt_cmpR (op_eqS hr.units) lr_eq (ge_call G__law_pick (hr.mono (by omega)) (by rfl) T.g__law_pick T.F__law_pick.kp T.b__law_pick (ga_cons (gv 0) (ga_cons ge_int ga_nil))) ge_int (nomark _))
 (gss_one (gs_expr (ge_bm PySem.F.slot_list_append PySem.F.type_list_append mt_append lm_append (gv 5) (ga_cons (ge_tup (ga_cons ge_str (ga_cons ge_str ga_nil))) ga_nil))))
 (gss_one (gs_expr (ge_bm PySem.F.slot_list_append PySem.F.type_list_append mt_append lm_append (gv 5) (ga_cons (ge_tup (ga_cons ge_str (ga_cons (ge_callTy call_tuple_of lc_tuple (by rfl) T.z_tuple (by decide +kernel) (ga_cons (ge_lc (own := [("_law_side", 7)]) rfl sc__law_way.nd (gi_rng1 (by rfl) T.z_range (ga_cons (gv 3) ga_nil)) (blkOk_by (N := N__law_way) (sc := defScope s__law_way) (by decide +kernel)) (fun _ _ _ _ _ => (gg_name (i := 7) sc__law_way.nd rfl (.inl rfl))) (fun _ _ _ _ _ => gts_nil) (fun _ _ _ _ _ => (ge_call G__law_mark (hr.mono (by omega)) (by rfl) T.g__law_mark T.F__law_mark.kp T.b__law_mark (ga_cons (gv 0) (ga_cons (gv 2) ga_nil)))) (by decide)) ga_nil)) ga_nil))) ga_nil)))))))
 (gss_one (gs_ret (ge_tup (ga_cons (gv 1) (ga_cons (ge_callTy call_tuple_of lc_tuple (by rfl) T.z_tuple (by decide +kernel) (ga_cons (gv 5) ga_nil)) (ga_cons (ge_tup ga_nil) ga_nil))))))))))) (fun ds m Q h => ?_)
  obtain ⟨a, g, mk, S, n, rfl, hS, hn, hT, h⟩ := h
  rw [show startD N__law_way [.ref a, .str mk, .str (tx S), .int (n : Int)] = [some (.ref a), some (.str mk), some (.str (tx S)), some (.int (n : Int)), none, none, none, none] from rfl]
  refine seq_cut (fun s' m' => ∃ k : Nat, k < 3 ∧ s' = [some (.ref a), some (.str mk), some (.str (tx S)), some (.int (n : Int)), some (.int ((k + 1 : Nat) : Int)), none, none, none] ∧ Off1 a m m' ∧ Tp m' a g) (fun R hR => ?_) ?_
  · walk_at "pd"
    refine ⟨a, g, 3, rfl, by omega, by omega, hT, fun r m1 r0 r1 O1 T1 => ?_⟩
    obtain ⟨k, rfl⟩ := Int.eq_ofNat_of_zero_le r0
    walk_at "pd"
    refine hR _ _ ⟨k, by omega, ?_, O1, T1⟩
    rw [show ((k + 1 : Nat) : Int) = 1 + (k : Int) by omega]
  rintro s' m1 ⟨k, hk, rfl, O1, T1⟩
  refine seq_cut (fun s' m' => ∃ k : Nat, k < 5 ∧ s' = [some (.ref a), some (.str mk), some (.str (tx S)), some (.int (n : Int)), some (.int ((k + 1 : Nat) : Int)), none, none, none] ∧ Off1 a m m' ∧ Tp m' a g) (fun R hR => ?_) ?_
  · walk_at "pd"
    refine ⟨a, g, 8, rfl, by omega, by omega, T1, fun r m2 r0 r1 O2 T2 => ?_⟩
    refine ⟨_, eqK_ii, ?_⟩
    split
    · refine ⟨a, g, 2, rfl, by omega, by omega, T2, fun r m3 r0 r1 O3 T3 => ?_⟩
      obtain ⟨k, rfl⟩ := Int.eq_ofNat_of_zero_le r0
      walk_at "pd"
      refine hR _ _ ⟨k + 3, by omega, ?_, (O1.trans O2).trans O3, T3⟩
      rw [show ((k + 3 + 1 : Nat) : Int) = 4 + (k : Int) by omega]
    · exact hR _ _ ⟨k, by omega, rfl, O1.trans O2, T2⟩
  clear O1 T1 hk k
  rintro s' m1 ⟨k, hk, rfl, O1, T1⟩
  walk_at "pd"
  intro p hp
  have np := T1.ne hp
  have hpm := O1.free np.1 hp
  refine ⟨by omega, by omega, ?_⟩
  rw [show (((k + 1 : Nat) : Int)).toNat = k + 1 from rfl]
  refine loop_range (fun i s' m' => ∃ (c6 : Option D) (ps : List Piece), s' = [some (.ref a), some (.str mk), some (.str (tx S)), some (.int (n : Int)), some (.int ((k + 1 : Nat) : Int)), some (.ref p), c6, none] ∧ ps.length = i ∧ (∀ q ∈ ps, PcO S n q) ∧ m' p = some (.lst (ps.map Piece.d)) ∧ Off1 a m m' ∧ Tp m' a g) ?_ ?_ ⟨_, [], rfl, rfl, fun _ h => (List.not_mem_nil h).elim, mset_same, O1.new hp, T1.new hp⟩
  · rintro i s' m2 R hi hR ⟨c6, ps, rfl, hpl, hpc, ep, O2, T2⟩
    refine ⟨trivial, ?_⟩
    have app : ∀ (q : Piece) m3, PcO S n q → m3 p = some (.lst (ps.map Piece.d)) → Off1 a m m3 → Tp m3 a g → ∃ a_1 es, lstOf m3 (.ref p) = some (a_1, es) ∧ es.length < sizeLine ∧ R [some (.ref a), some (.str mk), some (.str (tx S)), some (.int (n : Int)), some (.int ((k + 1 : Nat) : Int)), some (.ref p), some (.int (i : Int)), none] (mset m3 a_1 (.lst (es ++ [q.d]))) := fun q m3 hq ep3 O3 T3 => by
      refine ⟨p, _, lstOf_ref ep3, by rw [List.length_map]; exact Nat.lt_of_le_of_lt (by omega : _ ≤ 5) (by decide), ?_⟩
      refine hR _ _ ⟨_, ps ++ [q], rfl, by rw [List.length_append, List.length_singleton, hpl], fun z hz => ?_, by rw [mset_same, List.map_append]; rfl, O3.set' hpm, T3.setp np.1 np.2⟩
      rcases List.mem_append.mp hz with h | h
      · exact hpc z h
      · rw [List.mem_singleton.mp h]; exact hq
    walk_at "pd"
    refine ⟨a, g, 3, rfl, by omega, by omega, T2, fun r m3 r0 r1 O3 T3 => ?_⟩
    have ep3 := O3 _ _ np.1 ep
    walk_at "pd"
    by_cases c1 : r = 1
    · rw [if_pos c1]
      exact ⟨⟨_, _, lstOf_ref ep3⟩, app (.lot "s") m3 rfl ep3 (O2.trans O3) T3⟩
    · rw [if_neg c1]
      refine ⟨⟨_, _, lstOf_ref ep3⟩, by omega, by omega, fun u hu => ?_⟩
      have nu := T3.ne hu
      have hum := O2.free nu.1 (O3.free nu.1 hu)
      have pu : p ≠ u := fun z => by rw [← z, ep3] at hu; cases hu
      rw [show ((n : Int)).toNat = n from rfl]
      refine comp_st (fun acc m' => ∃ ms : List Mark, acc = ms.map Mark.d ∧ (∀ k ∈ ms, MkO S k) ∧ m' p = some (.lst (ps.map Piece.d)) ∧ Off1 a m m' ∧ Tp m' a g) (fun _ => trivial) (by rw [rangeD_len]; omega) ?_ ?_ ⟨[], rfl, fun _ h => (List.not_mem_nil h).elim, mset_new hu ep3, (O2.trans O3).new hu, T3.new hu⟩
      · rintro dd hdd acc m4 R4 ⟨ms, rfl, hms, ep4, O4, T4⟩ eu4 hR4
        walk_at "pd"
        refine ⟨a, g, S, rfl, hS, T4, fun kk m5 hk O5 T5 => ?_⟩
        refine hR4 _ _ ⟨ms ++ [kk], by rw [List.map_append]; rfl, fun z hz => ?_, ?_, (O4.trans O5).set' hum, T5.setp nu.1 nu.2⟩ (O5 _ _ nu.1 eu4)
        · rcases List.mem_append.mp hz with h | h
          · exact hms z h
          · rw [List.mem_singleton.mp h]; exact hk
        · rw [mset_ne pu]; exact O5 _ _ np.1 ep4
      · rintro acc m4 hal ⟨ms, rfl, hms, ep4, O4, T4⟩ eu4
        rw [List.length_map, rangeD_len] at hal
        exact ⟨_, seqOf_ref eu4, app (.plain ms) m4 ⟨hal, hms⟩ ep4 O4 T4⟩
  · rintro s' m2 ⟨c6, ps, rfl, hpl, hpc, ep, O2, T2⟩
    refine ⟨trivial, ?_⟩
    walk_at "pd"
    exact ⟨_, seqOf_ref ep, sub_refl_fin (h ⟨mk, ps, []⟩ m2 ⟨by show 0 < ps.length; omega, by show ps.length ≤ 5; omega, hpc, rfl⟩ rfl O2 T2)⟩
end
theorem comp_drawn {a g : Addr} {sg : List Nat} {m m1 : Mu} {p : Addr} {rest : List (Option D)} {j k : Nat} {Q : DK} (h0 : 0 < sg.length) (h6 : sg.length ≤ 6) (hk : k ≤ 1000) (O : Off1 a m m1) (S : Tp m1 a g) (hp : m1 p = none) (hpm : m p = none)
    (h : ∀ (l : List Nat) m', l.length = k → (∀ c ∈ l, c ∈ sg) → Off1 a m m' → Tp m' a g → m' p = some (.lst (l.map fun c => .str (tx [c]))) → Q (.ref p) m') :
    dComp (fun _ => True) (dgN (j + 2)) dYes (dOp dIx (dVar 1) (dCall 2 sp__law_pick (dCons (dVar 0) (dCons (dCB dLen (dCons (dVar 1) dNil)) dNil)))) p (some (.ref a) :: some (.str (tx sg)) :: rest) Q (rangeD 0 k) [] (mset m1 p (.lst [])) := by
  have hsz : sg.length ≤ sizeLine := Nat.le_trans h6 (by decide)
  have np := S.ne hp
  refine comp_st (fun acc m' => ∃ l, acc = l.map (fun c => D.str (tx [c])) ∧ (∀ c ∈ l, c ∈ sg) ∧ Off1 a m m' ∧ Tp m' a g) (fun _ => trivial) (by rw [rangeD_len]; omega) ?_ ?_ ⟨[], rfl, fun _ h => (List.not_mem_nil h).elim, O.new hp, S.new hp⟩
  · rintro d hd acc m2 R ⟨l, rfl, hl, O2, S2⟩ ep hR
    walk_at "pd"
    refine ⟨hsz, ?_⟩
    refine ⟨a, g, _, rfl, by omega, by omega, S2, fun r m3 r0 r1 O3 S3 => ?_⟩
    obtain ⟨i, rfl⟩ := Int.eq_ofNat_of_zero_le r0
    have hi : i < sg.length := by omega
    walk_at "pd"
    refine ⟨hsz, _, atI_getD hi, hR _ _ ⟨l ++ [sg[i]], by rw [List.map_append]; rfl, fun c hc => ?_, (O2.trans O3).set' hpm, S3.setp np.1 np.2⟩ (O3 _ _ np.1 ep)⟩
    rcases List.mem_append.mp hc with hc | hc
    · exact hl c hc
    · rw [List.mem_singleton.mp hc]; exact List.getElem_mem hi
  · rintro acc m2 e ⟨l, rfl, hl, O2, S2⟩ ep
    exact h l m2 (by rw [List.length_map, rangeD_len] at e; exact e) hl O2 S2 ep
theorem comp_sp {β : Type} {st : Mu → Prop} {g : DG} {e : DE} {p : Addr} {s : Sd} {Q : DK} {m : Mu} (J : List β → List D → Mu → Prop) (i : β → D) {us : List β} (hst : ∀ m', st m') (hz : us.length ≤ 100000)
    (hs : ∀ pre u post, us = pre ++ u :: post → ∀ acc m' (R : D → Mu → Prop), J pre acc m' → acc.length = pre.length → m' p = some (.lst acc) → (∀ y m'', J (pre ++ [u]) (acc ++ [y]) (mset m'' p (.lst (acc ++ [y]))) → m'' p = some (.lst acc) → R y m'') → g (i u) s m' fun s2 m2 => e s2 m2 R)
    (he : ∀ acc m', J us acc m' → acc.length = us.length → m' p = some (.lst acc) → Q (.ref p) m') (h : J [] [] (mset m p (.lst []))) : dComp st g dYes e p s Q (us.map i) [] (mset m p (.lst [])) := by
  refine comp_inv (fun rem acc m' => ∃ pre post, us = pre ++ post ∧ rem = post.map i ∧ acc.length = pre.length ∧ J pre acc m' ∧ m' p = some (.lst acc)) (fun d rem acc m1 R hR ⟨pre, post, e1, e2, e3, e4, e5⟩ => ?_) (fun acc m1 ⟨pre, post, e1, e2, e3, e4, e5⟩ => ?_) ⟨[], us, rfl, rfl, rfl, h, mset_same⟩
  · refine ⟨hst _, ?_⟩
    cases post with
    | nil => cases e2
    | cons u post =>
      rw [List.map_cons] at e2
      injection e2 with e2 e2'
      subst e2
      have q := hs pre u post e1 acc m1 (fun y m4 => m4 p = some (.lst acc) ∧ acc.length < sizeLine ∧ R (acc ++ [y]) (mset m4 p (.lst (acc ++ [y])))) e4 e3 e5 fun y m'' h1 h2 => ⟨h2, ?_, hR _ _ ⟨pre ++ [u], post, by rw [e1]; simp, e2', by simp [e3], h1, mset_same⟩⟩
      · simpa [dYes] using q
      · have : pre.length < us.length := by rw [e1]; simp
        exact Nat.lt_of_lt_of_le (by omega : acc.length < 100000) (by decide)
  · cases post with
    | cons u post => cases e2
    | nil =>
      rw [List.append_nil] at e1
      subst e1
      exact ⟨hst _, e5, he acc m1 e4 e3 e5⟩
/-- what is drawn put together -/
theorem joined {l : List Nat} {m2 : Mu} {p : Addr} {Q : DK} (hl : l.length ≤ 1000) (ep : m2 p = some (.lst (l.map fun c => .str (tx [c])))) (h : Q (.str (tx l)) m2) :
    ∃ ys : List Str, seqOf m2 (.ref p) = some (ys.map .str) ∧ (ys.map (·.length)).sum + ys.length * 0 ≤ 16777216 ∧ ∃ m'', PD.Sub m'' m2 ∧ Q (.str (Txt.join (tx []) ys)) m'' := by
  refine ⟨l.map fun c => tx [c], ?_, ?_, ?_⟩
  · rw [seqOf_ref ep, List.map_map]; rfl
  · rw [List.map_map]
    have e : ∀ l : List Nat, (l.map ((·.length) ∘ fun c => tx [c])).sum = l.length := fun l => by
      induction l with
      | nil => rfl
      | cons c l ih => rw [List.map_cons, List.sum_cons, ih, Function.comp_apply, tx_len, List.length_singleton, List.length_cons]; omega
    rw [e]; omega
  · rw [join_sg]; exact sub_refl_fin h
section
variable {P : Program} {w : World} {K : PySem.W.Frag} {mg : Str → Option Value} {base : Heap}
def sp__law_text : SpD := fun ds m Q => ∃ (a g : Addr) (S : List Nat), ds = [.ref a, .str (tx S)] ∧ S4 S ∧ Tp m a g ∧ ∀ (l : Tx) m', l.length ≤ 160 → (∀ c ∈ l, c ∈ S) → Off1 a m m' → Tp m' a g → Q (.str (tx l)) m'
theorem ok__law_text  (T : Txt K mg) (G__law_pick : FnOk P w K mg base CX0 (1) T.f__law_pick T.fd__law_pick ["_law_tape_here", "_law_many"] (spL K 2 sp__law_pick)) : FnOk P w K mg base CX0 (2) T.f__law_text T.fd__law_text ["_law_tape_here", "_law_signs"] (spL K 2 sp__law_text) := by
  refine fn_ok T.F__law_text sc__law_text (fun cdv A outer s H E hr =>
(gss_cons (gs_set (i := 2) sc__law_text.nd rfl (.inl rfl) (ge_call G__law_pick (hr.mono (by omega)) (by rfl) T.g__law_pick T.F__law_pick.kp T.b__law_pick (ga_cons (gv 0) (ga_cons ge_int ga_nil))))
 (gss_cons (gs_if (gt_cmpR (op_eqS hr.units) lr_eq (ge_call G__law_pick (hr.mono (by omega)) (by rfl) T.g__law_pick T.F__law_pick.kp T.b__law_pick (ga_cons (gv 0) (ga_cons ge_int ga_nil))) ge_int (nomark _))
 (gss_one (gs_set (i := 2) sc__law_text.nd rfl (.inl rfl) (ge_op op_addL lr_addL ge_int (ge_call G__law_pick (hr.mono (by omega)) (by rfl) T.g__law_pick T.F__law_pick.kp T.b__law_pick (ga_cons (gv 0) (ga_cons ge_int ga_nil))))))
 gss_nil)
 (gss_one (gs_ret (ge_join ge_str (ge_lc (own := [("_law_place", 3)]) rfl sc__law_text.nd (gi_rng1 (by rfl) T.z_range (ga_cons (gv 2) ga_nil)) (blkOk_by (N := N__law_text) (sc := defScope s__law_text) (by decide +kernel)) (fun _ _ _ _ _ => (gg_name (i := 3) sc__law_text.nd rfl (.inl rfl))) (fun _ _ _ _ _ => gts_nil) (fun _ _ _ _ _ => (ge_ix (gv 1) (ge_call G__law_pick (hr.mono (by omega)) (by rfl) T.g__law_pick T.F__law_pick.kp T.b__law_pick (ga_cons (gv 0) (ga_cons (ge_callB call_lenU lc_len (by rfl) T.z_len PySem.boot_len (ga_cons (gv 1) ga_nil)) ga_nil))))) (by decide)))))))) (fun ds m Q h => ?_)
  obtain ⟨a, g, S, rfl, hS, hT, h⟩ := h
  rw [show startD N__law_text [.ref a, .str (tx S)] = [some (.ref a), some (.str (tx S)), none, none] from rfl]
  refine seq_cut (fun s' m' => ∃ k : Nat, k ≤ 160 ∧ s' = [some (.ref a), some (.str (tx S)), some (.int (k : Int)), none] ∧ Off1 a m m' ∧ Tp m' a g) (fun R hR => ?_) ?_
  · walk_at "pd"
    refine ⟨a, g, 7, rfl, by omega, by omega, hT, fun r m1 r0 r1 O1 T1 => ?_⟩
    obtain ⟨k, rfl⟩ := Int.eq_ofNat_of_zero_le r0
    exact hR _ _ ⟨k, by omega, rfl, O1, T1⟩
  rintro s' m1 ⟨k, hk, rfl, O1, T1⟩
  refine seq_cut (fun s' m' => ∃ k : Nat, k ≤ 160 ∧ s' = [some (.ref a), some (.str (tx S)), some (.int (k : Int)), none] ∧ Off1 a m m' ∧ Tp m' a g) (fun R hR => ?_) ?_
  · walk_at "pd"
    refine ⟨a, g, 8, rfl, by omega, by omega, T1, fun r m2 r0 r1 O2 T2 => ?_⟩
    refine ⟨_, eqK_ii, ?_⟩
    split
    · refine ⟨a, g, 120, rfl, by omega, by omega, T2, fun r m3 r0 r1 O3 T3 => ?_⟩
      obtain ⟨k, rfl⟩ := Int.eq_ofNat_of_zero_le r0
      walk_at "pd"
      refine hR _ _ ⟨k + 41, by omega, ?_, (O1.trans O2).trans O3, T3⟩
      rw [show ((k + 41 : Nat) : Int) = 41 + (k : Int) by omega]
    · exact hR _ _ ⟨k, by omega, rfl, O1.trans O2, T2⟩
  clear O1 T1 hk k
  rintro s' m1 ⟨k, hk, rfl, O1, T1⟩
  have hl := hS.len
  walk_at "pd"
  refine ⟨_, rfl, by omega, by omega, fun p hp => ?_⟩
  rw [show ((k : Int)).toNat = k from rfl]
  refine comp_drawn (sg := S) (k := k) (j := 1) (by omega) (by omega) (by omega) (.refl a m1) T1 hp hp fun l m2 e1 e3 O2 T2 ep => ?_
  exact joined (by omega) ep (h l m2 (by omega) e3 (O1.trans O2) T2)
def sp__law_scene : SpD := fun ds m Q => ∃ (a g : Addr) (S : List Nat) (n : Nat), ds = [.ref a, .str (tx S), .int (n : Int)] ∧ S4 S ∧ (n = 1 ∨ n = 2) ∧ Tp m a g ∧ ∀ (R : List Tx) (st : List (Nat × Nat)) m', R.length = n → st.length = n → (∀ l ∈ R, l.length ≤ 160 ∧ ∀ c ∈ l, c ∈ S) → (∀ q ∈ R.zip st, q.2.1 ≤ q.2.2 ∧ q.2.2 ≤ q.1.length) → Off1 a m m' → Tp m' a g → Q (.tup [rowsD R, stD (st.map fun p => ((p.1 : Int), (p.2 : Int)))]) m'
theorem ok__law_scene  (T : Txt K mg) (G__law_span : FnOk P w K mg base CX0 (2) T.f__law_span T.fd__law_span ["_law_tape_here", "_law_size"] (spL K 2 sp__law_span)) (G__law_text : FnOk P w K mg base CX0 (2) T.f__law_text T.fd__law_text ["_law_tape_here", "_law_signs"] (spL K 2 sp__law_text)) : FnOk P w K mg base CX0 (3) T.f__law_scene T.fd__law_scene ["_law_tape_here", "_law_signs", "_law_sides"] (spL K 3 sp__law_scene) := by
  refine fn_ok T.F__law_scene sc__law_scene (fun cdv A outer s H E hr =>
(gss_cons (gs_set (i := 3) sc__law_scene.nd rfl (.inl rfl) (ge_callTy call_tuple_of lc_tuple (by rfl) T.z_tuple (by decide +kernel) (ga_cons (ge_lc (own := [("_law_side", 4)]) rfl sc__law_scene.nd (gi_rng1 (by rfl) T.z_range (ga_cons (gv 2) ga_nil)) (blkOk_by (N := N__law_scene) (sc := defScope s__law_scene) (by decide +kernel)) (fun _ _ _ _ _ => (gg_name (i := 4) sc__law_scene.nd rfl (.inl rfl))) (fun _ _ _ _ _ => gts_nil) (fun _ _ _ _ _ => (ge_call G__law_text (hr.mono (by omega)) (by rfl) T.g__law_text T.F__law_text.kp T.b__law_text (ga_cons (gv 0) (ga_cons (gv 1) ga_nil)))) (by decide)) ga_nil)))
 (gss_one (gs_ret (ge_tup (ga_cons (gv 3) (ga_cons (ge_callTy call_tuple_of lc_tuple (by rfl) T.z_tuple (by decide +kernel) (ga_cons (ge_lc (own := [("_law_text_here", 5)]) rfl sc__law_scene.nd (gi_seq (gv 3)) (blkOk_by (N := N__law_scene) (sc := defScope s__law_scene) (by decide +kernel)) (fun _ _ _ _ _ => (gg_name (i := 5) sc__law_scene.nd rfl (.inl rfl))) (fun _ _ _ _ _ => gts_nil) (fun _ _ _ _ _ => (ge_call G__law_span (hr.mono (by omega)) (by rfl) T.g__law_span T.F__law_span.kp T.b__law_span (ga_cons (gv 0) (ga_cons (ge_callB call_lenU lc_len (by rfl) T.z_len PySem.boot_len (ga_cons (gv 5) ga_nil)) ga_nil)))) (by decide)) ga_nil)) ga_nil))))))) (fun ds m Q h => ?_)
  obtain ⟨a, g, S, n, rfl, hS, hn, hT, h⟩ := h
  rw [show startD N__law_scene [.ref a, .str (tx S), .int (n : Int)] = [some (.ref a), some (.str (tx S)), some (.int (n : Int)), none, none, none] from rfl]
  walk_at "pd"
  refine ⟨by omega, by omega, fun p hp => ?_⟩
  rw [show ((n : Int)).toNat = n from rfl]
  have np := hT.ne hp
  refine comp_st (fun acc m' => ∃ R : List Tx, acc = R.map (fun l => D.str (tx l)) ∧ (∀ l ∈ R, l.length ≤ 160 ∧ ∀ c ∈ l, c ∈ S) ∧ Off1 a m m' ∧ Tp m' a g) (fun _ => trivial) (by rw [rangeD_len]; omega) ?_ ?_ ⟨[], rfl, fun _ h => (List.not_mem_nil h).elim, (Off1.refl _ _).new hp, hT.new hp⟩
  · rintro dd hdd acc m1 R1 ⟨R, rfl, hR, O1, T1⟩ ep hR1
    walk_at "pd"
    refine ⟨a, g, S, rfl, hS, T1, fun l m2 h1 h2 O2 T2 => ?_⟩
    refine hR1 _ _ ⟨R ++ [l], by rw [List.map_append]; rfl, fun z hz => ?_, (O1.trans O2).set' hp, T2.setp np.1 np.2⟩ (O2 _ _ np.1 ep)
    rcases List.mem_append.mp hz with h | h
    · exact hR z h
    · rw [List.mem_singleton.mp h]; exact ⟨h1, h2⟩
  · rintro acc m1 hal ⟨R, rfl, hR, O1, T1⟩ ep
    rw [List.length_map, rangeD_len] at hal
    refine ⟨_, seqOf_ref ep, fun q hq => ?_⟩
    have nq := T1.ne hq
    have hqm := O1.free nq.1 hq
    refine comp_sp (fun pre acc m' => ∃ st : List (Nat × Nat), acc = st.map (fun p => pairI ((p.1 : Int), (p.2 : Int))) ∧ st.length = pre.length ∧ (∀ q ∈ pre.zip st, q.2.1 ≤ q.2.2 ∧ q.2.2 ≤ q.1.length) ∧ Off1 a m m' ∧ Tp m' a g) (fun l => D.str (tx l)) (fun _ => trivial) (by omega) ?_ ?_ ⟨[], rfl, rfl, fun _ h => (List.not_mem_nil h).elim, O1.new hq, T1.new hq⟩
    · rintro pre u post eu acc m2 R2 ⟨st, rfl, h1, h2, O2, T2⟩ hal2 eq hR2
      have hu : u.length ≤ 160 := (hR u (by rw [eu]; simp)).1
      walk_at "pd"
      refine ⟨Nat.le_trans hu (by decide), a, g, u.length, rfl, by omega, T2, fun i j m3 hi hj O3 T3 => ?_⟩
      refine hR2 _ _ ⟨st ++ [(i, j)], by rw [List.map_append]; rfl, by rw [List.length_append, List.length_append, h1]; rfl, fun z hz => ?_, (O2.trans O3).set' hqm, T3.setp nq.1 nq.2⟩ (O3 _ _ nq.1 eq)
      rw [zip_app h1.symm] at hz
      rcases List.mem_append.mp hz with h | h
      · exact h2 z h
      · have h : z ∈ [(u, (i, j))] := h
        rw [List.mem_singleton.mp h]; exact ⟨hi, hj⟩
    · rintro acc m2 ⟨st, rfl, h1, h2, O2, T2⟩ hal2 eq
      refine ⟨_, seqOf_ref eq, ?_⟩
      have := h R st m2 hal (by omega) hR h2 O2 T2
      unfold rowsD stD at this
      rw [List.map_map] at this
      exact sub_refl_fin this
end
theorem sum_set0 : ∀ (L : List Nat) (i w : Nat), L[i]? = some 0 → (L.set i w).sum = L.sum + w
  | [], i, w, h => by simp at h
  | x :: L, 0, w, h => by
    have h : x = 0 := by simpa using h
    subst h
    simp [Nat.add_comm]
  | x :: L, i + 1, w, h => by
    rw [List.set_cons_succ, List.sum_cons, List.sum_cons, sum_set0 L i w (by simpa using h)]
    omega
theorem mod_st {s t m : Nat} (hs : s < m) (ht : t < m) : (s + t) % m = if s + t < m then s + t else s + t - m := by
  split
  · exact Nat.mod_eq_of_lt ‹_›
  · rw [Nat.mod_eq_sub_mod (by omega), Nat.mod_eq_of_lt (by omega)]
theorem ixN_nat {n j : Nat} (h : j < n) : ixN n (j : Int) = some j := by
  unfold ixN
  rw [if_pos (by omega), if_pos (by omega)]
  simp
theorem rep1 : ∀ k : Nat, (List.replicate k [D.int 0]).flatten = List.replicate k (D.int ((0 : Nat) : Int))
  | 0 => rfl
  | k + 1 => by rw [List.replicate_succ, List.flatten_cons, rep1 k, List.replicate_succ]; rfl
theorem between_eq (l : Tx) (i j : Nat) : ∀ n, n ≤ l.length → ((List.range n).filter fun z => decide (i ≤ z ∧ z < j)).map (fun z => l.getD z 0) = ((l.take n).drop i).take (j - i)
  | 0, _ => by simp
  | n + 1, hn => by
    have ih := between_eq l i j n (by omega)
    have el : l[n]? = some (l[n]'(by omega)) := List.getElem?_eq_getElem _
    rw [List.range_succ, List.filter_append, List.map_append, ih, take_succ' el]
    have eg : l.getD n 0 = l[n]'(by omega) := by rw [List.getD_eq_getElem?_getD, el]; rfl
    have hlt : (l.take n).length = n := by rw [List.length_take]; omega
    by_cases hi : i ≤ n
    · rw [List.drop_append_of_le_length (by omega)]
      have hd : ((l.take n).drop i).length = n - i := by rw [List.length_drop, hlt]
      by_cases hj : n < j
      · rw [List.take_of_length_le (l := (l.take n).drop i) (by omega), List.take_of_length_le (l := (l.take n).drop i ++ _) (by rw [List.length_append, hd]; simp; omega)]
        simp [hi, hj, List.getElem?_eq_getElem (show n < l.length by omega)]
      · rw [List.take_append_of_le_length (by omega)]
        simp [hj]
    · rw [List.drop_of_length_le (l := l.take n ++ _) (by rw [List.length_append, hlt]; simp; omega), List.drop_of_length_le (l := l.take n) (by omega)]
      simp [hi]
section
variable {P : Program} {w : World} {K : PySem.W.Frag} {mg : Str → Option Value} {base : Heap}
def sp__law_parting : SpD := fun ds m Q => ∃ (a g : Addr) (wd k : Nat), ds = [.ref a, .int (wd : Int), .int (k : Int)] ∧ wd ≤ 1000 ∧ 0 < k ∧ k ≤ 5 ∧ Tp m a g ∧ ∀ (ws : List Nat) m', ws.length = k → ws.sum = wd → Off1 a m m' → Tp m' a g → Q (.tup (ws.map fun (w : Nat) => .int (w : Int))) m'
theorem ok__law_parting  (T : Txt K mg) (G__law_pick : FnOk P w K mg base CX0 (1) T.f__law_pick T.fd__law_pick ["_law_tape_here", "_law_many"] (spL K 2 sp__law_pick)) : FnOk P w K mg base CX0 (2) T.f__law_parting T.fd__law_parting ["_law_tape_here", "_law_width", "_law_many"] (spL K 3 sp__law_parting) := by
  refine fn_ok T.F__law_parting sc__law_parting (fun cdv A outer s H E hr =>
(gss_cons (gs_set (i := 3) sc__law_parting.nd rfl (.inl rfl) (ge_op op_mulL lr_mulL (ge_lst (ga_cons ge_int ga_nil)) (gv 2)))
 (gss_cons (gs_set (i := 4) sc__law_parting.nd rfl (.inl rfl) (gv 1))
 (gss_cons (gs_set (i := 5) sc__law_parting.nd rfl (.inl rfl) (ge_call G__law_pick (hr.mono (by omega)) (by rfl) T.g__law_pick T.F__law_pick.kp T.b__law_pick (ga_cons (gv 0) (ga_cons (gv 2) ga_nil))))
 (gss_cons (gs_for PassesOwn.never rfl (gi_rng1 (by rfl) T.z_range (ga_cons (gv 2) ga_nil)) (gg_name (i := 6) sc__law_parting.nd rfl (.inl rfl))
 (gss_cons (gs_set (i := 7) sc__law_parting.nd rfl (.inl rfl) (gv 4))
 (gss_cons (gs_if (gt_cmpR (op_ltS hr.units) lr_ltP (gv 6) (ge_op op_sub lr_sub (gv 2) ge_int) (nomark _))
 (gss_one (gs_set (i := 7) sc__law_parting.nd rfl (.inl rfl) (ge_call G__law_pick (hr.mono (by omega)) (by rfl) T.g__law_pick T.F__law_pick.kp T.b__law_pick (ga_cons (gv 0) (ga_cons (ge_frz (ge_op op_addL lr_addL (gv 4) ge_int)) ga_nil)))))
 gss_nil)
 (gss_cons (gs_asg (gv 7) (gg_sub (gv 3) (ge_op op_mod lr_int2 (ge_callTy call_int1 lc_int (by rfl) T.z_int (by decide +kernel) (ga_cons (ge_op op_addL lr_addL (gv 5) (gv 6)) ga_nil)) (gv 2))))
 (gss_one (gs_set (i := 4) sc__law_parting.nd rfl (.inl rfl) (ge_op op_sub lr_sub (gv 4) (gv 7))))))))
 (gss_one (gs_ret (ge_callTy call_tuple_of lc_tuple (by rfl) T.z_tuple (by decide +kernel) (ga_cons (gv 3) ga_nil))))))))) (fun ds m Q h => ?_)
  obtain ⟨a, g, wd, k, rfl, hw, k0, k5, hT, h⟩ := h
  rw [show startD N__law_parting [.ref a, .int (wd : Int), .int (k : Int)] = [some (.ref a), some (.int (wd : Int)), some (.int (k : Int)), none, none, none, none, none] from rfl]
  walk_at "pd"
  intro p hp
  refine ⟨_, rfl, by omega, by omega, by show 1 * k ≤ _; exact Nat.le_trans (by omega : _ ≤ 5) (by decide), fun q hq => ?_⟩
  have T0 := hT.new (o := .lst [.int 0]) hp
  have nq := T0.ne hq
  have hqm := (mset_none hq).1
  have erep : (List.replicate ((k : Int)).toNat [D.int 0]).flatten = (List.replicate k 0).map fun (w : Nat) => D.int (w : Int) := by
    rw [List.map_replicate, show ((k : Int)).toNat = k from rfl]
    exact rep1 k
  rw [erep]
  refine ⟨a, g, _, rfl, by omega, by omega, T0.new hq, fun r m1 r0 r1 O1 T1 => ?_⟩
  obtain ⟨s, rfl⟩ := Int.eq_ofNat_of_zero_le r0
  have hs : s < k := by omega
  have eq1 := O1 _ _ nq.1 mset_same
  have O2 : Off1 a m m1 := (((Off1.refl a m).new hp).new hq).trans O1
  refine ⟨by omega, by omega, ?_⟩
  rw [show ((k : Int)).toNat = k from rfl]
  refine loop_range (fun i s' m' => ∃ (c6 c7 : Option D) (L : List Nat) (rest : Nat), s' = [some (.ref a), some (.int (wd : Int)), some (.int (k : Int)), some (.ref q), some (.int (rest : Int)), some (.int (s : Int)), c6, c7] ∧ L.length = k ∧ L.sum + rest = wd ∧ (∀ t, i ≤ t → t < k → L[(s + t) % k]? = some 0) ∧ (i = k → rest = 0) ∧ m' q = some (.lst (L.map fun (w : Nat) => .int (w : Int))) ∧ Off1 a m m' ∧ Tp m' a g) ?_ ?_ ⟨_, _, List.replicate k 0, wd, rfl, List.length_replicate, by have e : ∀ k : Nat, (List.replicate k 0).sum = 0 := (fun k => by induction k with | zero => rfl | succ k ih => rw [List.replicate_succ, List.sum_cons, ih]); rw [e]; omega, fun t h1 h2 => by rw [List.getElem?_replicate, if_pos (Nat.mod_lt _ k0)], fun e => by omega, eq1, O2, T1⟩
  · rintro i s' m2 R hi hR ⟨c6, c7, L, rest, rfl, hL, hsum, h0, _, eq2, O3, T3⟩
    refine ⟨trivial, ?_⟩
    have fin : ∀ (wo : Nat) m3, wo ≤ rest → (i + 1 = k → wo = rest) → Off1 a m m3 → Tp m3 a g → m3 q = some (.lst (L.map fun (w : Nat) => .int (w : Int))) → R [some (.ref a), some (.int (wd : Int)), some (.int (k : Int)), some (.ref q), some (.int ((rest : Int) - (wo : Int))), some (.int (s : Int)), some (.int (i : Int)), some (.int (wo : Int))] (mset m3 q (.lst ((L.set ((s + i) % k) wo).map fun (w : Nat) => .int (w : Int)))) := fun wo m3 h1 h2 O4 T4 eq3 => by
      have e0 := h0 i (Nat.le_refl _) hi
      refine hR _ _ ⟨_, _, L.set ((s + i) % k) wo, rest - wo, by rw [show ((rest - wo : Nat) : Int) = (rest : Int) - (wo : Int) by omega], by rw [List.length_set, hL], by rw [sum_set0 L _ wo e0]; omega, fun t t1 t2 => ?_, fun e => by have := h2 e; omega, mset_same, O4.set' hqm, T4.setp nq.1 nq.2⟩
      rw [List.getElem?_set_ne]
      · exact h0 t (by omega) t2
      · rw [mod_st hs hi, mod_st hs t2]; split <;> split <;> omega
    walk_at "pd"
    have ei : ((s : Int) + (i : Int)) % (k : Int) = (((s + i) % k : Nat) : Int) := rfl
    have hmk : (s + i) % k < k := Nat.mod_lt _ k0
    have est : ∀ (wo : Nat), (L.map fun (w : Nat) => D.int (w : Int)).set ((s + i) % k) (.int (wo : Int)) = (L.set ((s + i) % k) wo).map fun (w : Nat) => .int (w : Int) := fun wo => (List.map_set ..).symm
    by_cases hlast : (i : Int) < (k : Int) - 1
    · rw [if_pos hlast]
      refine ⟨a, g, _, rfl, by omega, by omega, T3, fun r m3 r0 r1 O4 T4 => ?_⟩
      obtain ⟨wo, rfl⟩ := Int.eq_ofNat_of_zero_le r0
      have eq3 := O4 _ _ nq.1 eq2
      refine ⟨by omega, q, _, lstOf_ref eq3, _, by rw [ei]; exact ixN_nat (by rw [List.length_map, hL]; exact hmk), ?_⟩
      rw [est]
      exact fin wo m3 (by omega) (fun e => by omega) (O3.trans O4) T4 eq3
    · rw [if_neg hlast]
      refine ⟨by omega, q, _, lstOf_ref eq2, _, by rw [ei]; exact ixN_nat (by rw [List.length_map, hL]; exact hmk), ?_⟩
      rw [est]
      exact fin rest m2 (Nat.le_refl _) (fun _ => rfl) O3 T3 eq2
  · rintro s' m2 ⟨c6, c7, L, rest, rfl, hL, hsum, h0, he, eq2, O3, T3⟩
    refine ⟨trivial, ?_⟩
    walk_at "pd"
    exact ⟨_, seqOf_ref eq2, sub_refl_fin (h L m2 hL (by have := he rfl; omega) O3 T3)⟩
def sp__law_between : SpD := fun ds m Q => ∃ (l : Tx) (i j : Nat), ds = [.str (tx l), .int (i : Int), .int (j : Int)] ∧ l.length ≤ 1000 ∧ i ≤ j ∧ j ≤ l.length ∧ Q (.str (tx ((l.drop i).take (j - i)))) m
theorem ok__law_between  (T : Txt K mg)  : FnOk P w K mg base CX0 (1) T.f__law_between T.fd__law_between ["_law_text_here", "_law_start", "_law_end"] (spL K 3 sp__law_between) := by
  refine fn_ok T.F__law_between sc__law_between (fun cdv A outer s H E hr =>
(gss_one (gs_ret (ge_join ge_str (ge_lc (own := [("_law_place", 3)]) rfl sc__law_between.nd (gi_rng1 (by rfl) T.z_range (ga_cons (ge_callB call_lenU lc_len (by rfl) T.z_len PySem.boot_len (ga_cons (gv 0) ga_nil)) ga_nil)) (blkOk_by (N := N__law_between) (sc := defScope s__law_between) (by decide +kernel)) (fun _ _ _ _ _ => (gg_name (i := 3) sc__law_between.nd rfl (.inl rfl))) (fun _ _ _ _ _ => (gts_one (gt_chain (op_leS hr.units) (op_ltS hr.units) lr_leP lr_ltP (gv 1) (gv 3) (gv 2)))) (fun _ _ _ _ _ => (ge_ix (gv 0) (gv 3))) (by decide)))))) (fun ds m Q h => ?_)
  obtain ⟨l, i, j, rfl, hl, hij, hj, h⟩ := h
  rw [show startD N__law_between [.str (tx l), .int (i : Int), .int (j : Int)] = [some (.str (tx l)), some (.int (i : Int)), some (.int (j : Int)), none] from rfl]
  walk_at "pd"
  refine ⟨_, rfl, Nat.le_trans hl (by decide), by omega, by omega, fun p hp => ?_⟩
  rw [show ((l.length : Int)).toNat = l.length from rfl, show rangeD 0 l.length = (List.range l.length).map fun (z : Nat) => D.int (z : Int) from by unfold rangeD; simp]
  refine comp_pT (st := fun _ => True) (us := List.range l.length) (fun (z : Nat) => D.int (z : Int)) (fun z => .str (tx [l.getD z 0])) (fun z => decide (i ≤ z ∧ z < j)) (fun _ => trivial) (by rw [List.length_range]; omega) (fun z hz acc R3 R4 k3 k4 => ?_) ?_
  · have hz := List.mem_range.mp hz
    walk_at "pd"
    have ez : l[z]? = some (l.getD z 0) := by rw [List.getD_eq_getElem?_getD, List.getElem?_eq_getElem hz]; rfl
    by_cases h1 : i ≤ z
    · rw [if_pos (by simp; omega)]
      by_cases h2 : z < j
      · rw [if_pos (by omega)]
        exact ⟨Nat.le_trans hl (by decide), _, atI_nat ez, k3 (by simp [h1, h2])⟩
      · rw [if_neg (by omega)]; exact k4 (by simp [h2])
    · rw [if_neg (by simp; omega)]; exact k4 (by simp [h1])
  · have e := between_eq l i j l.length (Nat.le_refl _)
    rw [List.take_length] at e
    have e2 : ((List.range l.length).filter fun z => decide (i ≤ z ∧ z < j)).map (fun z => D.str (tx [l.getD z 0])) = ((l.drop i).take (j - i)).map fun c => D.str (tx [c]) := by
      rw [← e, List.map_map]; rfl
    rw [e2]
    obtain ⟨ys, y1, y2, _⟩ := joined (Q := fun _ _ => True) (l := (l.drop i).take (j - i)) (m2 := mset m p (.lst (((l.drop i).take (j - i)).map fun c => D.str (tx [c])))) (by rw [List.length_take, List.length_drop]; omega) mset_same trivial
    have ey : ys = ((l.drop i).take (j - i)).map fun c => tx [c] := by
      rw [seqOf_ref mset_same] at y1
      injection y1 with y1
      clear y2 e2 e h
      generalize (l.drop i).take (j - i) = ll at y1
      induction ll generalizing ys with
      | nil => cases ys with
        | nil => rfl
        | cons y ys => cases y1
      | cons c ll ih => cases ys with
        | nil => cases y1
        | cons y ys =>
          rw [List.map_cons, List.map_cons] at y1
          injection y1 with y3 y4
          injection y3 with y3
          rw [List.map_cons, ← ih ys y4, y3]
    refine ⟨ys, y1, y2, m, .new hp, ?_⟩
    rw [ey, join_sg]
    exact h
end
/-- the dress with the first sign at sign places, nothing else -/
def plTx (c : Nat) (w : MW) : Tx := match w with | .sign => [c] | _ => []
def plK (c : Nat) : Knd → D
  | none => .non
  | some ws => .tup (ws.map fun w => .str (tx (plTx c w)))
def plD (c : Nat) (ks : List Knd) : D := .tup (ks.map (plK c))
section
variable {P : Program} {w : World} {K : PySem.W.Frag} {mg : Str → Option Value} {base : Heap}
def sp__plain_texts (C : Addr) : SpD := fun ds m Q => ∃ (p : Prog) (nv sv fv av : D) (c : Nat) (sg : List Nat) (k : Knd), ds = [bookD C p nv sv fv av, kindD k] ∧ p.sg = c :: sg ∧ sg.length ≤ 10 ∧ (∀ ws, k = some ws → ws.length ≤ 10) ∧ Q (plK c k) m
theorem ok__plain_texts  (T : Txt K mg)  : FnOk P w K mg base CX0 (1) T.f__plain_texts T.fd__plain_texts ["book", "kind"] (spL K 2 (sp__plain_texts T.c_Book)) := by
  refine fn_ok T.F__plain_texts sc__plain_texts (fun cdv A outer s H E hr =>
(gss_cons (gs_if (gt_cmpR (op_eqS hr.units) lr_eq (gv 1) ge_str (nomark _))
 (gss_one (gs_ret ge_non))
 gss_nil)
 (gss_one (gs_ret (ge_callTy call_tuple_of lc_tuple (by rfl) T.z_tuple (by decide +kernel) (ga_cons (ge_lc (own := [("word", 2)]) rfl sc__plain_texts.nd (gi_seq (gv 1)) (blkOk_by (N := N__plain_texts) (sc := defScope s__plain_texts) (by decide +kernel)) (fun _ _ _ _ _ => (gg_name (i := 2) sc__plain_texts.nd rfl (.inl rfl))) (fun _ _ _ _ _ => gts_nil) (fun _ _ _ _ _ => (ge_ifE (gt_cmpR (op_eqS hr.units) lr_eq (gv 2) ge_str (nomark _)) (ge_ix (ge_fldO T.cls_Book T.na_Book_signs (gv 0)) ge_int) ge_str)) (by decide)) ga_nil)))))) (fun ds m Q h => ?_)
  obtain ⟨p, nv, sv, fv, av, c, sg, k, rfl, hsg, hl, hk, h⟩ := h
  rw [show startD N__plain_texts [bookD T.c_Book p nv sv fv av, kindD k] = [some (bookD T.c_Book p nv sv fv av), some (kindD k), none] from rfl]
  cases k with
  | none =>
    rw [show kindD none = .str "lot" from rfl]
    walk_at "pd"
    exact sub_refl_fin h
  | some ws =>
    rw [show kindD (some ws) = .tup (ws.map fun w => .str w.s) from rfl]
    walk_at "pd"
    intro q hq
    have hw := hk ws rfl
    refine comp_all (st := fun _ => True) (us := ws) (fun w : MW => D.str w.s) (fun w => .str (tx (plTx c w))) (fun _ => trivial) (by omega) (fun z hz acc R2 k2 => ?_) ?_
    · unfold bookD
      have hsz : (c :: sg).length ≤ sizeLine := Nat.le_trans (by rw [List.length_cons]; omega : _ ≤ 11) (by decide)
      cases z with
      | sign =>
        rw [show MW.sign.s = ("sign" : Str) from rfl]
        walk_at "pd"
        rw [hsg]
        exact ⟨hsz, c, atI_0, k2⟩
      | none =>
        rw [show MW.none.s = ("none" : Str) from rfl]
        walk_at "pd"
        exact k2
      | run =>
        rw [show MW.run.s = ("run" : Str) from rfl]
        walk_at "pd"
        exact k2
    · exact ⟨_, seqOf_ref mset_same, m, .new hq, h⟩
def sp_plain_dress (C : Addr) : SpD := fun ds m Q => ∃ (p : Prog) (nv sv fv av : D) (c : Nat) (sg : List Nat) (ks : List Knd), ds = [bookD C p nv sv fv av, kindsD ks] ∧ p.sg = c :: sg ∧ sg.length ≤ 10 ∧ ks.length ≤ 10 ∧ (∀ ws, some ws ∈ ks → ws.length ≤ 10) ∧ Q (plD c ks) m
theorem ok_plain_dress  (T : Txt K mg) (G__plain_texts : FnOk P w K mg base CX0 (1) T.f__plain_texts T.fd__plain_texts ["book", "kind"] (spL K 2 (sp__plain_texts T.c_Book))) : FnOk P w K mg base CX0 (2) T.f_plain_dress T.fd_plain_dress ["book", "kinds"] (spL K 2 (sp_plain_dress T.c_Book)) := by
  refine fn_ok T.F_plain_dress sc_plain_dress (fun cdv A outer s H E hr =>
(gss_one (gs_ret (ge_callTy call_tuple_of lc_tuple (by rfl) T.z_tuple (by decide +kernel) (ga_cons (ge_lc (own := [("kind", 2)]) rfl sc_plain_dress.nd (gi_seq (gv 1)) (blkOk_by (N := N_plain_dress) (sc := defScope s_plain_dress) (by decide +kernel)) (fun _ _ _ _ _ => (gg_name (i := 2) sc_plain_dress.nd rfl (.inl rfl))) (fun _ _ _ _ _ => gts_nil) (fun _ _ _ _ _ => (ge_call G__plain_texts (hr.mono (by omega)) (by rfl) T.g__plain_texts T.F__plain_texts.kp T.b__plain_texts (ga_cons (gv 0) (ga_cons (gv 2) ga_nil)))) (by decide)) ga_nil))))) (fun ds m Q h => ?_)
  obtain ⟨p, nv, sv, fv, av, c, sg, ks, rfl, hsg, hl, hk, hw, h⟩ := h
  unfold kindsD
  rw [show startD N_plain_dress [bookD T.c_Book p nv sv fv av, .tup (ks.map kindD)] = [some (bookD T.c_Book p nv sv fv av), some (.tup (ks.map kindD)), none] from rfl]
  walk_at "pd"
  intro q hq
  refine comp_all (st := fun _ => True) (us := ks) kindD (plK c) (fun _ => trivial) (by omega) (fun z hz acc R2 k2 => ?_) ?_
  · walk_at "pd"
    exact ⟨p, nv, sv, fv, av, c, sg, z, rfl, hsg, hl, fun ws e => hw ws (by rw [← e]; exact hz), k2⟩
  · exact ⟨_, seqOf_ref mset_same, m, .new hq, h⟩
def sp__law_plain : SpD := fun ds m Q => ∃ (y : Way) (c : Nat), ds = [y.d, .str (tx [c])] ∧ y.ps.length ≤ 10 ∧ (∀ ms, Piece.plain ms ∈ y.ps → ms.length ≤ 10) ∧ Q (plD c y.k) m
theorem ok__law_plain  (T : Txt K mg)  : FnOk P w K mg base CX0 (1) T.f__law_plain T.fd__law_plain ["_law_branch", "_law_first"] (spL K 2 sp__law_plain) := by
  refine fn_ok T.F__law_plain sc__law_plain (fun cdv A outer s H E hr =>
(gss_cons (gs_set (i := 2) sc__law_plain.nd rfl (.inl rfl) (ge_lst ga_nil))
 (gss_cons (gs_for PassesOwn.never rfl (gi_seq (ge_ix (gv 0) ge_int)) (gg_name (i := 3) sc__law_plain.nd rfl (.inl rfl))
 (gss_one (gs_if (gt_cmpR (op_eqS hr.units) lr_eq (ge_ix (gv 3) ge_int) ge_str (nomark _))
 (gss_one (gs_expr (ge_bm PySem.F.slot_list_append PySem.F.type_list_append mt_append lm_append (gv 2) (ga_cons ge_non ga_nil))))
 (gss_one (gs_expr (ge_bm PySem.F.slot_list_append PySem.F.type_list_append mt_append lm_append (gv 2) (ga_cons (ge_callTy call_tuple_of lc_tuple (by rfl) T.z_tuple (by decide +kernel) (ga_cons (ge_lc (own := [("_law_mark_here", 4)]) rfl sc__law_plain.nd (gi_seq (ge_ix (gv 3) ge_int)) (blkOk_by (N := N__law_plain) (sc := defScope s__law_plain) (by decide +kernel)) (fun _ _ _ _ _ => (gg_name (i := 4) sc__law_plain.nd rfl (.inl rfl))) (fun _ _ _ _ _ => gts_nil) (fun _ _ _ _ _ => (ge_op op_mulL lr_mulL (gv 1) (ge_callTy call_int1 lc_int (by rfl) T.z_int (by decide +kernel) (ga_cons (ge_cmpR (op_eqS hr.units) lr_eq (ge_ix (gv 4) ge_int) ge_str (nomark _)) ga_nil)))) (by decide)) ga_nil)) ga_nil)))))))
 (gss_one (gs_ret (ge_callTy call_tuple_of lc_tuple (by rfl) T.z_tuple (by decide +kernel) (ga_cons (gv 2) ga_nil))))))) (fun ds m Q h => ?_)
  obtain ⟨y, c, rfl, h1, h2, h⟩ := h
  rw [show y.d = .tup [.str y.mr, .tup (y.ps.map Piece.d), .tup (y.ts.map Test.d)] from rfl]
  rw [show startD N__law_plain [.tup [.str y.mr, .tup (y.ps.map Piece.d), .tup (y.ts.map Test.d)], .str (tx [c])] = [some (.tup [.str y.mr, .tup (y.ps.map Piece.d), .tup (y.ts.map Test.d)]), some (.str (tx [c])), none, none, none] from rfl]
  walk_at "pd"
  intro p hp
  refine loop_pre (fun pre s' m' => ∃ (c3 : Option D), s' = [some (.tup [.str y.mr, .tup (y.ps.map Piece.d), .tup (y.ts.map Test.d)]), some (.str (tx [c])), some (.ref p), c3, none] ∧ pre.length ≤ 10 ∧ m' p = some (.lst (pre.map fun q => plK c q.k)) ∧ PD.Sub m m') Piece.d (fun _ _ _ _ => trivial) ?_ ?_ ⟨_, rfl, Nat.zero_le _, mset_same, .new hp⟩
  · rintro pre q post e s' m1 R ⟨c3, rfl, hpl, ep, S1⟩ hR
    have hpl' : pre.length + 1 ≤ 10 := by have := congrArg List.length e; simp at this; omega
    have app : ∀ m2, PD.Sub m m2 → m2 p = some (.lst (pre.map fun q => plK c q.k)) → ∃ a_1 es, lstOf m2 (.ref p) = some (a_1, es) ∧ es.length < sizeLine ∧ R [some (.tup [.str y.mr, .tup (y.ps.map Piece.d), .tup (y.ts.map Test.d)]), some (.str (tx [c])), some (.ref p), some q.d, none] (mset m2 a_1 (.lst (es ++ [plK c q.k]))) := fun m2 S2 ep2 => by
      refine ⟨p, _, lstOf_ref ep2, by rw [List.length_map]; exact Nat.lt_of_le_of_lt hpl (by decide), hR _ _ ⟨_, rfl, by rw [List.length_append, List.length_singleton]; exact hpl', by rw [mset_same, List.map_append]; rfl, fun x o ex => ?_⟩⟩
      rw [mset_ne (fun z => by rw [z, hp] at ex; cases ex)]; exact S2 _ _ ex
    cases q with
    | lot nm =>
      rw [show (Piece.lot nm).d = .tup [.str "lot", .str nm] from rfl] at app ⊢
      walk_at "pd"
      exact ⟨⟨_, _, lstOf_ref ep⟩, app m1 S1 ep⟩
    | plain ms =>
      have hms := h2 ms (by rw [e]; simp)
      rw [show (Piece.plain ms).d = .tup [.str "plain", .tup (ms.map Mark.d)] from rfl] at app ⊢
      walk_at "pd"
      refine ⟨⟨_, _, lstOf_ref ep⟩, fun u hu => ?_⟩
      refine comp_all (st := fun _ => True) (us := ms) Mark.d (fun k => .str (tx (plTx c k.w))) (fun _ => trivial) (by omega) (fun z hz acc R2 k2 => ?_) ?_
      · cases z with
        | sign l =>
          rw [show (Mark.sign l).d = .tup [.str "sign", .str (tx l)] from rfl]
          walk_at "pd"
          rw [show repS (tx [c]) (Int.toNat 1) = tx [c] from repS_one _]
          exact k2
        | none =>
          rw [show Mark.none.d = .tup [.str "none"] from rfl]
          walk_at "pd"
          exact k2
        | run lo hi =>
          rw [show (Mark.run lo hi).d = .tup [.str "run", .int lo, oi hi] from rfl]
          walk_at "pd"
          exact k2
      · refine ⟨_, seqOf_ref mset_same, ?_⟩
        have := app _ (S1.trans (.new hu)) (mset_new (o := .lst (ms.map fun k => D.str (tx (plTx c k.w)))) hu ep)
        rw [show plK c (Piece.plain ms).k = .tup (ms.map fun k => D.str (tx (plTx c k.w))) from by show D.tup ((ms.map Mark.w).map fun w => .str (tx (plTx c w))) = _; rw [List.map_map]; rfl] at this
        exact this
  · rintro s' m1 ⟨c3, rfl, hpl, ep, S1⟩
    walk_at "pd"
    refine ⟨_, seqOf_ref ep, m, S1, ?_⟩
    rw [show D.tup (y.ps.map fun q => plK c q.k) = plD c y.k from by unfold plD Way.k; rw [List.map_map]; rfl]
    exact h
end
theorem sub_none {m m' : Mu} {p : Addr} (S : PD.Sub m m') (h : m' p = none) : m p = none := by
  cases e : m p with
  | none => rfl
  | some o => rw [S _ _ e] at h; cases h
theorem sum_cast : ∀ l : List Nat, (l.map fun (w : Nat) => (w : Int)).sum = ((l.sum : Nat) : Int)
  | [] => rfl
  | w :: l => by rw [List.map_cons, List.sum_cons, List.sum_cons, sum_cast l]; rfl
/-- the stretch of piece i, side by side -/
def rowS (st : List (Int × Int)) (cs : List (List Nat)) (i : Nat) : List (Int × Int) := (st.zip cs).map fun p => (p.1.1 + (((p.2.take i).sum : Nat) : Int), p.1.1 + (((p.2.take (i + 1)).sum : Nat) : Int))
theorem pst_rows {st : List (Int × Int)} {cs : List (List Nat)} {k : Nat} (hl : st.length = cs.length) (hn : st.length = 1 ∨ st.length = 2) (hc : ∀ c ∈ cs, c.length = k) : pst (st.map (·.1)) cs = (List.range k).map (rowS st cs) := by
  apply List.ext_getElem?
  intro i
  rcases hn with h1 | h2
  · obtain ⟨q, rfl⟩ := List.length_eq_one_iff.mp h1
    obtain ⟨c, rfl⟩ := List.length_eq_one_iff.mp (hl.symm.trans h1)
    have hk := hc c (by simp)
    show ((pal q.1 c).map fun p => [p])[i]? = _
    by_cases hi : i < k
    · rw [List.getElem?_map, pal_get _ _ _ (by omega), List.getElem?_map, List.getElem?_range hi]; rfl
    · rw [List.getElem?_eq_none (by rw [List.length_map, pal_len]; omega), List.getElem?_eq_none (by rw [List.length_map, List.length_range]; omega)]
  · obtain ⟨q, q', rfl⟩ := len_two h2
    obtain ⟨c, c', rfl⟩ := len_two (hl.symm.trans h2)
    have hk := hc c (by simp)
    have hk' := hc c' (by simp)
    show (((pal q.1 c).zip (pal q'.1 c')).map fun p => [p.1, p.2])[i]? = _
    by_cases hi : i < k
    · rw [List.getElem?_map, List.getElem?_zip_eq_some.mpr (show (pal q.1 c)[i]? = some (_, _).1 ∧ (pal q'.1 c')[i]? = some (_, _).2 from ⟨pal_get _ _ _ (by omega), pal_get _ _ _ (by omega)⟩), List.getElem?_map, List.getElem?_range hi]; rfl
    · rw [List.getElem?_eq_none (by rw [List.length_map, List.length_zip, pal_len, pal_len]; omega), List.getElem?_eq_none (by rw [List.length_map, List.length_range]; omega)]
section
variable {P : Program} {w : World} {K : PySem.W.Frag} {mg : Str → Option Value} {base : Heap}
def sp__law_due : SpD := fun ds m Q => ∃ (y : Way) (R : List Tx) (st : List (Nat × Nat)) (cs : List (List Nat)) (n : Nat), ds = [y.d, rowsD R, stD (st.map fun p => ((p.1 : Int), (p.2 : Int))), cutsD cs] ∧ R.length = n ∧ st.length = n ∧ cs.length = n ∧ (n = 1 ∨ n = 2) ∧ y.ps.length ≤ 10 ∧ (∀ c ∈ cs, c.length = y.ps.length) ∧ (∀ (j : Nat) l p c, R[j]? = some l → st[j]? = some p → cs[j]? = some c → l.length ≤ 1000 ∧ p.1 + c.sum ≤ l.length) ∧
    Q (.tup [.tup ((pst (st.map fun p => (p.1 : Int)) cs).map stD), drD ((y.ps.zip (pst (st.map fun p => (p.1 : Int)) cs)).map (txOf R))]) m
theorem ok__law_due  (T : Txt K mg) (G__law_between : FnOk P w K mg base CX0 (1) T.f__law_between T.fd__law_between ["_law_text_here", "_law_start", "_law_end"] (spL K 3 sp__law_between)) : FnOk P w K mg base CX0 (2) T.f__law_due T.fd__law_due ["_law_branch", "_law_texts", "_law_span_here", "_law_parting_here"] (spL K 4 sp__law_due) := by
  refine fn_ok T.F__law_due sc__law_due (fun cdv A outer s H E hr =>
(gss_cons (gs_set (i := 4) sc__law_due.nd rfl (.inl rfl) (ge_ix (gv 0) ge_int))
 (gss_cons (gs_set (i := 5) sc__law_due.nd rfl (.inl rfl) (ge_lst ga_nil))
 (gss_cons (gs_set (i := 6) sc__law_due.nd rfl (.inl rfl) (ge_lst ga_nil))
 (gss_cons (gs_for PassesOwn.never rfl (gi_rng1 (by rfl) T.z_range (ga_cons (ge_callB call_lenU lc_len (by rfl) T.z_len PySem.boot_len (ga_cons (gv 4) ga_nil)) ga_nil)) (gg_name (i := 7) sc__law_due.nd rfl (.inl rfl))
 (gss_cons (gs_set (i := 8) sc__law_due.nd rfl (.inl rfl) (ge_lst ga_nil))
 (gss_cons (gs_for PassesOwn.never rfl (gi_rng1 (by rfl) T.z_range (ga_cons (ge_callB call_lenU lc_len (by rfl) T.z_len PySem.boot_len (ga_cons (gv 1) ga_nil)) ga_nil)) (gg_name (i := 9) sc__law_due.nd rfl (.inl rfl))
 (gss_cons (gs_set (i := 10) sc__law_due.nd rfl (.inl rfl) (ge_op op_addL lr_addL (ge_ix (ge_ix (gv 2) (gv 9)) ge_int) (ge_callB (cr_sumS rfl) lc_sumL (by rfl) T.z_sum (by decide +kernel) (ga_cons (ge_sliceL (ge_ix (gv 3) (gv 9)) go_none (go_some (gv 7))) ga_nil))))
 (gss_one (gs_expr (ge_bm PySem.F.slot_list_append PySem.F.type_list_append mt_append lm_append (gv 8) (ga_cons (ge_tup (ga_cons (gv 10) (ga_cons (ge_op op_addL lr_addL (gv 10) (ge_ix (ge_ix (gv 3) (gv 9)) (gv 7))) ga_nil))) ga_nil))))))
 (gss_cons (gs_expr (ge_bm PySem.F.slot_list_append PySem.F.type_list_append mt_append lm_append (gv 5) (ga_cons (ge_callTy call_tuple_of lc_tuple (by rfl) T.z_tuple (by decide +kernel) (ga_cons (gv 8) ga_nil)) ga_nil)))
 (gss_one (gs_if (gt_cmpR (op_eqS hr.units) lr_eq (ge_ix (ge_ix (gv 4) (gv 7)) ge_int) ge_str (nomark _))
 (gss_one (gs_expr (ge_bm PySem.F.slot_list_append PySem.F.type_list_append mt_append lm_append (gv 6) (ga_cons ge_non ga_nil))))
 (gss_one (gs_expr (ge_bm PySem.F.slot_list_append PySem.F.type_list_append mt_append lm_append (gv 6) (ga_cons (ge_callTy call_tuple_of lc_tuple (by rfl) T.z_tuple (by decide +kernel) (ga_cons (ge_lc (own := [("_law_text_here", 11), ("_law_place", 12)]) rfl sc__law_due.nd (gi_zipV (by rfl) T.z_zip (ga_cons (gv 1) (ga_cons (gv 8) ga_nil))) (blkOk_by (N := N__law_due) (sc := defScope s__law_due) (by decide +kernel)) (fun _ _ _ _ _ => (gg_tup (n := 2) rfl (ggs_cons (gg_name (i := 11) sc__law_due.nd rfl (.inl rfl)) (ggs_cons (gg_name (i := 12) sc__law_due.nd rfl (.inl rfl)) ggs_nil)))) (fun _ _ _ _ _ => gts_nil) (fun _ _ _ _ _ => (ge_call G__law_between (hr.mono (by omega)) (by rfl) T.g__law_between T.F__law_between.kp T.b__law_between (ga_cons (gv 11) (ga_cons (ge_ix (gv 12) ge_int) (ga_cons (ge_ix (gv 12) ge_int) ga_nil))))) (by decide)) ga_nil)) ga_nil))))))))))
 (gss_one (gs_ret (ge_tup (ga_cons (ge_callTy call_tuple_of lc_tuple (by rfl) T.z_tuple (by decide +kernel) (ga_cons (gv 5) ga_nil)) (ga_cons (ge_callTy call_tuple_of lc_tuple (by rfl) T.z_tuple (by decide +kernel) (ga_cons (gv 6) ga_nil)) ga_nil)))))))))) (fun ds m Q h => ?_)
  obtain ⟨y, R, st, cs, n, rfl, hR, hst, hcs, hn, hp, hc, hlen, h⟩ := h
  rw [show y.d = .tup [.str y.mr, .tup (y.ps.map Piece.d), .tup (y.ts.map Test.d)] from rfl, show rowsD R = .tup (R.map fun l => .str (tx l)) from rfl, show stD (st.map fun p => ((p.1 : Int), (p.2 : Int))) = .tup ((st.map fun p => ((p.1 : Int), (p.2 : Int))).map pairI) from rfl, show cutsD cs = .tup (cs.map fun c => .tup (c.map fun (w : Nat) => .int (w : Int))) from rfl]
  rw [show startD N__law_due [.tup [.str y.mr, .tup (y.ps.map Piece.d), .tup (y.ts.map Test.d)], .tup (R.map fun l => .str (tx l)), .tup ((st.map fun p => ((p.1 : Int), (p.2 : Int))).map pairI), .tup (cs.map fun c => .tup (c.map fun (w : Nat) => .int (w : Int)))] = [some (.tup [.str y.mr, .tup (y.ps.map Piece.d), .tup (y.ts.map Test.d)]), some (.tup (R.map fun l => .str (tx l))), some (.tup ((st.map fun p => ((p.1 : Int), (p.2 : Int))).map pairI)), some (.tup (cs.map fun c => .tup (c.map fun (w : Nat) => .int (w : Int)))), none, none, none, none, none, none, none, none, none] from rfl]
  walk_at "pd"
  intro p hpp p1 hpp1
  have hp1m : m p1 = none := (mset_none hpp1).1
  have p1p : p1 ≠ p := (mset_none hpp1).2
  rw [List.length_map]
  refine ⟨by omega, by omega, ?_⟩
  rw [show ((y.ps.length : Int)).toNat = y.ps.length from rfl]
  generalize hst' : (st.map fun p => ((p.1 : Int), (p.2 : Int))) = st'
  have hstl : st'.length = n := by rw [← hst', List.length_map]; exact hst
  have hX : pst (st.map fun p => (p.1 : Int)) cs = (List.range y.ps.length).map (rowS st' cs) := by
    have := pst_rows (st := st') (cs := cs) (by omega) (by omega) hc
    rw [← hst', List.map_map] at this
    rw [← hst']; exact this
  rw [hX] at h
  have hzl : (y.ps.zip ((List.range y.ps.length).map (rowS st' cs))).length = y.ps.length := by rw [List.length_zip, List.length_map, List.length_range, Nat.min_self]
  have hrl : ∀ i, (rowS st' cs i).length = n := fun i => by unfold rowS; rw [List.length_map, List.length_zip]; omega
  refine loop_range (fun i s' m' => ∃ (c7 c8 c9 c10 : Option D), s' = [some (.tup [.str y.mr, .tup (y.ps.map Piece.d), .tup (y.ts.map Test.d)]), some (.tup (R.map fun l => .str (tx l))), some (.tup (st'.map pairI)), some (.tup (cs.map fun c => .tup (c.map fun (w : Nat) => .int (w : Int)))), some (.tup (y.ps.map Piece.d)), some (.ref p), some (.ref p1), c7, c8, c9, c10, none, none] ∧ m' p = some (.lst ((((List.range y.ps.length).map (rowS st' cs)).take i).map stD)) ∧ m' p1 = some (.lst (((y.ps.zip ((List.range y.ps.length).map (rowS st' cs))).take i).map fun z => ptD (txOf R z))) ∧ PD.Sub m m') ?_ ?_ ⟨_, _, _, _, rfl, by rw [mset_ne (Ne.symm p1p)]; exact mset_same, mset_same, (PD.Sub.new hpp).trans (.new hpp1)⟩
  · rintro i s' m1 R1 hi hR1 ⟨c7, c8, c9, c10, rfl, ep, ep1, S1⟩
    refine ⟨trivial, ?_⟩
    have exi : ((List.range y.ps.length).map (rowS st' cs))[i]? = some (rowS st' cs i) := by rw [List.getElem?_map, List.getElem?_range hi]; rfl
    have eqi : y.ps[i]? = some (y.ps[i]'hi) := List.getElem?_eq_getElem hi
    generalize y.ps[i]'hi = q at eqi
    have ezi : (y.ps.zip ((List.range y.ps.length).map (rowS st' cs)))[i]? = some (q, rowS st' cs i) := List.getElem?_zip_eq_some.mpr ⟨eqi, exi⟩
    walk_at "pd"
    intro u hu
    have up : p ≠ u := fun z => by rw [← z, ep] at hu; cases hu
    have up1 : p1 ≠ u := fun z => by rw [← z, ep1] at hu; cases hu
    have hum := sub_none S1 hu
    rw [List.length_map, hR]
    refine ⟨by omega, by omega, ?_⟩
    rw [show ((n : Int)).toNat = n from rfl]
    refine loop_range (fun j s' m' => ∃ (c9 c10 : Option D), s' = [some (.tup [.str y.mr, .tup (y.ps.map Piece.d), .tup (y.ts.map Test.d)]), some (.tup (R.map fun l => .str (tx l))), some (.tup (st'.map pairI)), some (.tup (cs.map fun c => .tup (c.map fun (w : Nat) => .int (w : Int)))), some (.tup (y.ps.map Piece.d)), some (.ref p), some (.ref p1), some (.int (i : Int)), some (.ref u), c9, c10, none, none] ∧ m' u = some (.lst (((rowS st' cs i).take j).map pairI)) ∧ PD.Sub m1 m') ?_ ?_ ⟨_, _, rfl, mset_same, .new hu⟩
    · rintro j s' m2 R2 hj hR2 ⟨c9, c10, rfl, eu, S2⟩
      refine ⟨trivial, ?_⟩
      obtain ⟨pr, epr⟩ : ∃ pr, st'[j]? = some pr := ⟨_, List.getElem?_eq_getElem (by omega)⟩
      obtain ⟨c, ec⟩ : ∃ c, cs[j]? = some c := ⟨_, List.getElem?_eq_getElem (by omega)⟩
      have erj : (rowS st' cs i)[j]? = some (pr.1 + (((c.take i).sum : Nat) : Int), pr.1 + (((c.take (i + 1)).sum : Nat) : Int)) := by
        unfold rowS
        rw [List.getElem?_map, List.getElem?_zip_eq_some.mpr (show st'[j]? = some (_, _).1 ∧ cs[j]? = some (_, _).2 from ⟨epr, ec⟩)]; rfl
      have hci : i < c.length := by rw [hc c (List.mem_of_getElem? ec)]; exact hi
      have eci : c[i]? = some (c[i]'hci) := List.getElem?_eq_getElem hci
      generalize c[i]'hci = wi at eci
      have esum : (c.take (i + 1)).sum = (c.take i).sum + wi := by rw [take_succ' eci, List.sum_append, List.sum_singleton]
      walk_at "pd"
      refine ⟨_, atI_map epr, ?_⟩
      unfold pairI
      walk_at "pd"
      refine ⟨_, atI_map ec, ?_⟩
      walk_at "pd"
      refine ⟨(c.take i).map fun (w : Nat) => (w : Int), ?_, ⟨_, _, lstOf_ref eu⟩, _, atI_map ec, ?_⟩
      · rw [cut_to, ← List.map_take, List.map_map]; rfl
      refine dIx_seq (es := c.map fun (w : Nat) => .int (w : Int)) rfl (atI_map eci) ?_
      rw [sum_cast]
      walk_at "pd"
      refine ⟨u, _, lstOf_ref eu, ?_, ?_⟩
      · rw [List.length_map, List.length_take, hrl]; exact Nat.lt_of_le_of_lt (by omega : _ ≤ 2) (by decide)
      refine hR2 _ _ ⟨_, _, rfl, ?_, fun x o ex => ?_⟩
      · rw [mset_same, take_succ' erj, List.map_append, esum, Int.natCast_add, ← Int.add_assoc]; rfl
      · rw [mset_ne (fun z => by rw [z, hu] at ex; cases ex)]; exact S2 _ _ ex
    · rintro s' m2 ⟨c9, c10, rfl, eu, S2⟩
      refine ⟨trivial, ?_⟩
      rw [List.take_of_length_le (by rw [hrl]; exact Nat.le_refl _)] at eu
      walk_at "pd"
      have ep2 := S2 _ _ ep
      have ep12 := S2 _ _ ep1
      have hxl : (((List.range y.ps.length).map (rowS st' cs)).take i).length < sizeLine := by rw [List.length_take, List.length_map, List.length_range]; exact Nat.lt_of_le_of_lt (by omega : _ ≤ 10) (by decide)
      refine ⟨⟨_, _, lstOf_ref ep2⟩, _, seqOf_ref eu, p, _, lstOf_ref ep2, by rw [List.length_map]; exact hxl, _, atI_map eqi, ?_⟩
      have ep3 : mset m2 p (.lst ((((List.range y.ps.length).map (rowS st' cs)).take i).map stD ++ [.tup ((rowS st' cs i).map pairI)])) p = some (.lst ((((List.range y.ps.length).map (rowS st' cs)).take (i + 1)).map stD)) := by rw [mset_same, take_succ' exi, List.map_append]; rfl
      have S3 : PD.Sub m (mset m2 p (.lst ((((List.range y.ps.length).map (rowS st' cs)).take i).map stD ++ [.tup ((rowS st' cs i).map pairI)]))) := fun x o ex => by
        rw [mset_ne (fun z => by rw [z, hpp] at ex; cases ex)]; exact S2 _ _ (S1 _ _ ex)
      have ep13 : mset m2 p (.lst ((((List.range y.ps.length).map (rowS st' cs)).take i).map stD ++ [.tup ((rowS st' cs i).map pairI)])) p1 = some (.lst (((y.ps.zip ((List.range y.ps.length).map (rowS st' cs))).take i).map fun z => ptD (txOf R z))) := by rw [mset_ne p1p]; exact ep12
      have eu3 : mset m2 p (.lst ((((List.range y.ps.length).map (rowS st' cs)).take i).map stD ++ [.tup ((rowS st' cs i).map pairI)])) u = some (.lst ((rowS st' cs i).map pairI)) := by rw [mset_ne (Ne.symm up)]; exact eu
      generalize mset m2 p (.lst ((((List.range y.ps.length).map (rowS st' cs)).take i).map stD ++ [.tup ((rowS st' cs i).map pairI)])) = m3 at ep3 S3 ep13 eu3 ⊢
      have hzl2 : ((y.ps.zip ((List.range y.ps.length).map (rowS st' cs))).take i).length < sizeLine := by rw [List.length_take, hzl]; exact Nat.lt_of_le_of_lt (by omega : _ ≤ 10) (by decide)
      have fin : ∀ (m4 : Mu), m4 p = some (.lst ((((List.range y.ps.length).map (rowS st' cs)).take (i + 1)).map stD)) → m4 p1 = some (.lst (((y.ps.zip ((List.range y.ps.length).map (rowS st' cs))).take i).map fun z => ptD (txOf R z))) → PD.Sub m m4 → ∃ a es, lstOf m4 (.ref p1) = some (a, es) ∧ es.length < sizeLine ∧ R1 [some (.tup [.str y.mr, .tup (y.ps.map Piece.d), .tup (y.ts.map Test.d)]), some (.tup (R.map fun l => .str (tx l))), some (.tup (st'.map pairI)), some (.tup (cs.map fun c => .tup (c.map fun (w : Nat) => .int (w : Int)))), some (.tup (y.ps.map Piece.d)), some (.ref p), some (.ref p1), some (.int (i : Int)), some (.ref u), c9, c10, none, none] (mset m4 a (.lst (es ++ [ptD (txOf R (q, rowS st' cs i))]))) := fun m4 e1 e2 S4 => by
        refine ⟨p1, _, lstOf_ref e2, by rw [List.length_map]; exact hzl2, hR1 _ _ ⟨_, _, _, _, rfl, by rw [mset_ne (Ne.symm p1p)]; exact e1, by rw [mset_same, take_succ' ezi, List.map_append]; rfl, fun x o ex => ?_⟩⟩
        rw [mset_ne (fun z => by rw [z, hp1m] at ex; cases ex)]; exact S4 _ _ ex
      cases q with
      | lot nm =>
        rw [show (Piece.lot nm).d = .tup [.str "lot", .str nm] from rfl]
        walk_at "pd"
        exact ⟨⟨_, _, lstOf_ref ep13⟩, fin m3 ep3 ep13 S3⟩
      | plain ms =>
        rw [show (Piece.plain ms).d = .tup [.str "plain", .tup (ms.map Mark.d)] from rfl]
        walk_at "pd"
        refine ⟨⟨_, _, lstOf_ref ep13⟩, ?_⟩
        unfold dIZipV
        walk_at "pd"
        refine ⟨_, _, _, rfl, lsq_ref eu3, fun v hv => ?_⟩
        rw [zipD_map]
        refine comp_all (us := R.zip (rowS st' cs i)) (fun z : Tx × (Int × Int) => D.tup [.str (tx z.1), pairI z.2]) (fun z => .str (tx ((z.1.drop z.2.1.toNat).take (z.2.2 - z.2.1).toNat))) (fun _ => lsq_ref (mset_new hv eu3)) (by rw [List.length_zip]; omega) (fun z hz acc R3 k3 => ?_) ?_
        · obtain ⟨j, hj⟩ := List.mem_iff_getElem?.mp hz
          obtain ⟨j1, j2⟩ := List.getElem?_zip_eq_some.mp hj
          have hjn := (List.getElem?_eq_some_iff.mp j1).1
          obtain ⟨pr, epr⟩ : ∃ pr, st[j]? = some pr := ⟨_, List.getElem?_eq_getElem (by omega)⟩
          obtain ⟨c, ec⟩ : ∃ c, cs[j]? = some c := ⟨_, List.getElem?_eq_getElem (by omega)⟩
          obtain ⟨g1, g2⟩ := hlen j _ _ _ j1 epr ec
          have epr' : st'[j]? = some ((pr.1 : Int), (pr.2 : Int)) := by rw [← hst', List.getElem?_map, epr]; rfl
          have ez2 : z.2 = ((pr.1 : Int) + (((c.take i).sum : Nat) : Int), (pr.1 : Int) + (((c.take (i + 1)).sum : Nat) : Int)) := by
            unfold rowS at j2
            rw [List.getElem?_map, List.getElem?_zip_eq_some.mpr (show st'[j]? = some (_, _).1 ∧ cs[j]? = some (_, _).2 from ⟨epr', ec⟩)] at j2
            injection j2 with j2
            exact j2.symm
          have hs : ∀ (l : List Nat) (k : Nat), (l.take k).sum ≤ (l.take (k + 1)).sum ∧ (l.take k).sum ≤ l.sum := fun l => by
            induction l with
            | nil => intro k; simp
            | cons w l ih =>
              intro k
              cases k with
              | zero => simp
              | succ k => rw [List.take_succ_cons, List.take_succ_cons, List.sum_cons, List.sum_cons, List.sum_cons]; have := ih k; omega
          have h1 := hs c i
          have h2 := hs c (i + 1)
          rw [ez2] at k3 ⊢
          unfold pairI
          walk_at "pd"
          refine ⟨z.1, pr.1 + (c.take i).sum, pr.1 + (c.take (i + 1)).sum, by rw [Int.natCast_add, Int.natCast_add], g1, by omega, by omega, ?_⟩
          have e1 : ((pr.1 : Int) + (((c.take i).sum : Nat) : Int)).toNat = pr.1 + (c.take i).sum := by omega
          have e2 : (((pr.1 : Int) + (((c.take (i + 1)).sum : Nat) : Int)) - ((pr.1 : Int) + (((c.take i).sum : Nat) : Int))).toNat = pr.1 + (c.take (i + 1)).sum - (pr.1 + (c.take i).sum) := by omega
          dsimp only at k3
          rw [e1, e2] at k3
          exact k3
        · refine ⟨_, seqOf_ref mset_same, ?_⟩
          have := fin _ (mset_new (o := .lst ((R.zip (rowS st' cs i)).map fun z => D.str (tx ((z.1.drop z.2.1.toNat).take (z.2.2 - z.2.1).toNat)))) hv ep3) (mset_new hv ep13) (S3.trans (.new hv))
          rw [show ptD (txOf R (Piece.plain ms, rowS st' cs i)) = .tup ((R.zip (rowS st' cs i)).map fun z => D.str (tx ((z.1.drop z.2.1.toNat).take (z.2.2 - z.2.1).toNat))) from by show wordsD (txIn R _) = _; unfold wordsD txIn; rw [List.map_map]; rfl] at this
          exact this
  · rintro s' m1 ⟨c7, c8, c9, c10, rfl, ep, ep1, S1⟩
    refine ⟨trivial, ?_⟩
    walk_at "pd"
    rw [List.take_of_length_le (by rw [List.length_map, List.length_range]; exact Nat.le_refl _)] at ep
    rw [List.take_of_length_le (by omega)] at ep1
    refine ⟨_, seqOf_ref ep, _, seqOf_ref ep1, m, S1, ?_⟩
    unfold drD at h
    have e : ((y.ps.zip ((List.range y.ps.length).map (rowS st' cs))).map (txOf R)).map ptD = (y.ps.zip ((List.range y.ps.length).map (rowS st' cs))).map fun z => ptD (txOf R z) := by rw [List.map_map]; rfl
    rw [e] at h
    exact h
end
theorem sam_int {n : Nat} {i : Int} : samD n (.int i) = true := by cases n <;> rfl
theorem sam_str {n : Nat} {z : Str} : samD n (.str z) = true := by cases n <;> rfl
theorem sam_non {n : Nat} : samD n .non = true := by cases n <;> rfl
theorem sam_tup {n : Nat} {xs : List D} (h : xs.length ≤ 100000) (h2 : ∀ x ∈ xs, samD n x = true) : samD (n + 1) (.tup xs) = true := by
  unfold samD
  rw [Bool.and_eq_true, decide_eq_true_eq, List.all_eq_true]; exact ⟨h, h2⟩
theorem sam_map {α : Type} {n : Nat} {f : α → D} {xs : List α} (h : xs.length ≤ 100000) (h2 : ∀ x ∈ xs, samD n (f x) = true) : samD (n + 1) (.tup (xs.map f)) = true :=
  sam_tup (by rw [List.length_map]; exact h) fun d hd => by obtain ⟨x, hx, rfl⟩ := List.mem_map.mp hd; exact h2 x hx
theorem sam_pair {n : Nat} {p : Int × Int} : samD (n + 1) (pairI p) = true := sam_tup (by show 2 ≤ _; omega) fun d hd => by
  simp only [List.mem_cons, List.not_mem_nil, or_false] at hd
  rcases hd with rfl | rfl <;> exact sam_int
theorem sam_st {n : Nat} {st : List (Int × Int)} (h : st.length ≤ 100000) : samD (n + 2) (stD st) = true := sam_map h fun p _ => sam_pair
theorem sam_words {n : Nat} {ls : List (List Nat)} (h : ls.length ≤ 100000) : samD (n + 1) (wordsD ls) = true := sam_map h fun p _ => sam_str
theorem sam_rows {n : Nat} {ls : List (List Nat)} (h : ls.length ≤ 100000) : samD (n + 1) (rowsD ls) = true := sam_map h fun p _ => sam_str
theorem sam_dr {n : Nat} {d : Dr} (h : d.length ≤ 100000) (h2 : ∀ ts, some ts ∈ d → ts.length ≤ 100000) : samD (n + 2) (drD d) = true := sam_map h fun o ho => by
  cases o with
  | none => exact sam_non
  | some ts => exact sam_words (h2 ts ho)
def cI (p : Nat × Nat) : Int × Int := ((p.1 : Int), (p.2 : Int))
theorem txIn_whole : ∀ (R : List Tx), txIn R (R.map fun l => ((0 : Int), (l.length : Int))) = R
  | [] => rfl
  | l :: R => by
    have ih := txIn_whole R
    unfold txIn at ih ⊢
    rw [List.map_cons, List.zip_cons_cons, List.map_cons, ih]
    congr 1
    show (l.drop 0).take ((l.length : Int) - 0).toNat = l
    rw [List.drop_zero, List.take_of_length_le (by omega)]
theorem same_at {n : Nat} {a b : D} {m : Mu} {Q : DK} (e : a = b) (hs : samD n b = true) (h : Q (.bl true) m) : sp__law_same n [a, b] m Q := ⟨b, by rw [e], hs, h⟩
section
variable {P : Program} {w : World} {K : PySem.W.Frag} {mg : Str → Option Value} {base : Heap}
def sp__law_scene_right : SpD := fun ds m Q => ∃ (R : List Tx) (st : List (Nat × Nat)), ds = [rowsD R, stD (st.map cI)] ∧ R.length ≤ 2 ∧ st.length = R.length ∧ (∀ l ∈ R, l.length ≤ 160) ∧ (∀ q ∈ R.zip st, q.2.1 ≤ q.2.2 ∧ q.2.2 ≤ q.1.length) ∧ Q (.bl true) m
theorem ok__law_scene_right  (T : Txt K mg) (G__law_same : FnOk P w K mg base CX0 (90) T.f__law_same T.fd__law_same ["_law_told", "_law_due_here"] (spL K 2 (sp__law_same 250))) (G_texts_in : FnOk P w K mg base CX0 (1) T.f_texts_in T.fd_texts_in ["rows", "stretch"] (spL K 2 sp_texts_in)) (G__law_between : FnOk P w K mg base CX0 (1) T.f__law_between T.fd__law_between ["_law_text_here", "_law_start", "_law_end"] (spL K 3 sp__law_between)) (G_widths_of : FnOk P w K mg base CX0 (1) T.f_widths_of T.fd_widths_of ["stretch"] (spL K 1 sp_widths_of)) (G_whole_of : FnOk P w K mg base CX0 (1) T.f_whole_of T.fd_whole_of ["lengths"] (spL K 1 sp_whole_of)) : FnOk P w K mg base CX0 (91) T.f__law_scene_right T.fd__law_scene_right ["_law_texts", "_law_span_here"] (spL K 2 sp__law_scene_right) := by
  refine fn_ok T.F__law_scene_right sc__law_scene_right (fun cdv A outer s H E hr =>
(gss_cons (gs_set (i := 2) sc__law_scene_right.nd rfl (.inl rfl) (ge_callTy call_tuple_of lc_tuple (by rfl) T.z_tuple (by decide +kernel) (ga_cons (ge_lc (own := [("_law_text_here", 4)]) rfl sc__law_scene_right.nd (gi_seq (gv 0)) (blkOk_by (N := N__law_scene_right) (sc := defScope s__law_scene_right) (by decide +kernel)) (fun _ _ _ _ _ => (gg_name (i := 4) sc__law_scene_right.nd rfl (.inl rfl))) (fun _ _ _ _ _ => gts_nil) (fun _ _ _ _ _ => (ge_callB call_lenU lc_len (by rfl) T.z_len PySem.boot_len (ga_cons (gv 4) ga_nil))) (by decide)) ga_nil)))
 (gss_cons (gs_if (gt_not (gt_val (ge_call G__law_same (hr.mono (by omega)) (by rfl) T.g__law_same T.F__law_same.kp T.b__law_same (ga_cons (ge_call G_whole_of (hr.mono (by omega)) (by rfl) T.g_whole_of T.F_whole_of.kp T.b_whole_of (ga_cons (gv 2) ga_nil)) (ga_cons (ge_callTy call_tuple_of lc_tuple (by rfl) T.z_tuple (by decide +kernel) (ga_cons (ge_lc (own := [("_law_size", 6)]) rfl sc__law_scene_right.nd (gi_seq (gv 2)) (blkOk_by (N := N__law_scene_right) (sc := defScope s__law_scene_right) (by decide +kernel)) (fun _ _ _ _ _ => (gg_name (i := 6) sc__law_scene_right.nd rfl (.inl rfl))) (fun _ _ _ _ _ => gts_nil) (fun _ _ _ _ _ => (ge_tup (ga_cons ge_int (ga_cons (gv 6) ga_nil)))) (by decide)) ga_nil)) ga_nil)))))
 (gss_one (gs_ret ge_bl))
 gss_nil)
 (gss_cons (gs_if (gt_not (gt_val (ge_call G__law_same (hr.mono (by omega)) (by rfl) T.g__law_same T.F__law_same.kp T.b__law_same (ga_cons (ge_call G_texts_in (hr.mono (by omega)) (by rfl) T.g_texts_in T.F_texts_in.kp T.b_texts_in (ga_cons (gv 0) (ga_cons (ge_callK G_whole_of (hr.mono (by omega)) (by rfl) T.g_whole_of T.F_whole_of.kp T.kw_whole_of (gk_cons (gv 2) gk_nil)) ga_nil))) (ga_cons (gv 0) ga_nil)))))
 (gss_one (gs_ret ge_bl))
 gss_nil)
 (gss_cons (gs_if (gt_not (gt_val (ge_call G__law_same (hr.mono (by omega)) (by rfl) T.g__law_same T.F__law_same.kp T.b__law_same (ga_cons (ge_call G_widths_of (hr.mono (by omega)) (by rfl) T.g_widths_of T.F_widths_of.kp T.b_widths_of (ga_cons (gv 1) ga_nil)) (ga_cons (ge_callTy call_tuple_of lc_tuple (by rfl) T.z_tuple (by decide +kernel) (ga_cons (ge_lc (own := [("_law_place", 5)]) rfl sc__law_scene_right.nd (gi_seq (gv 1)) (blkOk_by (N := N__law_scene_right) (sc := defScope s__law_scene_right) (by decide +kernel)) (fun _ _ _ _ _ => (gg_name (i := 5) sc__law_scene_right.nd rfl (.inl rfl))) (fun _ _ _ _ _ => gts_nil) (fun _ _ _ _ _ => (ge_op op_sub lr_sub (ge_ix (gv 5) ge_int) (ge_ix (gv 5) ge_int))) (by decide)) ga_nil)) ga_nil)))))
 (gss_one (gs_ret ge_bl))
 gss_nil)
 (gss_cons (gs_set (i := 3) sc__law_scene_right.nd rfl (.inl rfl) (ge_callTy call_tuple_of lc_tuple (by rfl) T.z_tuple (by decide +kernel) (ga_cons (ge_lc (own := [("_law_text_here", 4), ("_law_place", 5)]) rfl sc__law_scene_right.nd (gi_zipL (by rfl) T.z_zip (ga_cons (gv 0) (ga_cons (gv 1) ga_nil))) (blkOk_by (N := N__law_scene_right) (sc := defScope s__law_scene_right) (by decide +kernel)) (fun _ _ _ _ _ => (gg_tup (n := 2) rfl (ggs_cons (gg_name (i := 4) sc__law_scene_right.nd rfl (.inl rfl)) (ggs_cons (gg_name (i := 5) sc__law_scene_right.nd rfl (.inl rfl)) ggs_nil)))) (fun _ _ _ _ _ => gts_nil) (fun _ _ _ _ _ => (ge_call G__law_between (hr.mono (by omega)) (by rfl) T.g__law_between T.F__law_between.kp T.b__law_between (ga_cons (gv 4) (ga_cons (ge_ix (gv 5) ge_int) (ga_cons (ge_ix (gv 5) ge_int) ga_nil))))) (by decide)) ga_nil)))
 (gss_one (gs_ret (ge_and (ge_call G__law_same (hr.mono (by omega)) (by rfl) T.g__law_same T.F__law_same.kp T.b__law_same (ga_cons (ge_call G_texts_in (hr.mono (by omega)) (by rfl) T.g_texts_in T.F_texts_in.kp T.b_texts_in (ga_cons (gv 0) (ga_cons (gv 1) ga_nil))) (ga_cons (gv 3) ga_nil))) (ge_one (ge_call G__law_same (hr.mono (by omega)) (by rfl) T.g__law_same T.F__law_same.kp T.b__law_same (ga_cons (ge_callP G_texts_in (hr.mono (by omega)) (by rfl) T.g_texts_in T.F_texts_in.kp T.kp_texts_in_1_0 (gk_cons (gv 1) (gk_cons (gv 0) gk_nil))) (ga_cons (gv 3) ga_nil))))))))))))) (fun ds m Q h => ?_)
  obtain ⟨R, st, rfl, hR, hst, hl, hz, h⟩ := h
  rw [show rowsD R = .tup (R.map fun l => .str (tx l)) from rfl, show stD (st.map cI) = .tup ((st.map cI).map pairI) from rfl]
  rw [show startD N__law_scene_right [.tup (R.map fun l => .str (tx l)), .tup ((st.map cI).map pairI)] = [some (.tup (R.map fun l => .str (tx l))), some (.tup ((st.map cI).map pairI)), none, none, none, none, none] from rfl]
  walk_at "pd"
  intro p hp
  refine comp_all (st := fun _ => True) (us := R) (fun l => D.str (tx l)) (fun l => .int (l.length : Int)) (fun _ => trivial) (by omega) (fun z hz acc R2 k2 => ?_) ?_
  · walk_at "pd"
    exact ⟨Nat.le_trans (hl z hz) (by decide), k2⟩
  refine ⟨_, seqOf_ref mset_same, ?_⟩
  have S1 : PD.Sub m (mset m p (.lst (R.map fun l => .int (l.length : Int)))) := .new hp
  generalize mset m p (.lst (R.map fun l => .int (l.length : Int))) = m1 at S1
  have es : (R.map fun l => D.int (l.length : Int)) = (R.map List.length).map fun (l : Nat) => D.int (l : Int) := by rw [List.map_map]; rfl
  have ew : stD ((R.map List.length).map fun (l : Nat) => ((0 : Int), (l : Int))) = stD (R.map fun l => ((0 : Int), (l.length : Int))) := by rw [List.map_map]; rfl
  refine ⟨R.map List.length, by rw [es], by rw [List.length_map]; omega, ?_⟩
  walk_at "w"
  intro p2 hp2
  rw [es]
  refine comp_all (st := fun _ => True) (us := R.map List.length) (fun (l : Nat) => D.int (l : Int)) (fun (l : Nat) => pairI ((0 : Int), (l : Int))) (fun _ => trivial) (by rw [List.length_map]; omega) (fun z hz acc R2 k2 => ?_) ?_
  · walk_at "w"
    exact k2
  have S2 := S1.trans (.new (o := .lst ((R.map List.length).map fun (l : Nat) => pairI ((0 : Int), (l : Int)))) hp2)
  refine ⟨_, seqOf_ref mset_same, ?_⟩
  generalize mset m1 p2 (.lst ((R.map List.length).map fun (l : Nat) => pairI ((0 : Int), (l : Int)))) = m2 at S2
  refine same_at (b := .tup ((R.map List.length).map fun (l : Nat) => pairI ((0 : Int), (l : Int)))) (by unfold stD; rw [List.map_map]; rfl) (sam_map (n := 249) (by rw [List.length_map]; omega) fun _ _ => sam_pair (n := 248)) ?_
  walk_at "w"
  refine ⟨R.map List.length, rfl, by rw [List.length_map]; omega, ?_⟩
  rw [ew]
  refine ⟨R, _, rfl, by omega, fun q hq => ?_, ?_⟩
  · obtain ⟨i, hi⟩ := List.mem_iff_getElem?.mp hq
    obtain ⟨h1, h2⟩ := List.getElem?_zip_eq_some.mp hi
    rw [List.getElem?_map, h1] at h2
    injection h2 with h2
    have := hl _ (List.mem_of_getElem? h1)
    rw [← h2]
    dsimp only
    omega
  rw [txIn_whole]
  refine same_at (b := rowsD R) rfl (sam_rows (n := 249) (by omega)) ?_
  walk_at "w"
  refine ⟨st.map cI, rfl, by rw [List.length_map]; omega, ?_⟩
  intro p3 hp3
  refine comp_all (st := fun _ => True) (us := st.map cI) pairI (fun p => .int (p.2 - p.1)) (fun _ => trivial) (by rw [List.length_map]; omega) (fun z hz acc R2 k2 => ?_) ?_
  · unfold pairI
    walk_at "w"
    exact k2
  have S3 := S2.trans (.new (o := .lst ((st.map cI).map fun p => .int (p.2 - p.1))) hp3)
  refine ⟨_, seqOf_ref mset_same, ?_⟩
  generalize mset m2 p3 (.lst ((st.map cI).map fun p => .int (p.2 - p.1))) = m3 at S3
  refine same_at (b := .tup ((st.map cI).map fun p => .int (p.2 - p.1))) rfl (sam_map (n := 249) (by rw [List.length_map]; omega) fun _ _ => sam_int) ?_
  walk_at "w"
  intro p4 hp4
  rw [zipD_map]
  have hin : ∀ q ∈ R.zip (st.map cI), ∃ x ∈ R.zip st, q = (x.1, cI x.2) := fun q hq => by
    obtain ⟨i, hi⟩ := List.mem_iff_getElem?.mp hq
    obtain ⟨h1, h2⟩ := List.getElem?_zip_eq_some.mp hi
    rw [List.getElem?_map] at h2
    obtain ⟨y, h3, h4⟩ := Option.map_eq_some_iff.mp h2
    exact ⟨(q.1, y), List.mem_of_getElem? (List.getElem?_zip_eq_some.mpr ⟨h1, h3⟩), by rw [h4]⟩
  refine comp_all (st := fun _ => True) (us := R.zip (st.map cI)) (fun z : Tx × (Int × Int) => D.tup [.str (tx z.1), pairI z.2]) (fun z => .str (tx ((z.1.drop z.2.1.toNat).take (z.2.2 - z.2.1).toNat))) (fun _ => trivial) (by rw [List.length_zip]; omega) (fun z hzz acc R2 k2 => ?_) ?_
  · obtain ⟨x, hx, rfl⟩ := hin z hzz
    obtain ⟨g1, g2⟩ := hz _ hx
    have hx1 := hl _ (List.of_mem_zip hx).1
    unfold pairI cI
    walk_at "w"
    refine ⟨x.1, x.2.1, x.2.2, rfl, by omega, g1, g2, ?_⟩
    rw [show x.2.2 - x.2.1 = ((x.2.2 : Int) - (x.2.1 : Int)).toNat by omega]
    exact k2
  have S4 := S3.trans (.new (o := .lst ((R.zip (st.map cI)).map fun z => .str (tx ((z.1.drop z.2.1.toNat).take (z.2.2 - z.2.1).toNat)))) hp4)
  refine ⟨_, seqOf_ref mset_same, ?_⟩
  generalize mset m3 p4 (.lst ((R.zip (st.map cI)).map fun z => .str (tx ((z.1.drop z.2.1.toNat).take (z.2.2 - z.2.1).toNat)))) = m4 at S4
  have eq : wordsD (txIn R (st.map cI)) = .tup ((R.zip (st.map cI)).map fun z => .str (tx ((z.1.drop z.2.1.toNat).take (z.2.2 - z.2.1).toNat))) := by
    unfold wordsD txIn; rw [List.map_map]; rfl
  have hi : ∀ q ∈ R.zip (st.map cI), 0 ≤ q.2.1 ∧ q.2.1 ≤ q.2.2 ∧ q.2.2 ≤ q.1.length ∧ q.1.length ≤ 10000 := fun q hq => by
    obtain ⟨x, hx, rfl⟩ := hin q hq
    obtain ⟨g1, g2⟩ := hz _ hx
    have hx1 := hl _ (List.of_mem_zip hx).1
    unfold cI; dsimp only; omega
  have hw : samD 250 (wordsD (txIn R (st.map cI))) = true := sam_words (n := 249) (by unfold txIn; rw [List.length_map, List.length_zip]; omega)
  rw [← eq]
  refine ⟨R, st.map cI, rfl, by omega, hi, ?_⟩
  refine same_at rfl hw ?_
  walk_at "w"
  refine ⟨R, st.map cI, rfl, by omega, hi, ?_⟩
  refine same_at rfl hw ?_
  exact ⟨m, S4, h⟩
end
/-- the texts of the pieces ahead of piece k, put together -/
def ahd (R : List Tx) (st : List (Nat × Nat)) (cs : List (List Nat)) (k : Nat) : List Tx := (R.zip (st.zip cs)).map fun z => (z.1.drop z.2.1.1).take (z.2.2.take k).sum
def own (R : List Tx) (st : List (Nat × Nat)) (cs : List (List Nat)) (k : Nat) : List Tx := (R.zip (st.zip cs)).map fun z => (z.1.drop (z.2.1.1 + (z.2.2.take k).sum)).take ((z.2.2.take (k + 1)).sum - (z.2.2.take k).sum)
theorem own_eq : ∀ (R : List Tx) (st : List (Nat × Nat)) (cs : List (List Nat)) (k : Nat), txIn R (rowS (st.map cI) cs k) = own R st cs k
  | [], _, _, _ => rfl
  | _ :: _, [], _, _ => rfl
  | _ :: _, _ :: _, [], _ => rfl
  | l :: R, p :: st, c :: cs, k => by
    have ih := own_eq R st cs k
    unfold txIn rowS own at ih ⊢
    rw [List.map_cons, List.zip_cons_cons, List.map_cons, List.zip_cons_cons, List.map_cons, ih, List.zip_cons_cons, List.zip_cons_cons, List.map_cons]
    congr 1
    unfold cI
    dsimp only
    rw [show ((p.1 : Int) + (((c.take k).sum : Nat) : Int)).toNat = p.1 + (c.take k).sum by omega]
    congr 1
    omega
theorem sum_le (c : List Nat) (k : Nat) : (c.take k).sum ≤ (c.take (k + 1)).sum := by
  by_cases h : k < c.length
  · rw [take_succ' (List.getElem?_eq_getElem h), List.sum_append]; omega
  · rw [List.take_of_length_le (by omega), List.take_of_length_le (by omega)]; exact Nat.le_refl _
theorem ahd_own (R : List Tx) (st : List (Nat × Nat)) (cs : List (List Nat)) (k : Nat) : ((ahd R st cs k).zip (own R st cs k)).map (fun z => z.1 ++ z.2) = ahd R st cs (k + 1) := by
  unfold ahd own
  rw [List.zip_map', List.map_map]
  refine List.map_congr_left fun z _ => ?_
  have h := sum_le z.2.2 k
  dsimp only [Function.comp]
  generalize (z.2.2.take (k + 1)).sum = b at h ⊢
  generalize (z.2.2.take k).sum = a at h ⊢
  obtain ⟨d, rfl⟩ := Nat.exists_eq_add_of_le h
  rw [Nat.add_sub_cancel_left, List.take_add, List.drop_drop]
theorem ahd_end : ∀ (R : List Tx) (st : List (Nat × Nat)) (cs : List (List Nat)) (n k : Nat), R.length = n → st.length = n → cs.length = n → (∀ c ∈ cs, c.length = k) → (∀ q ∈ st.zip cs, q.2.sum = q.1.2 - q.1.1) → ahd R st cs k = txIn R (st.map cI)
  | [], [], [], _, _, _, _, _, _, _ => rfl
  | [], _ :: _, _, _, _, h1, h2, _, _, _ => by subst h1; cases h2
  | _ :: _, [], _, _, _, h1, h2, _, _, _ => by subst h1; cases h2
  | [], [], _ :: _, _, _, h1, _, h3, _, _ => by subst h1; cases h3
  | _ :: _, _ :: _, [], _, _, h1, _, h3, _, _ => by subst h1; cases h3
  | l :: R, p :: st, c :: cs, n + 1, k, h1, h2, h3, h4, h5 => by
    have ih := ahd_end R st cs n k (Nat.succ.inj h1) (Nat.succ.inj h2) (Nat.succ.inj h3) (fun c hc => h4 c (List.mem_cons_of_mem _ hc)) fun q hq => h5 q (List.mem_cons_of_mem _ hq)
    unfold ahd txIn at ih ⊢
    rw [List.zip_cons_cons, List.zip_cons_cons, List.map_cons, ih, List.map_cons, List.zip_cons_cons, List.map_cons]
    congr 1
    dsimp only
    have e1 := h5 (p, c) (by simp)
    have e2 := h4 c (by simp)
    dsimp only at e1
    rw [List.take_of_length_le (l := c) (by omega), e1]
    unfold cI; dsimp only
    rw [show ((p.2 : Int) - (p.1 : Int)).toNat = p.2 - p.1 by omega]; rfl
theorem ahd_len {R : List Tx} {st : List (Nat × Nat)} {cs : List (List Nat)} {n k : Nat} (h1 : R.length = n) (h2 : st.length = n) (h3 : cs.length = n) : (ahd R st cs k).length = n ∧ (own R st cs k).length = n := by
  unfold ahd own
  rw [List.length_map, List.length_map, List.length_zip, List.length_zip]; omega
theorem ahd_le {R : List Tx} {st : List (Nat × Nat)} {cs : List (List Nat)} {k b : Nat} (h : ∀ l ∈ R, l.length ≤ b) : (∀ x ∈ ahd R st cs k, x.length ≤ b) ∧ ∀ x ∈ own R st cs k, x.length ≤ b := by
  unfold ahd own
  refine ⟨fun x hx => ?_, fun x hx => ?_⟩ <;> (obtain ⟨z, hz, rfl⟩ := List.mem_map.mp hx; have := h _ (List.of_mem_zip hz).1; rw [List.length_take, List.length_drop]; omega)
section
variable {P : Program} {w : World} {K : PySem.W.Frag} {mg : Str → Option Value} {base : Heap}
structure JobO (n : Nat) (y : Way) (R : List Tx) (st : List (Nat × Nat)) (cs : List (List Nat)) : Prop where
  n2 : n = 1 ∨ n = 2
  hR : R.length = n
  hst : st.length = n
  hcs : cs.length = n
  yp : y.ps.length ≤ 5
  hc : ∀ c ∈ cs, c.length = y.ps.length
  hl : ∀ l ∈ R, l.length ≤ 160
  hz : ∀ q ∈ R.zip st, q.2.1 ≤ q.2.2 ∧ q.2.2 ≤ q.1.length
  hs : ∀ q ∈ st.zip cs, q.2.sum = q.1.2 - q.1.1
theorem JobO.len {n : Nat} {y : Way} {R : List Tx} {st : List (Nat × Nat)} {cs : List (List Nat)} (J : JobO n y R st cs) : ∀ (j : Nat) l p c, R[j]? = some l → st[j]? = some p → cs[j]? = some c → l.length ≤ 1000 ∧ p.1 + c.sum ≤ l.length := fun j l p c h1 h2 h3 => by
  have e1 := J.hz _ (List.mem_of_getElem? (List.getElem?_zip_eq_some.mpr (show R[j]? = some (l, p).1 ∧ st[j]? = some (l, p).2 from ⟨h1, h2⟩)))
  have e2 := J.hs _ (List.mem_of_getElem? (List.getElem?_zip_eq_some.mpr (show st[j]? = some (p, c).1 ∧ cs[j]? = some (p, c).2 from ⟨h2, h3⟩)))
  have e3 := J.hl l (List.mem_of_getElem? h1)
  dsimp only at e1 e2
  omega
theorem take_sum (c : List Nat) : ∀ k, (c.take k).sum ≤ c.sum := fun k => by
  have h := List.take_append_drop k c
  have : c.sum = (c.take k).sum + (c.drop k).sum := by rw [← List.sum_append, h]
  omega
theorem JobO.inr {n : Nat} {y : Way} {R : List Tx} {st : List (Nat × Nat)} {cs : List (List Nat)} (J : JobO n y R st cs) (i : Nat) : InR R (rowS (st.map cI) cs i) := fun q hq => by
  obtain ⟨j, hj⟩ := List.mem_iff_getElem?.mp hq
  obtain ⟨h1, h2⟩ := List.getElem?_zip_eq_some.mp hj
  unfold rowS at h2
  rw [List.getElem?_map] at h2
  obtain ⟨z, h3, h4⟩ := Option.map_eq_some_iff.mp h2
  obtain ⟨h5, h6⟩ := List.getElem?_zip_eq_some.mp h3
  rw [List.getElem?_map] at h5
  obtain ⟨p, h7, h8⟩ := Option.map_eq_some_iff.mp h5
  have := J.len j q.1 p z.2 h1 h7 h6
  have a1 := sum_le z.2 i
  have a2 := take_sum z.2 (i + 1)
  rw [← h4, ← h8]
  unfold cI
  dsimp only
  omega
theorem ahd_zero {R : List Tx} {st : List (Nat × Nat)} {cs : List (List Nat)} {n : Nat} (h1 : R.length = n) (h2 : st.length = n) (h3 : cs.length = n) : (R.map fun _ => D.str (tx [])) = (ahd R st cs 0).map fun l => .str (tx l) := by
  rw [List.map_const', h1]
  refine (List.eq_replicate_iff.mpr ⟨?_, fun d hd => ?_⟩).symm
  · rw [List.length_map]; exact (ahd_len h1 h2 h3).1
  · obtain ⟨l, hl, rfl⟩ := List.mem_map.mp hd
    unfold ahd at hl
    obtain ⟨z, _, rfl⟩ := List.mem_map.mp hl
    rfl
def sp__law_job_right : SpD := fun ds m Q => ∃ (n : Nat) (y : Way) (R : List Tx) (st : List (Nat × Nat)) (cs : List (List Nat)), ds = [y.d, rowsD R, stD (st.map cI), cutsD cs] ∧ JobO n y R st cs ∧ Q (.bl true) m
theorem ok__law_job_right  (T : Txt K mg) (G__law_same : FnOk P w K mg base CX0 (90) T.f__law_same T.fd__law_same ["_law_told", "_law_due_here"] (spL K 2 (sp__law_same 250))) (G_texts_in : FnOk P w K mg base CX0 (1) T.f_texts_in T.fd_texts_in ["rows", "stretch"] (spL K 2 sp_texts_in)) (G_widths_of : FnOk P w K mg base CX0 (1) T.f_widths_of T.fd_widths_of ["stretch"] (spL K 1 sp_widths_of)) (G_dress_of : FnOk P w K mg base CX0 (3) T.f_dress_of T.fd_dress_of ["rows", "way", "stretch", "cut"] (spL K 4 sp_dress_of)) (G_piece_stretches : FnOk P w K mg base CX0 (2) T.f_piece_stretches T.fd_piece_stretches ["stretch", "cut"] (spL K 2 sp_piece_stretches)) (G__law_due : FnOk P w K mg base CX0 (2) T.f__law_due T.fd__law_due ["_law_branch", "_law_texts", "_law_span_here", "_law_parting_here"] (spL K 4 sp__law_due)) : FnOk P w K mg base CX0 (91) T.f__law_job_right T.fd__law_job_right ["_law_branch", "_law_texts", "_law_span_here", "_law_parting_here"] (spL K 4 sp__law_job_right) := by
  refine fn_ok T.F__law_job_right sc__law_job_right (fun cdv A outer s H E hr =>
(gss_cons (gs_set (i := 4) sc__law_job_right.nd rfl (.inl rfl) (ge_call G__law_due (hr.mono (by omega)) (by rfl) T.g__law_due T.F__law_due.kp T.b__law_due (ga_cons (gv 0) (ga_cons (gv 1) (ga_cons (gv 2) (ga_cons (gv 3) ga_nil))))))
 (gss_cons (gs_set (i := 5) sc__law_job_right.nd rfl (.inl rfl) (ge_call G_piece_stretches (hr.mono (by omega)) (by rfl) T.g_piece_stretches T.F_piece_stretches.kp T.b_piece_stretches (ga_cons (gv 2) (ga_cons (gv 3) ga_nil))))
 (gss_cons (gs_if (gt_not (gt_val (ge_call G__law_same (hr.mono (by omega)) (by rfl) T.g__law_same T.F__law_same.kp T.b__law_same (ga_cons (gv 5) (ga_cons (ge_ix (gv 4) ge_int) ga_nil)))))
 (gss_one (gs_ret ge_bl))
 gss_nil)
 (gss_cons (gs_if (gt_not (gt_val (ge_call G__law_same (hr.mono (by omega)) (by rfl) T.g__law_same T.F__law_same.kp T.b__law_same (ga_cons (ge_callP G_piece_stretches (hr.mono (by omega)) (by rfl) T.g_piece_stretches T.F_piece_stretches.kp T.kp_piece_stretches_1_0 (gk_cons (gv 3) (gk_cons (gv 2) gk_nil))) (ga_cons (ge_ix (gv 4) ge_int) ga_nil)))))
 (gss_one (gs_ret ge_bl))
 gss_nil)
 (gss_cons (gs_if (gt_not (gt_val (ge_call G__law_same (hr.mono (by omega)) (by rfl) T.g__law_same T.F__law_same.kp T.b__law_same (ga_cons (ge_call G_dress_of (hr.mono (by omega)) (by rfl) T.g_dress_of T.F_dress_of.kp T.b_dress_of (ga_cons (gv 1) (ga_cons (gv 0) (ga_cons (gv 2) (ga_cons (gv 3) ga_nil))))) (ga_cons (ge_ix (gv 4) ge_int) ga_nil)))))
 (gss_one (gs_ret ge_bl))
 gss_nil)
 (gss_cons (gs_setLc (i := 6) (own := [("_law_text_here", 9)]) rfl sc__law_job_right.nd rfl rfl (sw_true rfl rfl rfl (by decide +kernel)) (gi_seq (gv 1)) (blkOk_by (N := N__law_job_right) (sc := defScope s__law_job_right) (by decide +kernel)) (fun _ _ _ _ _ => (gg_name (i := 9) sc__law_job_right.nd rfl (.inl rfl))) (fun _ _ _ _ _ => gts_nil) (fun _ _ _ _ _ => ge_str) (by decide))
 (gss_cons (gs_for PassesOwn.never rfl (gi_seq (gv 5)) (gg_name (i := 7) sc__law_job_right.nd rfl (.inl rfl))
 (gss_cons (gs_if (gt_not (gt_val (ge_call G__law_same (hr.mono (by omega)) (by rfl) T.g__law_same T.F__law_same.kp T.b__law_same (ga_cons (ge_callK G_widths_of (hr.mono (by omega)) (by rfl) T.g_widths_of T.F_widths_of.kp T.kw_widths_of (gk_cons (gv 7) gk_nil)) (ga_cons (ge_callTy call_tuple_of lc_tuple (by rfl) T.z_tuple (by decide +kernel) (ga_cons (ge_lc (own := [("_law_side", 12)]) rfl sc__law_job_right.nd (gi_seq (gv 7)) (blkOk_by (N := N__law_job_right) (sc := defScope s__law_job_right) (by decide +kernel)) (fun _ _ _ _ _ => (gg_name (i := 12) sc__law_job_right.nd rfl (.inl rfl))) (fun _ _ _ _ _ => gts_nil) (fun _ _ _ _ _ => (ge_op op_sub lr_sub (ge_ix (gv 12) ge_int) (ge_ix (gv 12) ge_int))) (by decide)) ga_nil)) ga_nil)))))
 (gss_one (gs_ret ge_bl))
 gss_nil)
 (gss_cons (gs_set (i := 8) sc__law_job_right.nd rfl (.inl rfl) (ge_call G_texts_in (hr.mono (by omega)) (by rfl) T.g_texts_in T.F_texts_in.kp T.b_texts_in (ga_cons (gv 1) (ga_cons (gv 7) ga_nil))))
 (gss_one (gs_setLc (i := 6) (own := [("_law_one", 10), ("_law_other", 11)]) rfl sc__law_job_right.nd rfl rfl (sw_true rfl rfl rfl (by decide +kernel)) (gi_zipL (by rfl) T.z_zip (ga_cons (gv 6) (ga_cons (ge_callTy call_list_of lc_list (by rfl) T.z_list (by decide +kernel) (ga_cons (gv 8) ga_nil)) ga_nil))) (blkOk_by (N := N__law_job_right) (sc := defScope s__law_job_right) (by decide +kernel)) (fun _ _ _ _ _ => (gg_tup (n := 2) rfl (ggs_cons (gg_name (i := 10) sc__law_job_right.nd rfl (.inl rfl)) (ggs_cons (gg_name (i := 11) sc__law_job_right.nd rfl (.inl rfl)) ggs_nil)))) (fun _ _ _ _ _ => gts_nil) (fun _ _ _ _ _ => (ge_op op_addL lr_addL (gv 10) (gv 11))) (by decide))))))
 (gss_one (gs_ret (ge_call G__law_same (hr.mono (by omega)) (by rfl) T.g__law_same T.F__law_same.kp T.b__law_same (ga_cons (ge_callTy call_tuple_of lc_tuple (by rfl) T.z_tuple (by decide +kernel) (ga_cons (gv 6) ga_nil)) (ga_cons (ge_call G_texts_in (hr.mono (by omega)) (by rfl) T.g_texts_in T.F_texts_in.kp T.b_texts_in (ga_cons (gv 1) (ga_cons (gv 2) ga_nil))) ga_nil))))))))))))) (fun ds m Q h => ?_)
  obtain ⟨n, y, R, st, cs, rfl, J, h⟩ := h
  rw [show rowsD R = .tup (R.map fun l => .str (tx l)) from rfl]
  rw [show startD N__law_job_right [y.d, .tup (R.map fun l => .str (tx l)), stD (st.map cI), cutsD cs] = [some (y.d), some (.tup (R.map fun l => .str (tx l))), some (stD (st.map cI)), some (cutsD cs), none, none, none, none, none, none, none, none, none] from rfl]
  have hl' := J.hl
  have h5 := J.yp
  have hn2 := J.n2
  have hRn := J.hR
  have eX : (st.map cI).map (·.1) = st.map fun p => (p.1 : Int) := by rw [List.map_map]; rfl
  have hX := pst_rows (st := st.map cI) (cs := cs) (k := y.ps.length) (by rw [List.length_map, J.hst, J.hcs]) (by rw [List.length_map, J.hst]; exact J.n2) J.hc
  have hw : ∀ i, (rowS (st.map cI) cs i).length ≤ 2 := fun i => by
    unfold rowS; rw [List.length_map, List.length_zip, List.length_map, J.hst, J.hcs]; omega
  have sX : samD 250 (.tup ((pst ((st.map cI).map (·.1)) cs).map stD)) = true := by
    rw [hX]
    refine sam_map (n := 249) (by rw [List.length_map, List.length_range]; omega) fun z hz => ?_
    obtain ⟨i, _, rfl⟩ := List.mem_map.mp hz
    exact sam_st (n := 247) (by have := hw i; omega)
  have sD : samD 250 (drD ((y.ps.zip (pst ((st.map cI).map (·.1)) cs)).map (txOf R))) = true := by
    refine sam_dr (n := 248) (by rw [List.length_map, List.length_zip]; omega) fun ts hts => ?_
    obtain ⟨z, hz, e⟩ := List.mem_map.mp hts
    unfold txOf at e
    split at e
    · cases e
    · injection e with e
      subst e
      unfold txIn
      rw [List.length_map, List.length_zip]; omega
  refine seq_cut (fun s' m' => s' = [some y.d, some (.tup (R.map fun l => .str (tx l))), some (stD (st.map cI)), some (cutsD cs), some (.tup [.tup ((pst ((st.map cI).map (·.1)) cs).map stD), drD ((y.ps.zip (pst ((st.map cI).map (·.1)) cs)).map (txOf R))]), none, none, none, none, none, none, none, none] ∧ m' = m) (fun R1 hR1 => ?_) ?_
  · walk_at "pd"
    refine ⟨y, R, st, cs, n, rfl, J.hR, J.hst, J.hcs, J.n2, by omega, J.hc, J.len, ?_⟩
    rw [← eX]
    exact hR1 _ _ ⟨rfl, rfl⟩
  rintro s' m' ⟨rfl, rfl⟩
  have hps : ∀ {Q : DK}, Q (.tup ((pst ((st.map cI).map (·.1)) cs).map stD)) m' → sp_piece_stretches [stD (st.map cI), cutsD cs] m' Q := fun hq =>
    ⟨st.map cI, cs, y.ps.length, rfl, by rw [List.length_map, J.hst, J.hcs], by rw [List.length_map, J.hst]; exact J.n2, J.hc, by omega, hq⟩
  walk_at "pd"
  refine hps ?_
  walk_at "w"
  refine same_at rfl sX ?_
  walk_at "w"
  refine hps ?_
  refine same_at rfl sX ?_
  walk_at "w"
  refine ⟨R, y, st.map cI, cs, rfl, by rw [List.length_map, J.hst, J.hcs], by rw [List.length_map, J.hst]; exact J.n2, J.hc, by omega, by omega, fun S hS => ?_, ?_⟩
  · rw [hX] at hS
    obtain ⟨i, _, rfl⟩ := List.mem_map.mp hS
    exact J.inr i
  refine same_at rfl sD ?_
  walk_at "w"
  intro p hp
  refine comp_all (st := fun _ => True) (us := R) (fun l => D.str (tx l)) (fun _ => .str (tx [])) (fun _ => trivial) (by omega) (fun z hz acc R2 k2 => ?_) ?_
  · walk_at "w"
    exact k2
  walk_at "w"
  rw [ahd_zero J.hR J.hst J.hcs]
  rw [hX, List.map_map]
  refine loop_pre (us := List.range y.ps.length) (fun pre s' m2 => ∃ (q : Addr) (c4 c5 c7 c8 : Option D), s' = [some y.d, some (.tup (R.map fun l => .str (tx l))), some (stD (st.map cI)), some (cutsD cs), c4, c5, some (.ref q), c7, c8, none, none, none, none] ∧ m2 q = some (.lst ((ahd R st cs pre.length).map fun l => .str (tx l))) ∧ PD.Sub m' m2) (stD ∘ rowS (st.map cI) cs) (fun _ _ _ _ => trivial) ?_ ?_ ⟨_, _, _, _, _, rfl, mset_same, .new hp⟩
  · rintro pre u post eu s' m2 R2 ⟨q, c4, c5, c7, c8, rfl, eq, S2⟩ hR2
    have hu : u = pre.length ∧ pre.length < y.ps.length := by
      have e : (List.range y.ps.length)[pre.length]? = some u := by rw [eu, List.getElem?_append_right (Nat.le_refl _), Nat.sub_self]; rfl
      have hlt := (List.getElem?_eq_some_iff.mp e).1
      rw [List.length_range] at hlt
      rw [List.getElem?_range hlt] at e
      injection e with e
      omega
    obtain ⟨rfl, hu2⟩ := hu
    rw [Function.comp_apply]
    have hwk := hw pre.length
    have hin := J.inr pre.length
    have ho := own_eq R st cs pre.length
    generalize rowS (st.map cI) cs pre.length = S at hwk hin ho ⊢
    walk_at "w"
    refine ⟨S, rfl, by omega, ?_⟩
    rw [show stD S = .tup (S.map pairI) from rfl]
    walk_at "w"
    intro p3 hp3
    refine comp_all (st := fun _ => True) (us := S) pairI (fun p => .int (p.2 - p.1)) (fun _ => trivial) (by omega) (fun z hz acc R2 k2 => ?_) ?_
    · unfold pairI
      walk_at "w"
      exact k2
    have S3 := S2.trans (.new (o := .lst (S.map fun p => .int (p.2 - p.1))) hp3)
    have eq3 := mset_new (o := .lst (S.map fun p => .int (p.2 - p.1))) hp3 eq
    refine ⟨_, seqOf_ref mset_same, ?_⟩
    generalize mset m2 p3 (.lst (S.map fun p => .int (p.2 - p.1))) = m3 at S3 eq3
    refine same_at (b := .tup (S.map fun p => .int (p.2 - p.1))) rfl (sam_map (n := 249) (by omega) fun _ _ => sam_int) ?_
    walk_at "w"
    refine ⟨R, S, rfl, by omega, hin, ?_⟩
    rw [ho]
    walk_at "w"
    refine ⟨_, rfl, fun p4 hp4 => ?_⟩
    have eq4 := mset_new (o := .lst ((own R st cs pre.length).map fun l => .str (tx l))) hp4 eq3
    have S4 := S3.trans (.new (o := .lst ((own R st cs pre.length).map fun l => .str (tx l))) hp4)
    have ep4 : mset m3 p4 (.lst ((own R st cs pre.length).map fun l => .str (tx l))) p4 = some (.lst ((own R st cs pre.length).map fun l => .str (tx l))) := mset_same
    generalize mset m3 p4 (.lst ((own R st cs pre.length).map fun l => .str (tx l))) = m4 at S4 eq4 ep4
    refine ⟨_, _, lsq_ref eq4, lsq_ref ep4, fun p5 hp5 => ?_⟩
    rw [zipD_map]
    obtain ⟨l1, l2⟩ := ahd_len (k := pre.length) J.hR J.hst J.hcs
    obtain ⟨b1, b2⟩ := ahd_le (st := st) (cs := cs) (k := pre.length) hl'
    refine comp_all (us := (ahd R st cs pre.length).zip (own R st cs pre.length)) (fun z : Tx × Tx => D.tup [.str (tx z.1), .str (tx z.2)]) (fun z => .str (tx (z.1 ++ z.2))) (fun _ => ⟨lsq_ref (mset_new hp5 eq4), lsq_ref (mset_new hp5 ep4)⟩) (by rw [List.length_zip]; omega) (fun z hz acc R3 k3 => ?_) ?_
    · have hz1 := b1 _ (List.of_mem_zip hz).1
      have hz2 := b2 _ (List.of_mem_zip hz).2
      walk_at "w"
      exact ⟨Nat.le_trans (by omega : _ ≤ 320) (by decide), k3⟩
    refine hR2 _ _ ⟨p5, _, _, _, _, rfl, ?_, S4.trans (.new hp5)⟩
    rw [mset_same, List.length_append, List.length_singleton, ← ahd_own, List.map_map]
    rfl
  · rintro s' m2 ⟨q, c4, c5, c7, c8, rfl, eq, S2⟩
    rw [List.length_range, ahd_end R st cs n _ J.hR J.hst J.hcs J.hc J.hs] at eq
    walk_at "w"
    refine ⟨_, seqOf_ref eq, ?_⟩
    refine ⟨R, st.map cI, rfl, by omega, fun x hx => ?_, ?_⟩
    · obtain ⟨j, hj⟩ := List.mem_iff_getElem?.mp hx
      obtain ⟨h1, h2⟩ := List.getElem?_zip_eq_some.mp hj
      rw [List.getElem?_map] at h2
      obtain ⟨z, h3, h4⟩ := Option.map_eq_some_iff.mp h2
      have := J.hz _ (List.mem_of_getElem? (List.getElem?_zip_eq_some.mpr (show R[j]? = some (x.1, z).1 ∧ st[j]? = some (x.1, z).2 from ⟨h1, h3⟩)))
      have e3 := J.hl x.1 (List.mem_of_getElem? h1)
      dsimp only at this
      rw [← h4]; unfold cI; dsimp only; omega
    refine same_at rfl (sam_words (n := 249) (by unfold txIn; rw [List.length_map, List.length_zip]; omega)) ?_
    exact ⟨m', S2, h⟩
end
def boxOf : Mark → Int × Option Int
  | .sign _ => (1, some 1)
  | .none => (0, some 0)
  | .run lo hi => (lo, hi)
def letB (k : Mark) (wd : Int) : Prop := (boxOf k).1 ≤ wd ∧ ∀ h, (boxOf k).2 = some h → wd ≤ h
section
variable {P : Program} {w : World} {K : PySem.W.Frag} {mg : Str → Option Value} {base : Heap}
def sp_mark_box : SpD := fun ds m Q => ∃ k : Mark, ds = [k.d] ∧ Q (.tup [.int (boxOf k).1, oi (boxOf k).2]) m
theorem ok_mark_box  (T : Txt K mg)  : FnOk P w K mg base CX0 (1) T.f_mark_box T.fd_mark_box ["mark"] (spL K 1 sp_mark_box) := by
  refine fn_ok T.F_mark_box sc_mark_box (fun cdv A outer s H E hr =>
(gss_cons (gs_if (gt_cmpR (op_eqS hr.units) lr_eq (ge_ix (gv 0) ge_int) ge_str (nomark _))
 (gss_one (gs_ret (ge_tup (ga_cons ge_int (ga_cons ge_int ga_nil)))))
 gss_nil)
 (gss_cons (gs_if (gt_cmpR (op_eqS hr.units) lr_eq (ge_ix (gv 0) ge_int) ge_str (nomark _))
 (gss_one (gs_ret (ge_tup (ga_cons ge_int (ga_cons ge_int ga_nil)))))
 gss_nil)
 (gss_one (gs_ret (ge_tup (ga_cons (ge_ix (gv 0) ge_int) (ga_cons (ge_ix (gv 0) ge_int) ga_nil)))))))) (fun ds m Q h => ?_)
  obtain ⟨k, rfl, h⟩ := h
  rw [show startD N_mark_box [k.d] = [some (k.d)] from rfl]
  cases k with
  | sign l => unfold Mark.d; walk_at "pd"; exact sub_refl_fin h
  | none => unfold Mark.d; walk_at "pd"; exact sub_refl_fin h
  | run lo hi => unfold Mark.d; walk_at "pd"; exact sub_refl_fin h
def sp__lets : SpD := fun ds m Q => ∃ (k : Mark) (wd : Int), ds = [k.d, .int wd] ∧ letB k wd ∧ Q (.bl true) m
theorem ok__lets  (T : Txt K mg) (G_mark_box : FnOk P w K mg base CX0 (1) T.f_mark_box T.fd_mark_box ["mark"] (spL K 1 sp_mark_box)) : FnOk P w K mg base CX0 (2) T.f__lets T.fd__lets ["mark", "width"] (spL K 2 sp__lets) := by
  refine fn_ok T.F__lets sc__lets (fun cdv A outer s H E hr =>
(gss_cons (gs_asg (ge_call G_mark_box (hr.mono (by omega)) (by rfl) T.g_mark_box T.F_mark_box.kp T.b_mark_box (ga_cons (gv 0) ga_nil)) (gg_tup (n := 2) rfl (ggs_cons (gg_name (i := 2) sc__lets.nd rfl (.inl rfl)) (ggs_cons (gg_name (i := 3) sc__lets.nd rfl (.inl rfl)) ggs_nil))))
 (gss_one (gs_ret (ge_and (ge_cmpR (op_leS hr.units) lr_leP (gv 2) (gv 1) (nomark _)) (ge_one (ge_or (ge_cmpR op_isN lr_isN (gv 3) ge_non (nomark _)) (ge_one (ge_cmpR (op_leS hr.units) lr_leP (gv 1) (gv 3) (nomark _)))))))))) (fun ds m Q h => ?_)
  obtain ⟨k, wd, rfl, ⟨h1, h2⟩, h⟩ := h
  rw [show startD N__lets [k.d, .int wd] = [some (k.d), some (.int wd), none, none] from rfl]
  walk_at "pd"
  refine ⟨k, rfl, ?_⟩
  generalize (boxOf k).1 = lo at h1 ⊢
  generalize (boxOf k).2 = hi at h2 ⊢
  walk_at "w"
  rw [if_pos (by simpa using h1)]
  cases hi with
  | none => unfold oi; walk_at "w"; exact sub_refl_fin h
  | some hi =>
    have := h2 hi rfl
    unfold oi
    walk_at "w"
    rw [show (!decide (hi < wd)) = true by simp; omega]
    exact sub_refl_fin h
def sp__is_number : SpD := fun ds m Q => ∃ i : Int, ds = [.int i] ∧ 0 ≤ i ∧ Q (.bl true) m
theorem ok__is_number  (T : Txt K mg)  : FnOk P w K mg base CX0 (1) T.f__is_number T.fd__is_number ["value"] (spL K 1 sp__is_number) := by
  refine fn_ok T.F__is_number sc__is_number (fun cdv A outer s H E hr =>
(gss_one (gs_ret (ge_and (ge_isi (T := "int") rfl (by rfl) T.z_isinstance (gv 0) (by rfl) T.z_int (by decide +kernel)) (ge_and (ge_not (ge_isi (T := "bool") rfl (by rfl) T.z_isinstance (gv 0) (by rfl) T.z_bool (by decide +kernel))) (ge_one (ge_cmpR op_ge lr_cmp (gv 0) ge_int (nomark _)))))))) (fun ds m Q h => ?_)
  obtain ⟨i, rfl, hi, h⟩ := h
  rw [show startD N__is_number [.int i] = [some (.int i)] from rfl]
  walk_at "pd"
  rw [show decide (0 ≤ i) = true by simp; omega]
  exact sub_refl_fin h
def intsD (c : List Nat) : D := .tup (c.map fun (w : Nat) => .int (w : Int))
def sp__adds_up : SpD := fun ds m Q => ∃ (c : List Nat), ds = [intsD c, .int (c.length : Int), .int ((c.sum : Nat) : Int)] ∧ c.length ≤ 100 ∧ Q (.bl true) m
theorem ok__adds_up  (T : Txt K mg) (G__is_number : FnOk P w K mg base CX0 (1) T.f__is_number T.fd__is_number ["value"] (spL K 1 sp__is_number)) : FnOk P w K mg base CX0 (2) T.f__adds_up T.fd__adds_up ["widths", "many", "width"] (spL K 3 sp__adds_up) := by
  refine fn_ok T.F__adds_up sc__adds_up (fun cdv A outer s H E hr =>
(gss_cons (gs_if (gw_or (gt_not (gt_val (ge_isi (T := "tuple") rfl (by rfl) T.z_isinstance (gv 0) (by rfl) T.z_tuple (by decide +kernel)))) (gw_or1 (gt_cmpR (op_neS hr.units) lr_ne (ge_callB call_lenU lc_len (by rfl) T.z_len PySem.boot_len (ga_cons (gv 0) ga_nil)) (gv 1) (nomark _)))).gt
 (gss_one (gs_ret ge_bl))
 gss_nil)
 (gss_one (gs_ret (ge_and (ge_callB (cr_all rfl) lc_all (by rfl) T.z_all (by decide +kernel) (ga_cons (ge_lc (own := [("one", 3)]) rfl sc__adds_up.nd (gi_seq (gv 0)) (blkOk_by (N := N__adds_up) (sc := defScope s__adds_up) (by decide +kernel)) (fun _ _ _ _ _ => (gg_name (i := 3) sc__adds_up.nd rfl (.inl rfl))) (fun _ _ _ _ _ => gts_nil) (fun _ _ _ _ _ => (ge_call G__is_number (hr.mono (by omega)) (by rfl) T.g__is_number T.F__is_number.kp T.b__is_number (ga_cons (gv 3) ga_nil))) (by decide)) ga_nil)) (ge_one (ge_cmpR (op_eqS hr.units) lr_eq (ge_callB (cr_sumS rfl) lc_sumL (by rfl) T.z_sum (by decide +kernel) (ga_cons (gv 0) ga_nil)) (gv 2) (nomark _)))))))) (fun ds m Q h => ?_)
  obtain ⟨c, rfl, hc, h⟩ := h
  unfold intsD
  rw [show startD N__adds_up [.tup (c.map fun (w : Nat) => .int (w : Int)), .int (c.length : Int), .int ((c.sum : Nat) : Int)] = [some (.tup (c.map fun (w : Nat) => .int (w : Int))), some (.int (c.length : Int)), some (.int ((c.sum : Nat) : Int)), none] from rfl]
  walk_at "pd"
  rw [if_neg (by simp)]
  intro p hp
  refine comp_all (st := fun _ => True) (us := c) (fun (w : Nat) => D.int (w : Int)) (fun _ => .bl true) (fun _ => trivial) (by omega) (fun z hz acc R2 k2 => ?_) ?_
  · walk_at "w"
    exact ⟨_, rfl, by omega, k2⟩
  refine ⟨p, c.map fun _ => true, rfl, by rw [mset_same, List.map_map]; rfl, ?_⟩
  rw [show ((c.map fun _ => true).all id) = true by rw [List.all_map]; simp]
  walk_at "w"
  refine ⟨c.map fun (w : Nat) => (w : Int), by rw [List.map_map]; rfl, m, .new hp, ?_⟩
  rw [sum_cast]
  simpa using h
def sp__is_cut : SpD := fun ds m Q => ∃ (cs : List (List Nat)) (y : Way) (st : List (Int × Int)), ds = [cutsD cs, y.d, stD st] ∧ cs.length = st.length ∧ cs.length ≤ 2 ∧ (∀ c ∈ cs, c.length = y.ps.length) ∧ y.ps.length ≤ 10 ∧ cs.map (fun c => ((c.sum : Nat) : Int)) = (st.map fun p => p.2 - p.1) ∧ Q (.bl true) m
theorem ok__is_cut  (T : Txt K mg) (G_widths_of : FnOk P w K mg base CX0 (1) T.f_widths_of T.fd_widths_of ["stretch"] (spL K 1 sp_widths_of)) (G__adds_up : FnOk P w K mg base CX0 (2) T.f__adds_up T.fd__adds_up ["widths", "many", "width"] (spL K 3 sp__adds_up)) : FnOk P w K mg base CX0 (3) T.f__is_cut T.fd__is_cut ["cut", "way", "stretch"] (spL K 3 sp__is_cut) := by
  refine fn_ok T.F__is_cut sc__is_cut (fun cdv A outer s H E hr =>
(gss_cons (gs_if (gw_or (gt_not (gt_val (ge_isi (T := "tuple") rfl (by rfl) T.z_isinstance (gv 0) (by rfl) T.z_tuple (by decide +kernel)))) (gw_or1 (gt_cmpR (op_neS hr.units) lr_ne (ge_callB call_lenU lc_len (by rfl) T.z_len PySem.boot_len (ga_cons (gv 0) ga_nil)) (ge_callB call_lenU lc_len (by rfl) T.z_len PySem.boot_len (ga_cons (gv 2) ga_nil)) (nomark _)))).gt
 (gss_one (gs_ret ge_bl))
 gss_nil)
 (gss_cons (gs_set (i := 3) sc__is_cut.nd rfl (.inr rfl) (ge_callB call_lenU lc_len (by rfl) T.z_len PySem.boot_len (ga_cons (ge_ix (gv 1) ge_int) ga_nil)))
 (gss_one (gs_ret (ge_callB (cr_all rfl) lc_all (by rfl) T.z_all (by decide +kernel) (ga_cons (ge_lc (own := [("row", 4), ("width", 5)]) rfl sc__is_cut.nd (gi_zipL (by rfl) T.z_zip (ga_cons (gv 0) (ga_cons (ge_call G_widths_of (hr.mono (by omega)) (by rfl) T.g_widths_of T.F_widths_of.kp T.b_widths_of (ga_cons (gv 2) ga_nil)) ga_nil))) (blkOk_by (N := N__is_cut) (sc := defScope s__is_cut) (by decide +kernel)) (fun _ _ _ _ _ => (gg_tup (n := 2) rfl (ggs_cons (gg_name (i := 4) sc__is_cut.nd rfl (.inl rfl)) (ggs_cons (gg_name (i := 5) sc__is_cut.nd rfl (.inl rfl)) ggs_nil)))) (fun _ _ _ _ _ => gts_nil) (fun _ _ _ _ _ => (ge_call G__adds_up (hr.mono (by omega)) (by rfl) T.g__adds_up T.F__adds_up.kp T.b__adds_up (ga_cons (gv 4) (ga_cons (gv 3) (ga_cons (gv 5) ga_nil))))) (by decide)) ga_nil))))))) (fun ds m Q h => ?_)
  obtain ⟨cs, y, st, rfl, h1, h2, h3, h4, h5, h⟩ := h
  unfold cutsD stD Way.d
  rw [show startD N__is_cut [.tup (cs.map fun c => .tup (c.map fun (w : Nat) => .int (w : Int))), .tup [.str y.mr, .tup (y.ps.map Piece.d), .tup (y.ts.map Test.d)], .tup (st.map pairI)] = [some (.tup (cs.map fun c => .tup (c.map fun (w : Nat) => .int (w : Int)))), some (.tup [.str y.mr, .tup (y.ps.map Piece.d), .tup (y.ts.map Test.d)]), some (.tup (st.map pairI)), none, none, none] from rfl]
  walk_at "pd"
  rw [if_neg (by simp [h1])]
  refine ⟨st, rfl, by omega, ?_⟩
  rw [← show (cs.map fun c => D.int ((c.sum : Nat) : Int)) = st.map fun p => D.int (p.2 - p.1) from by
    have := congrArg (List.map D.int) h5
    rw [List.map_map, List.map_map] at this; exact this]
  walk_at "w"
  intro p hp
  rw [zipD_map]
  refine comp_all (st := fun _ => True) (us := cs.zip cs) (fun z : List Nat × List Nat => D.tup [.tup (z.1.map fun (w : Nat) => .int (w : Int)), .int ((z.2.sum : Nat) : Int)]) (fun _ => .bl true) (fun _ => trivial) (by rw [List.length_zip]; omega) (fun z hz acc R2 k2 => ?_) ?_
  · rw [zip_same] at hz
    obtain ⟨c, hc, rfl⟩ := List.mem_map.mp hz
    walk_at "w"
    refine ⟨c, ?_, by rw [h3 c hc]; omega, k2⟩
    rw [h3 c hc]; simp [intsD]
  refine ⟨p, (cs.zip cs).map fun _ => true, rfl, by rw [mset_same, List.map_map]; rfl, ?_⟩
  rw [show (((cs.zip cs).map fun _ => true).all id) = true by rw [List.all_map]; simp]
  exact ⟨m, .new hp, h⟩
def sp__widths_fit : SpD := fun ds m Q => ∃ (cs : List (List Nat)) (y : Way), ds = [y.d, cutsD cs] ∧ cs.length ≤ 2 ∧ (∀ (r : Nat) c, cs[r]? = some c → ∀ q ∈ y.ps.zip c, ∀ ms, q.1 = .plain ms → ∃ k, ms[r]? = some k ∧ letB k q.2) ∧ Q (.bl true) m
theorem ok__widths_fit  (T : Txt K mg) (G__lets : FnOk P w K mg base CX0 (2) T.f__lets T.fd__lets ["mark", "width"] (spL K 2 sp__lets)) : FnOk P w K mg base CX0 (3) T.f__widths_fit T.fd__widths_fit ["way", "cut"] (spL K 2 sp__widths_fit) := by
  refine fn_ok T.F__widths_fit sc__widths_fit (fun cdv A outer s H E hr =>
(gss_cons (gs_for PassesOwn.never rfl (gi_enum (by rfl) T.z_enumerate (ga_cons (gv 1) ga_nil)) (gg_tup (n := 2) rfl (ggs_cons (gg_name (i := 2) sc__widths_fit.nd rfl (.inl rfl)) (ggs_cons (gg_name (i := 3) sc__widths_fit.nd rfl (.inl rfl)) ggs_nil)))
 (gss_one (gs_for PassesOwn.never rfl (gi_zipL (by rfl) T.z_zip (ga_cons (ge_ix (gv 0) ge_int) (ga_cons (gv 3) ga_nil))) (gg_tup (n := 2) rfl (ggs_cons (gg_name (i := 4) sc__widths_fit.nd rfl (.inl rfl)) (ggs_cons (gg_name (i := 5) sc__widths_fit.nd rfl (.inl rfl)) ggs_nil)))
 (gss_one (gs_if (gw_and (gt_cmpR (op_eqS hr.units) lr_eq (ge_ix (gv 4) ge_int) ge_str (nomark _)) (gw_and1 (gt_not (gt_val (ge_call G__lets (hr.mono (by omega)) (by rfl) T.g__lets T.F__lets.kp T.b__lets (ga_cons (ge_ix (ge_ix (gv 4) ge_int) (gv 2)) (ga_cons (gv 5) ga_nil))))))).gt
 (gss_one (gs_ret ge_bl))
 gss_nil)))))
 (gss_one (gs_ret ge_bl)))) (fun ds m Q h => ?_)
  obtain ⟨cs, y, rfl, h1, h2, h⟩ := h
  unfold cutsD Way.d
  rw [show startD N__widths_fit [.tup [.str y.mr, .tup (y.ps.map Piece.d), .tup (y.ts.map Test.d)], .tup (cs.map fun c => .tup (c.map fun (w : Nat) => .int (w : Int)))] = [some (.tup [.str y.mr, .tup (y.ps.map Piece.d), .tup (y.ts.map Test.d)]), some (.tup (cs.map fun c => .tup (c.map fun (w : Nat) => .int (w : Int)))), none, none, none, none] from rfl]
  walk_at "pd"
  rw [enumD_map]
  refine loop_pre (us := cs.zipIdx 0) (fun pre s' m' => ∃ c2 c3 c4 c5 : Option D, s' = [some (.tup [.str y.mr, .tup (y.ps.map Piece.d), .tup (y.ts.map Test.d)]), some (.tup (cs.map fun c => .tup (c.map fun (w : Nat) => .int (w : Int)))), c2, c3, c4, c5] ∧ m' = m) (fun z : List Nat × Nat => D.tup [.int (z.2 : Int), .tup (z.1.map fun (w : Nat) => .int (w : Int))]) (fun _ _ _ _ => trivial) ?_ ?_ ⟨_, _, _, _, rfl, rfl⟩
  · rintro pre ⟨c, r⟩ post e s' m' R ⟨c2, c3, c4, c5, rfl, rfl⟩ hR
    have hc : cs[r]? = some c := by
      have : (c, r) ∈ cs.zipIdx 0 := by rw [e]; simp
      simpa using List.mem_zipIdx_iff_getElem?.mp this
    walk_at "w"
    rw [zipD_map]
    refine loop_pre (us := y.ps.zip c) (fun pre s' m'' => ∃ c4 c5 : Option D, s' = [some (.tup [.str y.mr, .tup (y.ps.map Piece.d), .tup (y.ts.map Test.d)]), some (.tup (cs.map fun c => .tup (c.map fun (w : Nat) => .int (w : Int)))), some (.int (r : Int)), some (.tup (c.map fun (w : Nat) => .int (w : Int))), c4, c5] ∧ m'' = m') (fun z : Piece × Nat => D.tup [z.1.d, .int (z.2 : Int)]) (fun _ _ _ _ => trivial) ?_ ?_ ⟨_, _, rfl, rfl⟩
    · rintro pre2 ⟨q, wd⟩ post2 e2 s' m'' R2 ⟨c4, c5, rfl, rfl⟩ hR2
      have hq := h2 r c hc (q, wd) (by rw [e2]; simp)
      cases q with
      | lot nm =>
        unfold Piece.d
        walk_at "w"
        exact hR2 _ _ ⟨_, _, rfl, rfl⟩
      | plain ms =>
        obtain ⟨k, ek, lk⟩ := hq ms rfl
        unfold Piece.d
        walk_at "w"
        refine ⟨_, atI_map ek, k, _, rfl, lk, ?_⟩
        walk_at "w"
        exact hR2 _ _ ⟨_, _, rfl, rfl⟩
    · rintro s' m'' ⟨c4, c5, rfl, rfl⟩
      exact hR _ _ ⟨_, _, _, _, rfl, rfl⟩
  · rintro s' m' ⟨c2, c3, c4, c5, rfl, rfl⟩
    walk_at "w"
    exact sub_refl_fin h
def isLot : Knd → Bool
  | none => true
  | some _ => false
def sp_part_places : SpD := fun ds m Q => ∃ (ks : List Knd), ds = [kindsD ks] ∧ ks.length ≤ 100 ∧ ∀ p : List D, p.length = (ks.filter isLot).length → Q (.tup p) m
theorem ok_part_places  (T : Txt K mg)  : FnOk P w K mg base CX0 (1) T.f_part_places T.fd_part_places ["kinds"] (spL K 1 sp_part_places) := by
  refine fn_ok T.F_part_places sc_part_places (fun cdv A outer s H E hr =>
(gss_one (gs_ret (ge_callTy call_tuple_of lc_tuple (by rfl) T.z_tuple (by decide +kernel) (ga_cons (ge_lc (own := [("place", 1), ("kind", 2)]) rfl sc_part_places.nd (gi_enum (by rfl) T.z_enumerate (ga_cons (gv 0) ga_nil)) (blkOk_by (N := N_part_places) (sc := defScope s_part_places) (by decide +kernel)) (fun _ _ _ _ _ => (gg_tup (n := 2) rfl (ggs_cons (gg_name (i := 1) sc_part_places.nd rfl (.inl rfl)) (ggs_cons (gg_name (i := 2) sc_part_places.nd rfl (.inl rfl)) ggs_nil)))) (fun _ _ _ _ _ => (gts_one (gt_cmpR (op_eqS hr.units) lr_eq (gv 2) ge_str (nomark _)))) (fun _ _ _ _ _ => (gv 1)) (by decide)) ga_nil))))) (fun ds m Q h => ?_)
  obtain ⟨ks, rfl, hk, h⟩ := h
  unfold kindsD
  rw [show startD N_part_places [.tup (ks.map kindD)] = [some (.tup (ks.map kindD)), none, none] from rfl]
  walk_at "pd"
  intro p hp
  rw [enumD_map]
  refine comp_pT (st := fun _ => True) (us := ks.zipIdx 0) (fun z : Knd × Nat => D.tup [.int (z.2 : Int), kindD z.1]) (fun z => .int (z.2 : Int)) (fun z => isLot z.1) (fun _ => trivial) (by rw [List.length_zipIdx]; omega) (fun z hz acc R3 R4 k3 k4 => ?_) ?_
  · obtain ⟨k, i⟩ := z
    cases k with
    | none => rw [show kindD none = .str "lot" from rfl]; walk_at "w"; exact k3 rfl
    | some ws => rw [show kindD (some ws) = .tup (ws.map fun w => .str w.s) from rfl]; walk_at "w"; exact k4 rfl
  · refine ⟨_, seqOf_ref mset_same, m, .new hp, h _ ?_⟩
    rw [List.length_map]
    have : ∀ (l : List Knd) (i : Nat), ((l.zipIdx i).filter fun z => isLot z.1).length = (l.filter isLot).length := fun l => by
      induction l with
      | nil => intro i; rfl
      | cons k l ih =>
        intro i
        rw [List.zipIdx_cons, List.filter_cons, List.filter_cons]
        cases isLot k with
        | true => simp [ih]
        | false => simp [ih]
    exact this ks 0
def lotB : Piece × List (Int × Int) → Bool
  | (.lot _, _) => true
  | _ => false
def nmOf : Piece → Str
  | .lot n => n
  | _ => ""
def dueL (y : Way) (st : List (Int × Int)) (cs : List (List Nat)) : List D := ((y.ps.zip (pst (st.map (·.1)) cs)).filter lotB).map fun q => .tup [.str (nmOf q.1), stD q.2]
def sp_parts_due : SpD := fun ds m Q => ∃ (y : Way) (st : List (Int × Int)) (cs : List (List Nat)), ds = [y.d, stD st, cutsD cs] ∧ st.length = cs.length ∧ (st.length = 1 ∨ st.length = 2) ∧ (∀ c ∈ cs, c.length = y.ps.length) ∧ y.ps.length ≤ 1000 ∧ ∀ p m', m p = none → PD.Sub m m' → m' p = some (.lst (dueL y st cs)) → Q (.ref p) m'
theorem ok_parts_due  (T : Txt K mg) (G_piece_stretches : FnOk P w K mg base CX0 (2) T.f_piece_stretches T.fd_piece_stretches ["stretch", "cut"] (spL K 2 sp_piece_stretches)) : FnOk P w K mg base CX0 (3) T.f_parts_due T.fd_parts_due ["way", "stretch", "cut"] (spL K 3 sp_parts_due) := by
  refine fn_ok T.F_parts_due sc_parts_due (fun cdv A outer s H E hr =>
(gss_cons (gs_set (i := 3) sc_parts_due.nd rfl (.inl rfl) (ge_call G_piece_stretches (hr.mono (by omega)) (by rfl) T.g_piece_stretches T.F_piece_stretches.kp T.b_piece_stretches (ga_cons (gv 1) (ga_cons (gv 2) ga_nil))))
 (gss_one (gs_ret (ge_lc (own := [("piece", 4), ("place", 5)]) rfl sc_parts_due.nd (gi_zipL (by rfl) T.z_zip (ga_cons (ge_ix (gv 0) ge_int) (ga_cons (gv 3) ga_nil))) (blkOk_by (N := N_parts_due) (sc := defScope s_parts_due) (by decide +kernel)) (fun _ _ _ _ _ => (gg_tup (n := 2) rfl (ggs_cons (gg_name (i := 4) sc_parts_due.nd rfl (.inl rfl)) (ggs_cons (gg_name (i := 5) sc_parts_due.nd rfl (.inl rfl)) ggs_nil)))) (fun _ _ _ _ _ => (gts_one (gt_cmpR (op_eqS hr.units) lr_eq (ge_ix (gv 4) ge_int) ge_str (nomark _)))) (fun _ _ _ _ _ => (ge_tup (ga_cons (ge_ix (gv 4) ge_int) (ga_cons (gv 5) ga_nil)))) (by decide)))))) (fun ds m Q h => ?_)
  obtain ⟨y, st, cs, rfl, h1, h2, h3, h4, h⟩ := h
  unfold Way.d
  rw [show startD N_parts_due [.tup [.str y.mr, .tup (y.ps.map Piece.d), .tup (y.ts.map Test.d)], stD st, cutsD cs] = [some (.tup [.str y.mr, .tup (y.ps.map Piece.d), .tup (y.ts.map Test.d)]), some (stD st), some (cutsD cs), none, none, none] from rfl]
  walk_at "pd"
  refine ⟨st, cs, y.ps.length, rfl, h1, h2, h3, h4, ?_⟩
  walk_at "w"
  intro p hp
  rw [zipD_map]
  refine comp_pT (st := fun _ => True) (us := y.ps.zip (pst (st.map (·.1)) cs)) (fun z : Piece × List (Int × Int) => D.tup [z.1.d, stD z.2]) (fun z => .tup [.str (nmOf z.1), stD z.2]) lotB (fun _ => trivial) (by rw [List.length_zip]; omega) (fun z hz acc R3 R4 k3 k4 => ?_) ?_
  · obtain ⟨q, S⟩ := z
    cases q with
    | lot n => unfold Piece.d; walk_at "w"; exact k3 rfl
    | plain ms => unfold Piece.d; walk_at "w"; exact k4 rfl
  · exact sub_refl_fin (h p _ hp (.new hp) mset_same)
def sp__way_of (C : Addr) : SpD := fun ds m Q => ∃ (p : Prog) (nv sv fv av : D) (n : Str) (ws : List Way) (i : Nat) (y : Way) (x z : D), ds = [bookD C p nv sv fv av, .tup [.str n, .int (i : Int), x, z]] ∧ fnd p.lots n = some ws ∧ ws[i]? = some y ∧ Q y.d m
theorem ok__way_of  (T : Txt K mg) (G_Book_ways : FnOk P w K mg base CX0 (1) T.f_Book_ways T.fd_Book_ways ["self", "lot"] (spL K 2 (sp_Book_ways T.c_Book))) : FnOk P w K mg base CX0 (2) T.f__way_of T.fd__way_of ["book", "candidate"] (spL K 2 (sp__way_of T.c_Book)) := by
  refine fn_ok T.F__way_of sc__way_of (fun cdv A outer s H E hr =>
(gss_one (gs_ret (ge_ix (ge_methO T.cls_Book T.m_Book_ways G_Book_ways (hr.mono (by omega)) T.b_Book_ways (gv 0) (ga_cons (ge_ix (gv 1) ge_int) ga_nil)) (ge_ix (gv 1) ge_int))))) (fun ds m Q h => ?_)
  obtain ⟨p, nv, sv, fv, av, n, ws, i, y, x, z, rfl, h1, h2, h⟩ := h
  rw [show startD N__way_of [bookD T.c_Book p nv sv fv av, .tup [.str n, .int (i : Int), x, z]] = [some (bookD T.c_Book p nv sv fv av), some (.tup [.str n, .int (i : Int), x, z])] from rfl]
  walk_at "pd"
  refine ⟨p, nv, sv, fv, av, n, ws, rfl, h1, ?_⟩
  unfold waysD
  walk_at "w"
  exact ⟨_, atI_map h2, sub_refl_fin h⟩
end
section
variable {P : Program} {w : World} {K : PySem.W.Frag} {mg : Str → Option Value} {base : Heap}
def sp__parts_below : SpD := fun ds m Q => ∃ (a b c : D) (xs : List D), ds = [.rol [.tup [a, b, c, .tup xs]]] ∧ xs.length ≤ 1 ∧ Q (.rol xs) m
theorem ok__parts_below  (T : Txt K mg)  : FnOk P w K mg base CX0 (1) T.f__parts_below T.fd__parts_below ["trees"] (spL K 1 sp__parts_below) := by
  refine fn_ok T.F__parts_below sc__parts_below (fun cdv A outer s H E hr =>
(gss_cons (gs_set (i := 1) sc__parts_below.nd rfl (.inl rfl) (ge_lst ga_nil))
 (gss_cons (gs_for PassesOwn.never rfl (gi_seq (gv 0)) (gg_name (i := 2) sc__parts_below.nd rfl (.inl rfl))
 (gss_one (gs_expr (ge_bm PySem.F.slot_list_extend PySem.F.type_list_extend mt_extendU lm_extend (gv 1) (ga_cons (ge_ix (gv 2) ge_int) ga_nil)))))
 (gss_one (gs_ret (ge_frz (gv 1))))))) (fun ds m Q h => ?_)
  obtain ⟨a, b, c, xs, rfl, hx, h⟩ := h
  rw [show startD N__parts_below [.rol [.tup [a, b, c, .tup xs]]] = [some (.rol [.tup [a, b, c, .tup xs]]), none, none] from rfl]
  walk_at "pd"
  intro p hp
  refine ⟨⟨_, _, lstOf_ref mset_same⟩, p, [], xs, lstOf_ref mset_same, rfl, Nat.le_trans (by simpa using hx : _ ≤ 1) (by decide), _, mset_same, m, fun a o e => ?_, h⟩
  have hap : a ≠ p := fun z => by rw [z, hp] at e; cases e
  rw [mdel_ne hap, mset_ne hap, mset_ne hap]; exact e
def sp_height_of : SpD := fun ds m Q => ∃ (n line : Nat) (fr : Bool) (t : Nat), ds = [tnode n line fr t] ∧ t ≤ 200 ∧ Q (.int ((t + 1 : Nat) : Int)) m
theorem ok_height_of  (T : Txt K mg) (G__parts_below : FnOk P w K mg base CX0 (1) T.f__parts_below T.fd__parts_below ["trees"] (spL K 1 sp__parts_below)) : FnOk P w K mg base CX0 (2) T.f_height_of T.fd_height_of ["candidate"] (spL K 1 sp_height_of) := by
  refine fn_ok T.F_height_of sc_height_of (fun cdv A outer s H E hr =>
(gss_cons (gs_set (i := 1) sc_height_of.nd rfl (.inl rfl) ge_int)
 (gss_cons (gs_set (i := 2) sc_height_of.nd rfl (.inl rfl) (ge_lst (ga_cons (gv 0) ga_nil)))
 (gss_cons (gs_while PassesOwn.never (gt_tru (gv 2))
 (gss_cons (gs_aug (i := 1) sc_height_of.nd rfl (.inl rfl) ge_int ip_add lr_ip)
 (gss_one (gs_set (i := 2) sc_height_of.nd rfl (.inl rfl) (ge_call G__parts_below (hr.mono (by omega)) (by rfl) T.g__parts_below T.F__parts_below.kp T.b__parts_below (ga_cons (ge_frz (gv 2)) ga_nil))))))
 (gss_one (gs_ret (gv 1))))))) (fun ds m Q h => ?_)
  obtain ⟨n, line, fr, N, rfl, ht, h⟩ := h
  rw [show startD N_height_of [tnode n line fr N] = [some (tnode n line fr N), none, none] from rfl]
  unfold dWhile
  walk_at "pd"
  intro p hp
  refine ⟨fun k s' m' => ∃ (x : D) (l : List D) (j : Nat), s' = [some (tnode n line fr N), some (.int (j : Int)), some x] ∧ PD.Sub m m' ∧ ((l = [] ∧ j = N + 1 ∧ k = 0) ∨ ∃ t, l = [tnode n line fr t] ∧ j + t = N ∧ k = t + 1) ∧ (x = .rol l ∨ (x = .ref p ∧ m' p = some (.lst l))), ⟨N + 1, _, [tnode n line fr N], 0, rfl, .new hp, .inr ⟨N, rfl, by omega, rfl⟩, .inr ⟨rfl, mset_same⟩⟩, ?_⟩
  rintro k s' m' ⟨x, l, j, rfl, S, hl, hx⟩
  walk_at "pd"
  have go : ∀ (l : List D) (m1 : Mu), PD.Sub m m1 → ((l = [] ∧ j = N + 1 ∧ k = 0) ∨ ∃ t, l = [tnode n line fr t] ∧ j + t = N ∧ k = t + 1) → l ≠ [] → sp__parts_below [.rol l] m1 fun x m1 => ∃ n', n' < k ∧ ∃ (x_1 : D) (l : List D) (j_1 : Nat), [some (tnode n line fr N), some (.int ((j : Int) + 1)), some x] = [some (tnode n line fr N), some (.int (j_1 : Int)), some x_1] ∧ PD.Sub m m1 ∧ ((l = [] ∧ j_1 = N + 1 ∧ n' = 0) ∨ ∃ t, l = [tnode n line fr t] ∧ j_1 + t = N ∧ n' = t + 1) ∧ (x_1 = .rol l ∨ (x_1 = .ref p ∧ m1 p = some (.lst l))) := fun l m1 S1 hl hne => by
    rcases hl with ⟨rfl, _⟩ | ⟨t, rfl, h1, rfl⟩
    · exact absurd rfl hne
    · refine ⟨_, _, _, tkid n line fr t, by rw [tnode_eq], by cases t <;> simp [tkid], t, by omega, _, tkid n line fr t, j + 1, by rw [Int.natCast_add]; rfl, S1, ?_, .inl rfl⟩
      cases t with
      | zero => exact .inl ⟨rfl, by omega, rfl⟩
      | succ t => exact .inr ⟨t, rfl, by omega, rfl⟩
  have fin : l = [] → ∃ m'', PD.Sub m'' m' ∧ Q (.int (j : Int)) m'' := fun e => by
    rcases hl with ⟨_, rfl, _⟩ | ⟨t, rfl, _⟩
    · exact ⟨m, S, h⟩
    · cases e
  rcases hx with rfl | ⟨rfl, ep⟩
  · refine ⟨_, truD_rol, ?_⟩
    cases l with
    | nil => exact fin rfl
    | cons d l => exact go _ m' S hl (by simp)
  · refine ⟨_, truD_ref ep, ?_⟩
    cases l with
    | nil => exact fin rfl
    | cons d l =>
      refine ⟨_, ep, go _ _ (fun a o e => ?_) hl (by simp)⟩
      rw [mdel_ne (fun z => by rw [z, hp] at e; cases e)]; exact S _ _ e
def sp_node_at : SpD := fun ds m Q => ∃ (n line : Nat) (fr : Bool) (t d : Nat), ds = [tnode n line fr t, tzer d] ∧ d ≤ t ∧ Q (tnode n line fr (t - d)) m
theorem ok_node_at  (T : Txt K mg)  : FnOk P w K mg base CX0 (1) T.f_node_at T.fd_node_at ["candidate", "path"] (spL K 2 sp_node_at) := by
  refine fn_ok T.F_node_at sc_node_at (fun cdv A outer s H E hr =>
(gss_cons (gs_set (i := 2) sc_node_at.nd rfl (.inl rfl) (gv 0))
 (gss_cons (gs_for PassesOwn.never rfl (gi_seq (gv 1)) (gg_name (i := 3) sc_node_at.nd rfl (.inl rfl))
 (gss_one (gs_set (i := 2) sc_node_at.nd rfl (.inl rfl) (ge_ix (ge_ix (gv 2) ge_int) (gv 3)))))
 (gss_one (gs_ret (gv 2)))))) (fun ds m Q h => ?_)
  obtain ⟨n, line, fr, N, d, rfl, hd, h⟩ := h
  unfold tzer
  rw [show startD N_node_at [tnode n line fr N, .tup (List.replicate d (.int 0))] = [some (tnode n line fr N), some (.tup (List.replicate d (.int 0))), none, none] from rfl]
  rw [show List.replicate d (D.int 0) = (List.range d).map fun _ => D.int 0 by rw [List.map_const', List.length_range]]
  walk_at "pd"
  refine loop_pre (us := List.range d) (fun pre s' m' => ∃ c3 : Option D, s' = [some (tnode n line fr N), some (.tup ((List.range d).map fun _ => D.int 0)), some (tnode n line fr (N - pre.length)), c3] ∧ m' = m) (fun _ => D.int 0) (fun _ _ _ _ => trivial) ?_ ?_ ⟨_, rfl, rfl⟩
  · rintro pre u post e s' m' R ⟨c3, rfl, rfl⟩ hR
    have hlt : pre.length < d := by have := congrArg List.length e; simp at this; omega
    obtain ⟨t, ht⟩ : ∃ t, N - pre.length = t + 1 := ⟨N - pre.length - 1, by omega⟩
    rw [ht, show tnode n line fr (t + 1) = .tup [.str "s", .int 0, cutsD (tcut n line fr (t + 1)), .tup [tnode n line fr t]] from rfl]
    walk_at "w"
    refine hR _ _ ⟨some (.int 0), ?_, rfl⟩
    rw [List.length_append, List.length_singleton, show N - (pre.length + 1) = t by omega]
  · rintro s' m' ⟨c3, rfl, rfl⟩
    rw [List.length_range]
    walk_at "w"
    exact sub_refl_fin h
/-- the tree with other parts at the node d below -/
def tput (n line : Nat) (fr : Bool) (N : Nat) (o : D) : Nat → D
  | 0 => o
  | d + 1 => .tup [.str "s", .int 0, cutsD (tcut n line fr (N + d + 1)), .tup [tput n line fr N o d]]
def sp_replaced_at : SpD := fun ds m Q => ∃ (n line : Nat) (fr : Bool) (t d : Nat) (o : D), ds = [tnode n line fr t, tzer d, o] ∧ d ≤ t ∧ t ≤ 200 ∧ Q (tput n line fr (t - d) o d) m
theorem ok_replaced_at  (T : Txt K mg) (G_node_at : FnOk P w K mg base CX0 (1) T.f_node_at T.fd_node_at ["candidate", "path"] (spL K 2 sp_node_at)) : FnOk P w K mg base CX0 (2) T.f_replaced_at T.fd_replaced_at ["candidate", "path", "other"] (spL K 3 sp_replaced_at) := by
  refine fn_ok T.F_replaced_at sc_replaced_at (fun cdv A outer s H E hr =>
(gss_cons (gs_setLc (i := 3) (own := [("deep", 6)]) rfl sc_replaced_at.nd rfl rfl (sw_true rfl rfl rfl (by decide +kernel)) (gi_rng1 (by rfl) T.z_range (ga_cons (ge_callB call_lenU lc_len (by rfl) T.z_len PySem.boot_len (ga_cons (gv 1) ga_nil)) ga_nil)) (blkOk_by (N := N_replaced_at) (sc := defScope s_replaced_at) (by decide +kernel)) (fun _ _ _ _ _ => (gg_name (i := 6) sc_replaced_at.nd rfl (.inl rfl))) (fun _ _ _ _ _ => gts_nil) (fun _ _ _ _ _ => (ge_call G_node_at (hr.mono (by omega)) (by rfl) T.g_node_at T.F_node_at.kp T.b_node_at (ga_cons (gv 0) (ga_cons (ge_frz (ge_sliceL (gv 1) go_none (go_some (gv 6)))) ga_nil)))) (by decide))
 (gss_cons (gs_set (i := 4) sc_replaced_at.nd rfl (.inl rfl) (gv 2))
 (gss_cons (gs_for PassesOwn.never rfl (gi_zipW (by rfl) T.z_zip (ga_cons (ge_rev (gv 3)) (ga_cons (ge_rev (gv 1)) ga_nil))) (gg_tup (n := 2) rfl (ggs_cons (gg_tup (n := 4) rfl (ggs_cons (gg_name (i := 7) sc_replaced_at.nd rfl (.inl rfl)) (ggs_cons (gg_name (i := 8) sc_replaced_at.nd rfl (.inl rfl)) (ggs_cons (gg_name (i := 9) sc_replaced_at.nd rfl (.inl rfl)) (ggs_cons (gg_name (i := 10) sc_replaced_at.nd rfl (.inl rfl)) ggs_nil))))) (ggs_cons (gg_name (i := 5) sc_replaced_at.nd rfl (.inl rfl)) ggs_nil)))
 (gss_one (gs_set (i := 4) sc_replaced_at.nd rfl (.inl rfl) (ge_tup (ga_cons (gv 7) (ga_cons (gv 8) (ga_cons (gv 9) (ga_cons (ge_op op_addL lr_addL (ge_op op_addL lr_addL (ge_sliceL (gv 10) go_none (go_some (gv 5))) (ge_tup (ga_cons (gv 4) ga_nil))) (ge_sliceL (gv 10) (go_some (ge_op op_addL lr_addL (gv 5) ge_int)) go_none)) ga_nil))))))))
 (gss_one (gs_ret (gv 4))))))) (fun ds m Q h => ?_)
  obtain ⟨n, line, fr, N, d, o, rfl, hd, hN, h⟩ := h
  unfold tzer
  rw [show startD N_replaced_at [tnode n line fr N, .tup (List.replicate d (.int 0)), o] = [some (tnode n line fr N), some (.tup (List.replicate d (.int 0))), some (o), none, none, none, none, none, none, none, none] from rfl]
  walk_at "pd"
  rw [List.length_replicate]
  refine ⟨by omega, by omega, fun p hp => ?_⟩
  rw [show rangeD 0 ((d : Int)).toNat = (List.range d).map fun (i : Nat) => D.int (i : Int) from by unfold rangeD; simp]
  refine comp_all (st := fun _ => True) (us := List.range d) (fun (i : Nat) => D.int (i : Int)) (fun i => tnode n line fr (N - i)) (fun _ => trivial) (by rw [List.length_range]; omega) (fun z hz acc R2 k2 => ?_) ?_
  · have hz := List.mem_range.mp hz
    walk_at "w"
    rw [cut_to, List.take_replicate, show min z d = z by omega]
    exact ⟨n, line, fr, N, z, rfl, by omega, k2⟩
  unfold dIZipW
  walk_at "pd"
  refine ⟨_, seqOf_ref mset_same, fun p2 hp2 => ?_⟩
  refine ⟨_, _, _, rfl, lsq_ref mset_same, ?_⟩
  have S2 : PD.Sub m (mset (mset m p (.lst ((List.range d).map fun i => tnode n line fr (N - i)))) p2 (.lst ((List.range d).map fun i => tnode n line fr (N - i)).reverse)) := (PD.Sub.new hp).trans (.new hp2)
  have ep2 : mset (mset m p (.lst ((List.range d).map fun i => tnode n line fr (N - i)))) p2 (.lst ((List.range d).map fun i => tnode n line fr (N - i)).reverse) p2 = some (.lst ((List.range d).map fun i => tnode n line fr (N - i)).reverse) := mset_same
  generalize mset (mset m p (.lst ((List.range d).map fun i => tnode n line fr (N - i)))) p2 (.lst ((List.range d).map fun i => tnode n line fr (N - i)).reverse) = m2 at S2 ep2
  have er : ((List.range d).map fun i => tnode n line fr (N - i)).reverse = (List.range d).map fun j => tnode n line fr (N - d + j + 1) := by
    refine List.ext_getElem (by simp) fun i h1 h2 => ?_
    have hi : i < d := by simpa using h1
    simp
    congr 1; omega
  have e0 : (List.replicate d (D.int 0)).reverse = (List.range d).map fun _ => D.int 0 := by rw [List.reverse_replicate, List.map_const', List.length_range]
  rw [er] at ep2 ⊢
  rw [e0, zipD_map, zip_same, List.map_map]
  refine loop_pre (us := List.range d) (fun pre s' m' => ∃ c5 c7 c8 c9 c10 : Option D, s' = [some (tnode n line fr N), some (.tup (List.replicate d (.int 0))), some o, some (.ref p), some (tput n line fr (N - d) o pre.length), c5, none, c7, c8, c9, c10] ∧ m' = m2) _ (fun pre s m' ⟨_, _, _, _, _, _, e⟩ => by rw [e]; exact lsq_ref ep2) ?_ ?_ ⟨_, _, _, _, _, rfl, rfl⟩
  · rintro pre u post e s' m' R ⟨c5, c7, c8, c9, c10, rfl, rfl⟩ hR
    have hu : u = pre.length ∧ pre.length < d := by
      have e1 : (List.range d)[pre.length]? = some u := by rw [e, List.getElem?_append_right (Nat.le_refl _), Nat.sub_self]; rfl
      have hlt := (List.getElem?_eq_some_iff.mp e1).1
      rw [List.length_range] at hlt
      rw [List.getElem?_range hlt] at e1
      injection e1 with e1
      omega
    obtain ⟨rfl, hlt⟩ := hu
    have et : tnode n line fr (N - d + pre.length + 1) = .tup [.str "s", .int 0, cutsD (tcut n line fr (N - d + pre.length + 1)), .tup [tnode n line fr (N - d + pre.length)]] := rfl
    rw [Function.comp_apply]
    dsimp only
    rw [et]
    walk_at "w"
    rw [show PD.cutD [tnode n line fr (N - d + pre.length)] none (some 0) = [] from rfl, show PD.cutD [tnode n line fr (N - d + pre.length)] (some (0 + 1)) none = [] from rfl]
    refine ⟨by decide, Nat.le_trans (by simp : _ ≤ 1) (by decide), hR _ _ ⟨some (.int 0), some (.str "s"), some (.int 0), some (cutsD (tcut n line fr (N - d + pre.length + 1))), some (.tup [tnode n line fr (N - d + pre.length)]), ?_, rfl⟩⟩
    rw [List.length_append, List.length_singleton]
    rfl
  · rintro s' m' ⟨c5, c7, c8, c9, c10, rfl, rfl⟩
    rw [List.length_range]
    walk_at "w"
    exact ⟨m, S2, h⟩
end
def twyN : Nat → Nat
  | 0 => 1
  | _ + 1 => 0
theorem twy_eq (t : Nat) : twy t = (twyN t : Int) := by cases t <;> rfl
def tlots (n line : Nat) (fr : Bool) (c : Nat) : List Way := [tway n line fr c 1, tway n line fr c 0]
theorem tlots_at {n line : Nat} {fr : Bool} {c : Nat} (t : Nat) : (tlots n line fr c)[twyN t]? = some (tway n line fr c t) := by cases t <;> rfl
def tdl (n line : Nat) (fr : Bool) (M A : Nat) : Nat → List D
  | 0 => []
  | t + 1 => [.tup [.str "s", stD (tspan n line fr M A t)]]
theorem tdue {n line : Nat} {fr : Bool} {c M A t : Nat} (hn : NL n line) (ht : t ≤ M) : dueL (tway n line fr c t) (tspan n line fr M A t) (tcut n line fr t) = tdl n line fr M A t := by
  unfold dueL
  rw [tpst hn ht]
  cases t with
  | zero => rfl
  | succ t => cases fr <;> rfl
def tent (n line : Nat) (fr : Bool) (M A N h : Nat) : D := .tup [tzer h, tnode n line fr (N - h), stD (tspan n line fr M A (N - h))]
section
variable {P : Program} {w : World} {K : PySem.W.Frag} {mg : Str → Option Value} {base : Heap}
def sp_nodes_beneath (C : Addr) : SpD := fun ds m Q => ∃ (p : Prog) (nv sv fv av : D) (n line : Nat) (fr : Bool) (c M A N : Nat), ds = [bookD C p nv sv fv av, tnode n line fr N, stD (tspan n line fr M A N)] ∧ fnd p.lots "s" = some (tlots n line fr c) ∧ NL n line ∧ N ≤ M ∧ M ≤ 200 ∧ Q (.rol ((List.range (N + 1)).map (tent n line fr M A N))) m
theorem ok_nodes_beneath  (T : Txt K mg) (G_parts_due : FnOk P w K mg base CX0 (3) T.f_parts_due T.fd_parts_due ["way", "stretch", "cut"] (spL K 3 sp_parts_due)) (G__way_of : FnOk P w K mg base CX0 (2) T.f__way_of T.fd__way_of ["book", "candidate"] (spL K 2 (sp__way_of T.c_Book))) : FnOk P w K mg base CX0 (4) T.f_nodes_beneath T.fd_nodes_beneath ["book", "candidate", "stretch"] (spL K 3 (sp_nodes_beneath T.c_Book)) := by
  refine fn_ok T.F_nodes_beneath sc_nodes_beneath (fun cdv A outer s H E hr =>
(gss_cons (gs_set (i := 3) sc_nodes_beneath.nd rfl (.inl rfl) (ge_lst ga_nil))
 (gss_cons (gs_set (i := 4) sc_nodes_beneath.nd rfl (.inl rfl) (ge_lst (ga_cons (ge_tup (ga_cons (ge_tup ga_nil) (ga_cons (gv 1) (ga_cons (gv 2) ga_nil)))) ga_nil)))
 (gss_cons (gs_while PassesOwn.never (gt_tru (gv 4))
 (gss_cons (gs_asg (ge_bm0 PySem.F.slot_list_pop PySem.F.type_list_pop mt_popU lm_pop (gv 4)) (gg_tup (n := 3) rfl (ggs_cons (gg_name (i := 6) sc_nodes_beneath.nd rfl (.inl rfl)) (ggs_cons (gg_name (i := 7) sc_nodes_beneath.nd rfl (.inl rfl)) (ggs_cons (gg_name (i := 8) sc_nodes_beneath.nd rfl (.inl rfl)) ggs_nil)))))
 (gss_cons (gs_expr (ge_bm PySem.F.slot_list_append PySem.F.type_list_append mt_append lm_append (gv 3) (ga_cons (ge_tup (ga_cons (gv 6) (ga_cons (gv 7) (ga_cons (gv 8) ga_nil)))) ga_nil)))
 (gss_cons (gs_set (i := 5) sc_nodes_beneath.nd rfl (.inl rfl) (ge_lst ga_nil))
 (gss_cons (gs_for PassesOwn.never rfl (gi_enum (by rfl) T.z_enumerate (ga_cons (ge_call G_parts_due (hr.mono (by omega)) (by rfl) T.g_parts_due T.F_parts_due.kp T.b_parts_due (ga_cons (ge_call G__way_of (hr.mono (by omega)) (by rfl) T.g__way_of T.F__way_of.kp T.b__way_of (ga_cons (gv 0) (ga_cons (gv 7) ga_nil))) (ga_cons (gv 8) (ga_cons (ge_ix (gv 7) ge_int) ga_nil)))) ga_nil)) (gg_tup (n := 2) rfl (ggs_cons (gg_name (i := 9) sc_nodes_beneath.nd rfl (.inl rfl)) (ggs_cons (gg_name (i := 10) sc_nodes_beneath.nd rfl (.inl rfl)) ggs_nil)))
 (gss_one (gs_expr (ge_bm PySem.F.slot_list_append PySem.F.type_list_append mt_append lm_append (gv 5) (ga_cons (ge_tup (ga_cons (ge_op op_addL lr_addL (gv 6) (ge_tup (ga_cons (gv 9) ga_nil))) (ga_cons (ge_ix (ge_ix (gv 7) ge_int) (gv 9)) (ga_cons (ge_ix (gv 10) ge_int) ga_nil)))) ga_nil)))))
 (gss_one (gs_expr (ge_bm PySem.F.slot_list_extend PySem.F.type_list_extend mt_extendU lm_extend (gv 4) (ga_cons (ge_rev (gv 5)) ga_nil)))))))))
 (gss_one (gs_ret (ge_frz (gv 3)))))))) (fun ds m Q h => ?_)
  obtain ⟨p, nv, sv, fv, av, n, line, fr, c, M, A, N, rfl, hp, hn, hN, hM, h⟩ := h
  rw [show startD N_nodes_beneath [bookD T.c_Book p nv sv fv av, tnode n line fr N, stD (tspan n line fr M A N)] = [some (bookD T.c_Book p nv sv fv av), some (tnode n line fr N), some (stD (tspan n line fr M A N)), none, none, none, none, none, none, none, none] from rfl]
  unfold dWhile
  walk_at "pd"
  intro pf hpf pd hpd
  have hfd : pf ≠ pd := (mset_none hpd).2.symm
  have hpdm := (mset_none hpd).1
  refine ⟨fun k s' m' => ∃ (h : Nat) (c5 c6 c7 c8 c9 c10 : Option D), s' = [some (bookD T.c_Book p nv sv fv av), some (tnode n line fr N), some (stD (tspan n line fr M A N)), some (.ref pf), some (.ref pd), c5, c6, c7, c8, c9, c10] ∧ h ≤ N + 1 ∧ k = N + 1 - h ∧ m' pf = some (.lst ((List.range h).map (tent n line fr M A N))) ∧ m' pd = some (.lst (if h ≤ N then [tent n line fr M A N h] else [])) ∧ PD.Sub m m', ⟨N + 1, 0, _, _, _, _, _, _, rfl, by omega, rfl, by rw [mset_ne hfd]; exact mset_same, ?_, (PD.Sub.new hpf).trans (.new hpd)⟩, ?_⟩
  · rw [if_pos (by omega), mset_same]; rfl
  rintro k s' m' ⟨hh, c5, c6, c7, c8, c9, c10, rfl, h1, rfl, epf, epd, S⟩
  walk_at "pd"
  refine ⟨_, truD_ref epd, ?_⟩
  by_cases hle : hh ≤ N
  · rw [if_pos hle] at epd ⊢
    walk_at "w"
    refine ⟨⟨_, _, lstOf_ref epd⟩, pd, _, _, lstOf_ref epd, rfl, ?_⟩
    walk_at "w"
    rw [show tent n line fr M A N hh = .tup [tzer hh, tnode n line fr (N - hh), stD (tspan n line fr M A (N - hh))] from rfl]
    walk_at "w"
    rw [← show tent n line fr M A N hh = .tup [tzer hh, tnode n line fr (N - hh), stD (tspan n line fr M A (N - hh))] from rfl]
    rw [show [tent n line fr M A N hh].dropLast = [] from rfl]
    have epf1 : mset m' pd (.lst []) pf = some (.lst ((List.range hh).map (tent n line fr M A N))) := by rw [mset_ne hfd]; exact epf
    refine ⟨⟨_, _, lstOf_ref epf1⟩, pf, _, lstOf_ref epf1, by rw [List.length_map, List.length_range]; exact Nat.lt_of_le_of_lt (by omega : _ ≤ 200) (by decide), ?_⟩
    have epf2 : mset (mset m' pd (.lst [])) pf (.lst ((List.range hh).map (tent n line fr M A N) ++ [tent n line fr M A N hh])) pf = some (.lst ((List.range (hh + 1)).map (tent n line fr M A N))) := by rw [mset_same, List.range_succ, List.map_append]; rfl
    have epd2 : mset (mset m' pd (.lst [])) pf (.lst ((List.range hh).map (tent n line fr M A N) ++ [tent n line fr M A N hh])) pd = some (.lst []) := by rw [mset_ne hfd.symm]; exact mset_same
    have S2 : PD.Sub m (mset (mset m' pd (.lst [])) pf (.lst ((List.range hh).map (tent n line fr M A N) ++ [tent n line fr M A N hh]))) := fun a o e => by
      rw [mset_ne (fun z => by rw [z, hpf] at e; cases e), mset_ne (fun z => by rw [z, hpdm] at e; cases e)]; exact S _ _ e
    generalize mset (mset m' pd (.lst [])) pf (.lst ((List.range hh).map (tent n line fr M A N) ++ [tent n line fr M A N hh])) = m2 at epf2 epd2 S2 ⊢
    intro pb hpb
    have hfb : pf ≠ pb := fun z => by rw [← z, epf2] at hpb; cases hpb
    have hdb : pd ≠ pb := fun z => by rw [← z, epd2] at hpb; cases hpb
    have epf3 := mset_new (o := .lst []) hpb epf2
    have epd3 := mset_new (o := .lst []) hpb epd2
    have S3 := S2.trans (.new (o := .lst []) hpb)
    have epb3 : mset m2 pb (.lst []) pb = some (.lst []) := mset_same
    generalize mset m2 pb (.lst []) = m3 at epf3 epd3 S3 epb3
    obtain ⟨t, ht⟩ : ∃ t, t = N - hh := ⟨_, rfl⟩
    rw [← ht]
    refine ⟨p, nv, sv, fv, av, "s", _, twyN t, tway n line fr c t, cutsD (tcut n line fr t), .tup (tkid n line fr t), by rw [tnode_eq, twy_eq], hp, tlots_at t, ?_⟩
    rw [tnode_eq t]
    walk_at "w"
    refine ⟨tway n line fr c t, tspan n line fr M A t, tcut n line fr t, rfl, by rw [tspan_len, tcut_len], by rw [tspan_len]; exact hn.two.1, tcut_ps, by cases t <;> cases fr <;> simp [tway], ?_⟩
    rw [tdue hn (by omega)]
    intro pq m4 hpq S4' epq
    have hfq : pf ≠ pq := fun z => by rw [← z, epf3] at hpq; cases hpq
    have hdq : pd ≠ pq := fun z => by rw [← z, epd3] at hpq; cases hpq
    have hbq : pb ≠ pq := fun z => by rw [← z, epb3] at hpq; cases hpq
    have epf4 := S4' _ _ epf3
    have epd4 := S4' _ _ epd3
    have epb4 := S4' _ _ epb3
    have S4 := S3.trans S4'
    walk_at "w"
    have fin : ∀ (m6 : Mu) (d6 d7 d8 d9 d10 : Option D), m6 pf = some (.lst ((List.range (hh + 1)).map (tent n line fr M A N))) → m6 pd = some (.lst (if hh + 1 ≤ N then [tent n line fr M A N (hh + 1)] else [])) → PD.Sub m m6 → ∃ n', n' < N + 1 - hh ∧ ∃ (h : Nat) (c5 c6 c7 c8 c9 c10 : Option D), [some (bookD T.c_Book p nv sv fv av), some (tnode n line fr N), some (stD (tspan n line fr M A N)), some (.ref pf), some (.ref pd), some (.ref pb), d6, d7, d8, d9, d10] = [some (bookD T.c_Book p nv sv fv av), some (tnode n line fr N), some (stD (tspan n line fr M A N)), some (.ref pf), some (.ref pd), c5, c6, c7, c8, c9, c10] ∧ h ≤ N + 1 ∧ n' = N + 1 - h ∧ m6 pf = some (.lst ((List.range h).map (tent n line fr M A N))) ∧ m6 pd = some (.lst (if h ≤ N then [tent n line fr M A N h] else [])) ∧ PD.Sub m m6 := fun m6 d6 d7 d8 d9 d10 e1 e2 S6 =>
      ⟨N + 1 - (hh + 1), by omega, hh + 1, _, _, _, _, _, _, rfl, by omega, rfl, e1, e2, S6⟩
    have ext : ∀ (m5 : Mu) (p6 : Addr) (l : List D), m5 p6 = none → m5 pf = some (.lst ((List.range (hh + 1)).map (tent n line fr M A N))) → PD.Sub m m5 → mset (mset m5 p6 (.lst l)) pd (.lst ([] ++ l)) pf = some (.lst ((List.range (hh + 1)).map (tent n line fr M A N))) ∧ PD.Sub m (mset (mset m5 p6 (.lst l)) pd (.lst ([] ++ l))) := fun m5 p6 l h6 e1 S5 => by
      have hf6 : pf ≠ p6 := fun z => by rw [← z, e1] at h6; cases h6
      refine ⟨by rw [mset_ne hfd, mset_ne hf6]; exact e1, fun a o e => ?_⟩
      rw [mset_ne (fun z => by rw [z, hpdm] at e; cases e), mset_ne (fun z => by have := S5 _ _ e; rw [z, h6] at this; cases this)]; exact S5 _ _ e
    cases t with
    | zero =>
      rw [show tdl n line fr M A 0 = [] from rfl] at epq
      refine ⟨_, seqOf_ref epq, seqOf_ref epq, ?_⟩
      walk_at "w"
      refine ⟨⟨_, _, lstOf_ref epd4⟩, _, seqOf_ref epb4, fun p6 hp6 => ?_⟩
      have hd6 : pd ≠ p6 := fun z => by rw [← z, epd4] at hp6; cases hp6
      refine ⟨pd, _, _, lstOf_ref (by rw [mset_ne hd6]; exact epd4), seqOf_ref mset_same, by decide, ?_⟩
      obtain ⟨x1, x2⟩ := ext m4 p6 [] hp6 epf4 S4
      exact fin _ _ _ _ _ _ x1 (by rw [mset_same, if_neg (by omega)]; rfl) x2
    | succ t =>
      rw [show tdl n line fr M A (t + 1) = [.tup [.str "s", stD (tspan n line fr M A t)]] from rfl] at epq
      rw [show tkid n line fr (t + 1) = [tnode n line fr t] from rfl]
      refine ⟨_, seqOf_ref epq, seqOf_ref epq, ?_⟩
      unfold tzer
      walk_at "w"
      refine ⟨⟨_, _, lstOf_ref epb4⟩, Nat.le_trans (by rw [List.length_replicate]; omega : _ ≤ 300) (by decide), _, atI_nat (j := 0) rfl, pb, _, lstOf_ref epb4, by decide, ?_⟩
      have ex : D.tup [.tup (List.replicate hh (.int 0) ++ [.int ((0 : Nat) : Int)]), tnode n line fr t, stD (tspan n line fr M A t)] = tent n line fr M A N (hh + 1) := by
        unfold tent tzer
        rw [show N - (hh + 1) = t by omega, List.replicate_succ']; rfl
      rw [ex]
      have epf5 : mset m4 pb (.lst ([] ++ [tent n line fr M A N (hh + 1)])) pf = some (.lst ((List.range (hh + 1)).map (tent n line fr M A N))) := by rw [mset_ne hfb]; exact epf4
      have epd5 : mset m4 pb (.lst ([] ++ [tent n line fr M A N (hh + 1)])) pd = some (.lst []) := by rw [mset_ne hdb]; exact epd4
      have epq5 : mset m4 pb (.lst ([] ++ [tent n line fr M A N (hh + 1)])) pq = some (.lst [.tup [.str "s", stD (tspan n line fr M A t)]]) := by rw [mset_ne hbq.symm]; exact epq
      have epb5 : mset m4 pb (.lst ([] ++ [tent n line fr M A N (hh + 1)])) pb = some (.lst [tent n line fr M A N (hh + 1)]) := mset_same
      have S5 : PD.Sub m (mset m4 pb (.lst ([] ++ [tent n line fr M A N (hh + 1)]))) := fun a o e => by
        rw [mset_ne (fun z => by have := S2 _ _ e; rw [z, hpb] at this; cases this)]; exact S4 _ _ e
      generalize mset m4 pb (.lst ([] ++ [tent n line fr M A N (hh + 1)])) = m5 at epf5 epd5 epq5 epb5 S5 ⊢
      refine ⟨seqOf_ref epq5, ?_⟩
      walk_at "w"
      refine ⟨⟨_, _, lstOf_ref epd5⟩, _, seqOf_ref epb5, fun p6 hp6 => ?_⟩
      have hd6 : pd ≠ p6 := fun z => by rw [← z, epd5] at hp6; cases hp6
      refine ⟨pd, _, _, lstOf_ref (by rw [mset_ne hd6]; exact epd5), seqOf_ref mset_same, (by show 1 ≤ sizeLine; decide), ?_⟩
      obtain ⟨x1, x2⟩ := ext m5 p6 [tent n line fr M A N (hh + 1)] hp6 epf5 S5
      exact fin _ _ _ _ _ _ x1 (by rw [mset_same, if_pos (by omega)]; rfl) x2
  · rw [if_neg hle] at epd ⊢
    walk_at "w"
    have e : hh = N + 1 := by omega
    subst e
    refine ⟨_, epf, m, fun a o e => ?_, h⟩
    rw [mdel_ne (fun z => by rw [z, hpf] at e; cases e)]; exact S _ _ e
def sp_nodes_of (C : Addr) : SpD := fun ds m Q => ∃ (p : Prog) (nv sv fv av : D) (n line : Nat) (fr : Bool) (c M A N : Nat), ds = [bookD C p nv sv fv av, tnode n line fr N, stD (tspan n line fr M A N)] ∧ fnd p.lots "s" = some (tlots n line fr c) ∧ NL n line ∧ N ≤ M ∧ M ≤ 200 ∧ Q (.tup ((List.range (N + 1)).map fun h => .tup [tzer h, .str "s", stD (tspan n line fr M A (N - h))])) m
theorem ok_nodes_of  (T : Txt K mg) (G_nodes_beneath : FnOk P w K mg base CX0 (4) T.f_nodes_beneath T.fd_nodes_beneath ["book", "candidate", "stretch"] (spL K 3 (sp_nodes_beneath T.c_Book))) : FnOk P w K mg base CX0 (5) T.f_nodes_of T.fd_nodes_of ["book", "candidate", "stretch"] (spL K 3 (sp_nodes_of T.c_Book)) := by
  refine fn_ok T.F_nodes_of sc_nodes_of (fun cdv A outer s H E hr =>
(gss_cons (gs_set (i := 3) sc_nodes_of.nd rfl (.inl rfl) (ge_call G_nodes_beneath (hr.mono (by omega)) (by rfl) T.g_nodes_beneath T.F_nodes_beneath.kp T.b_nodes_beneath (ga_cons (gv 0) (ga_cons (gv 1) (ga_cons (gv 2) ga_nil)))))
 (gss_one (gs_ret (ge_callTy call_tuple_of lc_tuple (by rfl) T.z_tuple (by decide +kernel) (ga_cons (ge_lc (own := [("path", 4), ("tree", 5), ("place", 6)]) rfl sc_nodes_of.nd (gi_seq (gv 3)) (blkOk_by (N := N_nodes_of) (sc := defScope s_nodes_of) (by decide +kernel)) (fun _ _ _ _ _ => (gg_tup (n := 3) rfl (ggs_cons (gg_name (i := 4) sc_nodes_of.nd rfl (.inl rfl)) (ggs_cons (gg_name (i := 5) sc_nodes_of.nd rfl (.inl rfl)) (ggs_cons (gg_name (i := 6) sc_nodes_of.nd rfl (.inl rfl)) ggs_nil))))) (fun _ _ _ _ _ => gts_nil) (fun _ _ _ _ _ => (ge_tup (ga_cons (gv 4) (ga_cons (ge_ix (gv 5) ge_int) (ga_cons (gv 6) ga_nil))))) (by decide)) ga_nil)))))) (fun ds m Q h => ?_)
  obtain ⟨p, nv, sv, fv, av, n, line, fr, c, M, A, N, rfl, hp, hn, hN, hM, h⟩ := h
  rw [show startD N_nodes_of [bookD T.c_Book p nv sv fv av, tnode n line fr N, stD (tspan n line fr M A N)] = [some (bookD T.c_Book p nv sv fv av), some (tnode n line fr N), some (stD (tspan n line fr M A N)), none, none, none, none] from rfl]
  walk_at "pd"
  refine ⟨p, nv, sv, fv, av, n, line, fr, c, M, A, N, rfl, hp, hn, hN, hM, ?_⟩
  walk_at "w"
  intro q hq
  refine comp_all (us := List.range (N + 1)) (tent n line fr M A N) (fun h => .tup [tzer h, .str "s", stD (tspan n line fr M A (N - h))]) (fun _ => trivial) (by rw [List.length_range]; omega) (fun z hz acc R2 k2 => ?_) ?_
  · unfold tent
    rw [tnode_eq]
    walk_at "w"
    exact k2
  · exact ⟨_, seqOf_ref mset_same, m, .new hq, h⟩
end
def tgood (fr : Bool) (M A c : Nat) (x : Tx) : Nat → Bool
  | 0 => true
  | t + 1 => decide (x[tpos fr M A t]? = some c)
theorem tgood_s {fr : Bool} {M A c t : Nat} {x : Tx} : tgood fr M A c x (t + 1) = decide (x[tpos fr M A t]? = some c) := rfl
theorem tpl_s {n line : Nat} {fr : Bool} {M A t : Nat} : tpl n line fr M A (t + 1) = if fr = true then [tone n line (tpos fr M A t), tspan n line fr M A t] else [tspan n line fr M A t, tone n line (tpos fr M A t)] := rfl
theorem tway_s {n line : Nat} {fr : Bool} {c t : Nat} : tway n line fr c (t + 1) = ⟨"f", if fr = true then [.plain (tmarks n line c), .lot "s"] else [.lot "s", .plain (tmarks n line c)], []⟩ := rfl
theorem tpos_lt {fr : Bool} {M A t : Nat} (h : t + 1 ≤ M) : tpos fr M A t < A + M := by unfold tpos; split <;> omega
theorem inr_row {n line : Nat} {x : Tx} {u : Int × Int} (h0 : 0 ≤ u.1) (h1 : u.1 ≤ u.2) (h2 : u.2 ≤ x.length) (h3 : x.length ≤ 1000) : InR (trow n line x) ((List.range n).map fun i => if i = line then u else (0, 0)) := by
  unfold InR trow
  rw [List.zip_map']
  intro q hq
  obtain ⟨i, _, rfl⟩ := List.mem_map.mp hq
  dsimp only
  by_cases h : i = line
  · rw [if_pos h, if_pos h]; omega
  · rw [if_neg h, if_neg h]; simp
theorem inr_pl {n line : Nat} {fr : Bool} {M A : Nat} {x : Tx} (hx : x.length = A + M + 2) (hM : A + M ≤ 300) : ∀ {t : Nat}, t ≤ M → ∀ S ∈ tpl n line fr M A t, InR (trow n line x) S := by
  have hs : ∀ t ≤ M, InR (trow n line x) (tspan n line fr M A t) := fun t ht => by
    unfold tspan
    cases fr
    · exact inr_row (u := ((A : Int), (A : Int) + t)) (by dsimp only; omega) (by dsimp only; omega) (by dsimp only; omega) (by omega)
    · exact inr_row (u := ((A : Int) + M - t, (A : Int) + M)) (by dsimp only; omega) (by dsimp only; omega) (by dsimp only; omega) (by omega)
  intro t ht S hS
  cases t with
  | zero =>
    rw [show tpl n line fr M A 0 = [tspan n line fr M A 0] from rfl] at hS
    rw [List.mem_singleton.mp hS]; exact hs 0 ht
  | succ t =>
    have h1 : InR (trow n line x) (tone n line (tpos fr M A t)) := by
      have := tpos_lt (fr := fr) (A := A) ht
      exact inr_row (u := (((tpos fr M A t : Nat) : Int), ((tpos fr M A t : Nat) : Int) + 1)) (by dsimp only; omega) (by dsimp only; omega) (by dsimp only; omega) (by omega)
    rw [tpl_s] at hS
    cases fr
    · rw [if_neg (by decide)] at hS
      simp only [List.mem_cons, List.not_mem_nil, or_false] at hS
      rcases hS with rfl | rfl
      · exact hs t (by omega)
      · exact h1
    · rw [if_pos rfl] at hS
      simp only [List.mem_cons, List.not_mem_nil, or_false] at hS
      rcases hS with rfl | rfl
      · exact h1
      · exact hs t (by omega)
theorem one_at {x : Tx} {p : Nat} (h : p < x.length) : ∃ b, x[p]? = some b ∧ (x.drop p).take 1 = [b] := ⟨x[p], List.getElem?_eq_getElem h, by
  rw [List.drop_eq_getElem_cons h]; rfl⟩
theorem tlhold {n line : Nat} {fr : Bool} {M A c : Nat} {sg x : Tx} (hn : NL n line) (hx : x.length = A + M + 2) : ∀ {t : Nat}, t ≤ M → lhold sg (tway n line fr c t).ps (((tway n line fr c t).ps.zip (tpl n line fr M A t)).map (txOf (trow n line x))) = tgood fr M A c x t
  | 0, _ => by
    rcases hn with ⟨rfl, rfl⟩ | ⟨rfl, rfl⟩ | ⟨rfl, rfl⟩ <;> cases fr <;> simp [lhold, tway, tpl, txOf, txIn, trow, tspan, pfit, mfit, tgood, List.range_succ, List.replicate]
  | t + 1, ht => by
    obtain ⟨b, h1, h2⟩ := one_at (x := x) (p := tpos fr M A t) (by have := tpos_lt (fr := fr) (A := A) ht; omega)
    have e : tgood fr M A c x (t + 1) = decide (b = c) := by
      rw [tgood_s, h1]; simp
    rw [e]
    have e1 : ∀ p : Nat, ((p : Int) + 1 - (p : Int)).toNat = 1 := fun p => by omega
    cases fr <;> rcases hn with ⟨rfl, rfl⟩ | ⟨rfl, rfl⟩ | ⟨rfl, rfl⟩ <;> simp [lhold, tway_s, tpl_s, txOf, txIn, trow, tone, tmarks, pfit, mfit, fitB, List.range_succ, h2, e1] <;> rw [h2]
theorem lh_cond {y : Way} {R : List Tx} {X : List (List (Int × Int))} (h1 : X.length = y.ps.length) (h2 : R.length ≤ 10) (h3 : ∀ l ∈ R, l.length ≤ 1000) (h4 : ∀ ms, Piece.plain ms ∈ y.ps → ms.length ≤ 10) :
    ((y.ps.zip X).map (txOf R)).length = y.ps.length ∧ (∀ (ms : List Mark) (ts : List Tx) (i : Nat), y.ps[i]? = some (.plain ms) → ((y.ps.zip X).map (txOf R))[i]? = some (some ts) → ms.length ≤ 10 ∧ ts.length ≤ 10) ∧
    (∀ (ms : List Mark) (i : Nat), y.ps[i]? = some (.plain ms) → ∃ ts, ((y.ps.zip X).map (txOf R))[i]? = some (some ts)) ∧ (∀ ts, some ts ∈ (y.ps.zip X).map (txOf R) → ∀ t ∈ ts, t.length ≤ 1000) := by
  have hl : ∀ S, (txIn R S).length ≤ 10 := fun S => by unfold txIn; rw [List.length_map, List.length_zip]; omega
  refine ⟨by rw [List.length_map, List.length_zip, h1, Nat.min_self], fun ms ts i e1 e2 => ⟨h4 ms (List.mem_of_getElem? e1), ?_⟩, fun ms i e1 => ?_, fun ts hts t ht => ?_⟩
  · rw [List.getElem?_map] at e2
    obtain ⟨z, e3, e4⟩ := Option.map_eq_some_iff.mp e2
    unfold txOf at e4
    split at e4
    · cases e4
    · injection e4 with e4; rw [← e4]; exact hl _
  · have hi := (List.getElem?_eq_some_iff.mp e1).1
    obtain ⟨S, eS⟩ : ∃ S, X[i]? = some S := ⟨_, List.getElem?_eq_getElem (by omega)⟩
    refine ⟨txIn R S, ?_⟩
    rw [List.getElem?_map, List.getElem?_zip_eq_some.mpr (show y.ps[i]? = some (Piece.plain ms, S).1 ∧ X[i]? = some (Piece.plain ms, S).2 from ⟨e1, eS⟩)]
    rfl
  · obtain ⟨z, _, e4⟩ := List.mem_map.mp hts
    unfold txOf at e4
    split at e4
    · cases e4
    · injection e4 with e4
      subst e4
      unfold txIn at ht
      obtain ⟨q, hq, rfl⟩ := List.mem_map.mp ht
      have := h3 _ (List.of_mem_zip hq).1
      rw [List.length_take, List.length_drop]; omega
theorem tfit {n line : Nat} {fr : Bool} {c : Nat} : ∀ {t : Nat} (r : Nat) cc, (tcut n line fr t)[r]? = some cc → ∀ q ∈ (tway n line fr c t).ps.zip cc, ∀ ms, q.1 = .plain ms → ∃ k, ms[r]? = some k ∧ letB k q.2
  | 0, r, cc, h, q, hq, ms, hm => by
    have hr := (List.getElem?_eq_some_iff.mp h).1
    rw [tcut_len] at hr
    unfold tcut at h
    rw [List.getElem?_replicate, if_pos hr] at h
    injection h with h
    subst h
    have hq : q ∈ [(Piece.plain (List.replicate n .none), 0)] := hq
    rw [List.mem_singleton.mp hq] at hm ⊢
    injection hm with hm
    subst hm
    refine ⟨.none, by rw [List.getElem?_replicate, if_pos hr], ?_⟩
    unfold letB boxOf; simp
  | t + 1, r, cc, h, q, hq, ms, hm => by
    have hr := (List.getElem?_eq_some_iff.mp h).1
    rw [tcut_len] at hr
    unfold tcut at h
    rw [List.getElem?_map, List.getElem?_range hr] at h
    injection h with h
    have hmk : (tmarks n line c)[r]? = some (if r = line then Mark.sign [c] else .none) := by unfold tmarks; rw [List.getElem?_map, List.getElem?_range hr]; rfl
    have key : ms = tmarks n line c ∧ (q.2 : Int) = if r = line then 1 else 0 := by
      subst h
      rw [tway_s] at hq
      dsimp only at hq
      by_cases hl : r = line
      · rw [if_pos hl] at hq ⊢
        cases fr <;> (simp at hq; rcases hq with rfl | rfl) <;> simp at hm ⊢ <;> exact hm.symm
      · rw [if_neg hl] at hq ⊢
        cases fr <;> (simp at hq; rcases hq with rfl | rfl) <;> simp at hm ⊢ <;> exact hm.symm
    refine ⟨_, by rw [key.1]; exact hmk, ?_⟩
    rw [key.2]
    by_cases hl : r = line
    · rw [if_pos hl, if_pos hl]; unfold letB boxOf; simp
    · rw [if_neg hl, if_neg hl]; unfold letB boxOf; simp
theorem tpl_len {n line : Nat} {fr : Bool} {M A c : Nat} : ∀ {t : Nat}, (tpl n line fr M A t).length = (tway n line fr c t).ps.length
  | 0 => rfl
  | t + 1 => by rw [tpl_s, tway_s]; cases fr <;> rfl
theorem tway_ms {n line : Nat} {fr : Bool} {c : Nat} (hn : n ≤ 2) : ∀ {t : Nat} ms, Piece.plain ms ∈ (tway n line fr c t).ps → ms.length ≤ 10
  | 0, ms, h => by
    have h : Piece.plain ms ∈ [Piece.plain (List.replicate n .none)] := h
    have := List.mem_singleton.mp h
    injection this with this
    rw [this, List.length_replicate]; omega
  | t + 1, ms, h => by
    have : (tmarks n line c).length = n := by unfold tmarks; rw [List.length_map, List.length_range]
    rw [tway_s] at h
    cases fr <;> (simp at h; rw [h, this]; omega)
theorem tway_len {n line : Nat} {fr : Bool} {c : Nat} : ∀ {t : Nat}, (tway n line fr c t).ps.length ≤ 2
  | 0 => by show 1 ≤ 2; omega
  | t + 1 => by rw [tway_s]; cases fr <;> (show 2 ≤ 2; omega)
theorem tway_ts {n line : Nat} {fr : Bool} {c : Nat} : ∀ {t : Nat}, (tway n line fr c t).ts = []
  | 0 => rfl
  | t + 1 => rfl
theorem tkid_len {n line : Nat} {fr : Bool} {c : Nat} : ∀ {t : Nat}, ((tway n line fr c t).k.filter isLot).length = (tkid n line fr t).length
  | 0 => rfl
  | t + 1 => by unfold Way.k; rw [tway_s]; cases fr <;> rfl
section
variable {P : Program} {w : World} {K : PySem.W.Frag} {mg : Str → Option Value} {base : Heap}
structure TO (p : Prog) (n line : Nat) (fr : Bool) (c M A : Nat) (x : Tx) : Prop where
  hp : fnd p.lots "s" = some (tlots n line fr c)
  hn : NL n line
  hM : M ≤ 150
  hA : A ≤ 10
  hx : x.length = A + M + 2
def sp__wrong_here (C : Addr) : SpD := fun ds m Q => ∃ (p : Prog) (nv sv fv av : D) (n line : Nat) (fr : Bool) (c M A t : Nat) (x : Tx), ds = [bookD C p nv sv fv av, rowsD (trow n line x), tnode n line fr t, .str "s", stD (tspan n line fr M A t)] ∧ TO p n line fr c M A x ∧ t ≤ M ∧ Q (if tgood fr M A c x t = true then .non else .str "sign") m
theorem ok__wrong_here  (T : Txt K mg) (G_part_places : FnOk P w K mg base CX0 (1) T.f_part_places T.fd_part_places ["kinds"] (spL K 1 sp_part_places)) (G_kinds_of : FnOk P w K mg base CX0 (2) T.f_kinds_of T.fd_kinds_of ["way"] (spL K 1 sp_kinds_of)) (G_tests_hold : FnOk P w K mg base CX0 (2) T.f_tests_hold T.fd_tests_hold ["book", "way", "dress"] (spL K 3 (sp_tests_hold T.c_Book))) (G_letters_hold : FnOk P w K mg base CX0 (3) T.f_letters_hold T.fd_letters_hold ["book", "way", "dress"] (spL K 3 (sp_letters_hold T.c_Book))) (G_dress_of : FnOk P w K mg base CX0 (3) T.f_dress_of T.fd_dress_of ["rows", "way", "stretch", "cut"] (spL K 4 sp_dress_of)) (G__widths_fit : FnOk P w K mg base CX0 (3) T.f__widths_fit T.fd__widths_fit ["way", "cut"] (spL K 2 sp__widths_fit)) (G__is_cut : FnOk P w K mg base CX0 (3) T.f__is_cut T.fd__is_cut ["cut", "way", "stretch"] (spL K 3 sp__is_cut)) (G__is_number : FnOk P w K mg base CX0 (1) T.f__is_number T.fd__is_number ["value"] (spL K 1 sp__is_number)) (G_Book_ways : FnOk P w K mg base CX0 (1) T.f_Book_ways T.fd_Book_ways ["self", "lot"] (spL K 2 (sp_Book_ways T.c_Book))) : FnOk P w K mg base CX0 (4) T.f__wrong_here T.fd__wrong_here ["book", "rows", "tree", "lot", "stretch"] (spL K 5 (sp__wrong_here T.c_Book)) := by
  refine fn_ok T.F__wrong_here sc__wrong_here (fun cdv A outer s H E hr =>
(gss_cons (gs_if (gt_cmpR (op_neS hr.units) lr_ne (ge_ix (gv 2) ge_int) (gv 3) (nomark _))
 (gss_one (gs_ret ge_str))
 gss_nil)
 (gss_cons (gs_set (i := 5) sc__wrong_here.nd rfl (.inl rfl) (ge_methO T.cls_Book T.m_Book_ways G_Book_ways (hr.mono (by omega)) T.b_Book_ways (gv 0) (ga_cons (gv 3) ga_nil)))
 (gss_cons (gs_if (gw_or (gt_not (gt_val (ge_call G__is_number (hr.mono (by omega)) (by rfl) T.g__is_number T.F__is_number.kp T.b__is_number (ga_cons (ge_ix (gv 2) ge_int) ga_nil)))) (gw_or1 (gt_cmpR op_ge lr_cmp (ge_ix (gv 2) ge_int) (ge_callB call_lenU lc_len (by rfl) T.z_len PySem.boot_len (ga_cons (gv 5) ga_nil)) (nomark _)))).gt
 (gss_one (gs_ret ge_str))
 gss_nil)
 (gss_cons (gs_set (i := 6) sc__wrong_here.nd rfl (.inl rfl) (ge_ix (gv 5) (ge_ix (gv 2) ge_int)))
 (gss_cons (gs_if (gt_not (gt_val (ge_call G__is_cut (hr.mono (by omega)) (by rfl) T.g__is_cut T.F__is_cut.kp T.b__is_cut (ga_cons (ge_ix (gv 2) ge_int) (ga_cons (gv 6) (ga_cons (gv 4) ga_nil))))))
 (gss_one (gs_ret ge_str))
 gss_nil)
 (gss_cons (gs_if (gt_not (gt_val (ge_call G__widths_fit (hr.mono (by omega)) (by rfl) T.g__widths_fit T.F__widths_fit.kp T.b__widths_fit (ga_cons (gv 6) (ga_cons (ge_ix (gv 2) ge_int) ga_nil)))))
 (gss_one (gs_ret ge_str))
 gss_nil)
 (gss_cons (gs_set (i := 7) sc__wrong_here.nd rfl (.inl rfl) (ge_call G_dress_of (hr.mono (by omega)) (by rfl) T.g_dress_of T.F_dress_of.kp T.b_dress_of (ga_cons (gv 1) (ga_cons (gv 6) (ga_cons (gv 4) (ga_cons (ge_ix (gv 2) ge_int) ga_nil))))))
 (gss_cons (gs_if (gt_not (gt_val (ge_call G_letters_hold (hr.mono (by omega)) (by rfl) T.g_letters_hold T.F_letters_hold.kp T.b_letters_hold (ga_cons (gv 0) (ga_cons (gv 6) (ga_cons (gv 7) ga_nil))))))
 (gss_one (gs_ret ge_str))
 gss_nil)
 (gss_cons (gs_if (gt_not (gt_val (ge_call G_tests_hold (hr.mono (by omega)) (by rfl) T.g_tests_hold T.F_tests_hold.kp T.b_tests_hold (ga_cons (gv 0) (ga_cons (gv 6) (ga_cons (gv 7) ga_nil))))))
 (gss_one (gs_ret ge_str))
 gss_nil)
 (gss_cons (gs_if (gt_cmpR (op_neS hr.units) lr_ne (ge_callB call_lenU lc_len (by rfl) T.z_len PySem.boot_len (ga_cons (ge_ix (gv 2) ge_int) ga_nil)) (ge_callB call_lenU lc_len (by rfl) T.z_len PySem.boot_len (ga_cons (ge_call G_part_places (hr.mono (by omega)) (by rfl) T.g_part_places T.F_part_places.kp T.b_part_places (ga_cons (ge_call G_kinds_of (hr.mono (by omega)) (by rfl) T.g_kinds_of T.F_kinds_of.kp T.b_kinds_of (ga_cons (gv 6) ga_nil)) ga_nil)) ga_nil)) (nomark _))
 (gss_one (gs_ret ge_str))
 gss_nil)
 (gss_one (gs_ret ge_non))))))))))))) (fun ds m Q h => ?_)
  obtain ⟨p, nv, sv, fv, av, n, line, fr, c, M, A, t, x, rfl, ⟨hp, hn, hM, hA, hx⟩, ht, h⟩ := h
  obtain ⟨hn2, _⟩ := hn.two
  rw [tnode_eq, twy_eq]
  rw [show startD N__wrong_here [bookD T.c_Book p nv sv fv av, rowsD (trow n line x), .tup [.str "s", .int ((twyN t : Nat) : Int), cutsD (tcut n line fr t), .tup (tkid n line fr t)], .str "s", stD (tspan n line fr M A t)] = [some (bookD T.c_Book p nv sv fv av), some (rowsD (trow n line x)), some (.tup [.str "s", .int ((twyN t : Nat) : Int), cutsD (tcut n line fr t), .tup (tkid n line fr t)]), some (.str "s"), some (stD (tspan n line fr M A t)), none, none, none] from rfl]
  walk_at "pd"
  refine ⟨p, nv, sv, fv, av, "s", _, rfl, hp, ?_⟩
  unfold waysD
  walk_at "w"
  refine ⟨_, rfl, by omega, ?_⟩
  walk_at "w"
  rw [if_neg (by cases t <;> simp [twyN, tlots])]
  refine ⟨_, atI_map (tlots_at t), ?_⟩
  walk_at "w"
  refine ⟨tcut n line fr t, tway n line fr c t, tspan n line fr M A t, rfl, by rw [tspan_len, tcut_len], by rw [tcut_len]; omega, tcut_ps, Nat.le_trans tway_len (by omega), tcut_sum hn ht, ?_⟩
  walk_at "w"
  refine ⟨tcut n line fr t, tway n line fr c t, rfl, by rw [tcut_len]; omega, tfit, ?_⟩
  walk_at "w"
  refine ⟨trow n line x, tway n line fr c t, tspan n line fr M A t, tcut n line fr t, rfl, by rw [tspan_len, tcut_len], by rw [tspan_len]; exact hn2, tcut_ps, Nat.le_trans tway_len (by omega), by rw [trow_len]; omega, ?_, ?_⟩
  · rw [tpst hn ht]; exact inr_pl hx (by omega) ht
  rw [tpst hn ht]
  have hxl : ∀ l ∈ trow n line x, l.length ≤ 1000 := fun l hl => by
    obtain ⟨i, _, rfl⟩ := List.mem_map.mp hl
    by_cases e : i = line
    · rw [if_pos e]; omega
    · rw [if_neg e]; simp
  obtain ⟨g1, g2, g3, g4⟩ := lh_cond (y := tway n line fr c t) (R := trow n line x) (X := tpl n line fr M A t) tpl_len (by rw [trow_len]; omega) hxl (tway_ms (by omega))
  have gd := tlhold (sg := p.sg) (fr := fr) (c := c) hn hx ht
  generalize ((tway n line fr c t).ps.zip (tpl n line fr M A t)).map (txOf (trow n line x)) = d at g1 g2 g3 g4 gd
  refine ⟨p, nv, sv, fv, av, tway n line fr c t, d, rfl, g1, g2, g3, g4, ?_⟩
  rw [gd]
  cases hg : tgood fr M A c x t with
  | false =>
    rw [hg] at h
    walk_at "w"
    exact sub_refl_fin h
  | true =>
    rw [hg] at h
    walk_at "w"
    refine ⟨p, nv, sv, fv, av, tway n line fr c t, d, rfl, tway_ts, ?_⟩
    walk_at "w"
    refine ⟨tway n line fr c t, rfl, Nat.le_trans tway_len (by omega), tway_ms (by omega), ?_⟩
    walk_at "w"
    refine ⟨_, rfl, by unfold Way.k; rw [List.length_map]; exact Nat.le_trans tway_len (by omega), fun q hq => ?_⟩
    rw [tkid_len] at hq
    walk_at "w"
    rw [if_neg (by rw [hq]; simp)]
    exact sub_refl_fin h
def tbad (N : Nat) (g : Nat → Bool) : Option Nat → Prop
  | none => ∀ t ≤ N, g t = true
  | some d => d ≤ N ∧ (∀ h < d, g (N - h) = true) ∧ g (N - d) = false
def toutD : Option Nat → D
  | none => .non
  | some d => .tup [tzer d, .str "sign"]
def tent2 (n line : Nat) (fr : Bool) (M A N h : Nat) : D := .tup [tzer h, tnode n line fr (N - h), .str "s", stD (tspan n line fr M A (N - h))]
def sp_wrong_at (C : Addr) : SpD := fun ds m Q => ∃ (p : Prog) (nv sv fv av : D) (n line : Nat) (fr : Bool) (c M A N : Nat) (x : Tx) (o : Option Nat), ds = [bookD C p nv sv fv av, rowsD (trow n line x), tnode n line fr N, .str "s", stD (tspan n line fr M A N)] ∧ TO p n line fr c M A x ∧ N ≤ M ∧ tbad N (tgood fr M A c x) o ∧ Q (toutD o) m
theorem ok_wrong_at  (T : Txt K mg) (G_parts_due : FnOk P w K mg base CX0 (3) T.f_parts_due T.fd_parts_due ["way", "stretch", "cut"] (spL K 3 sp_parts_due)) (G_Book_ways : FnOk P w K mg base CX0 (1) T.f_Book_ways T.fd_Book_ways ["self", "lot"] (spL K 2 (sp_Book_ways T.c_Book))) (G__wrong_here : FnOk P w K mg base CX0 (4) T.f__wrong_here T.fd__wrong_here ["book", "rows", "tree", "lot", "stretch"] (spL K 5 (sp__wrong_here T.c_Book))) : FnOk P w K mg base CX0 (5) T.f_wrong_at T.fd_wrong_at ["book", "rows", "candidate", "lot", "stretch"] (spL K 5 (sp_wrong_at T.c_Book)) := by
  refine fn_ok T.F_wrong_at sc_wrong_at (fun cdv A outer s H E hr =>
(gss_cons (gs_set (i := 5) sc_wrong_at.nd rfl (.inl rfl) (ge_lst (ga_cons (ge_tup (ga_cons (ge_tup ga_nil) (ga_cons (gv 2) (ga_cons (gv 3) (ga_cons (gv 4) ga_nil))))) ga_nil)))
 (gss_cons (gs_while PassesOwn.never (gt_tru (gv 5))
 (gss_cons (gs_asg (ge_bm0 PySem.F.slot_list_pop PySem.F.type_list_pop mt_popU lm_pop (gv 5)) (gg_tup (n := 4) rfl (ggs_cons (gg_name (i := 8) sc_wrong_at.nd rfl (.inl rfl)) (ggs_cons (gg_name (i := 9) sc_wrong_at.nd rfl (.inl rfl)) (ggs_cons (gg_name (i := 10) sc_wrong_at.nd rfl (.inl rfl)) (ggs_cons (gg_name (i := 11) sc_wrong_at.nd rfl (.inl rfl)) ggs_nil))))))
 (gss_cons (gs_set (i := 6) sc_wrong_at.nd rfl (.inl rfl) (ge_call G__wrong_here (hr.mono (by omega)) (by rfl) T.g__wrong_here T.F__wrong_here.kp T.b__wrong_here (ga_cons (gv 0) (ga_cons (gv 1) (ga_cons (gv 9) (ga_cons (gv 10) (ga_cons (gv 11) ga_nil)))))))
 (gss_cons (gs_if (gt_cmpR op_notN lr_notN (gv 6) ge_non (nomark _))
 (gss_one (gs_ret (ge_tup (ga_cons (gv 8) (ga_cons (gv 6) ga_nil)))))
 gss_nil)
 (gss_cons (gs_set (i := 7) sc_wrong_at.nd rfl (.inl rfl) (ge_lst ga_nil))
 (gss_cons (gs_for PassesOwn.never rfl (gi_enum (by rfl) T.z_enumerate (ga_cons (ge_call G_parts_due (hr.mono (by omega)) (by rfl) T.g_parts_due T.F_parts_due.kp T.b_parts_due (ga_cons (ge_ix (ge_methO T.cls_Book T.m_Book_ways G_Book_ways (hr.mono (by omega)) T.b_Book_ways (gv 0) (ga_cons (gv 10) ga_nil)) (ge_ix (gv 9) ge_int)) (ga_cons (gv 11) (ga_cons (ge_ix (gv 9) ge_int) ga_nil)))) ga_nil)) (gg_tup (n := 2) rfl (ggs_cons (gg_name (i := 12) sc_wrong_at.nd rfl (.inl rfl)) (ggs_cons (gg_name (i := 13) sc_wrong_at.nd rfl (.inl rfl)) ggs_nil)))
 (gss_one (gs_expr (ge_bm PySem.F.slot_list_append PySem.F.type_list_append mt_append lm_append (gv 7) (ga_cons (ge_tup (ga_cons (ge_op op_addL lr_addL (gv 8) (ge_tup (ga_cons (gv 12) ga_nil))) (ga_cons (ge_ix (ge_ix (gv 9) ge_int) (gv 12)) (ga_cons (ge_ix (gv 13) ge_int) (ga_cons (ge_ix (gv 13) ge_int) ga_nil))))) ga_nil)))))
 (gss_one (gs_expr (ge_bm PySem.F.slot_list_extend PySem.F.type_list_extend mt_extendU lm_extend (gv 5) (ga_cons (ge_rev (gv 7)) ga_nil))))))))))
 (gss_one (gs_ret ge_non))))) (fun ds m Q h => ?_)
  obtain ⟨p, nv, sv, fv, av, n, line, fr, c, M, A, N, x, o, rfl, t0, hN, ho, h⟩ := h
  have hn := t0.hn
  have hM := t0.hM
  rw [show startD N_wrong_at [bookD T.c_Book p nv sv fv av, rowsD (trow n line x), tnode n line fr N, .str "s", stD (tspan n line fr M A N)] = [some (bookD T.c_Book p nv sv fv av), some (rowsD (trow n line x)), some (tnode n line fr N), some (.str "s"), some (stD (tspan n line fr M A N)), none, none, none, none, none, none, none, none, none] from rfl]
  unfold dWhile
  walk_at "pd"
  intro pd hpdm
  refine ⟨fun k s' m' => ∃ (h : Nat) (c6 c7 c8 c9 c10 c11 c12 c13 : Option D), s' = [some (bookD T.c_Book p nv sv fv av), some (rowsD (trow n line x)), some (tnode n line fr N), some (.str "s"), some (stD (tspan n line fr M A N)), some (.ref pd), c6, c7, c8, c9, c10, c11, c12, c13] ∧ h ≤ N + 1 ∧ k = N + 1 - h ∧ (∀ h' < h, tgood fr M A c x (N - h') = true) ∧ m' pd = some (.lst (if h ≤ N then [tent2 n line fr M A N h] else [])) ∧ PD.Sub m m', ⟨N + 1, 0, _, _, _, _, _, _, _, _, rfl, by omega, rfl, fun h' hh' => by omega, ?_, .new hpdm⟩, ?_⟩
  · rw [if_pos (by omega), mset_same]; rfl
  rintro k s' m' ⟨hh, c6, c7, c8, c9, c10, c11, c12, c13, rfl, h1, rfl, hgd, epd, S⟩
  walk_at "pd"
  refine ⟨_, truD_ref epd, ?_⟩
  by_cases hle : hh ≤ N
  · rw [if_pos hle] at epd ⊢
    walk_at "w"
    refine ⟨⟨_, _, lstOf_ref epd⟩, pd, _, _, lstOf_ref epd, rfl, ?_⟩
    walk_at "w"
    rw [show tent2 n line fr M A N hh = .tup [tzer hh, tnode n line fr (N - hh), .str "s", stD (tspan n line fr M A (N - hh))] from rfl]
    walk_at "w"
    have epd2 : mset m' pd (.lst [D.tup [tzer hh, tnode n line fr (N - hh), .str "s", stD (tspan n line fr M A (N - hh))]].dropLast) pd = some (.lst []) := mset_same
    have S2 : PD.Sub m (mset m' pd (.lst [D.tup [tzer hh, tnode n line fr (N - hh), .str "s", stD (tspan n line fr M A (N - hh))]].dropLast)) := fun a o e => by
      rw [mset_ne (fun z => by rw [z, hpdm] at e; cases e)]; exact S _ _ e
    generalize mset m' pd (.lst [D.tup [tzer hh, tnode n line fr (N - hh), .str "s", stD (tspan n line fr M A (N - hh))]].dropLast) = m2 at epd2 S2 ⊢
    obtain ⟨t, ht⟩ : ∃ t, t = N - hh := ⟨_, rfl⟩
    rw [← ht]
    refine ⟨p, nv, sv, fv, av, n, line, fr, c, M, A, t, x, rfl, t0, by omega, ?_⟩
    cases hg : tgood fr M A c x t with
    | false =>
      walk_at "w"
      have e : o = some hh := by
        cases o with
        | none => have := ho t (by omega); rw [hg] at this; cases this
        | some d =>
          obtain ⟨d1, d2, d3⟩ := ho
          rcases Nat.lt_trichotomy d hh with hd | hd | hd
          · have := hgd d hd; rw [d3] at this; cases this
          · rw [hd]
          · have := d2 hh hd; rw [← ht, hg] at this; cases this
      subst e
      exact ⟨m, S2, h⟩
    | true =>
      walk_at "w"
      intro pb hpb
      have hdb : pd ≠ pb := fun z => by rw [← z, epd2] at hpb; cases hpb
      have epd3 := mset_new (o := .lst []) hpb epd2
      have S3 := S2.trans (.new (o := .lst []) hpb)
      have epb3 : mset m2 pb (.lst []) pb = some (.lst []) := mset_same
      generalize mset m2 pb (.lst []) = m3 at epd3 S3 epb3
      refine ⟨p, nv, sv, fv, av, "s", _, rfl, t0.hp, ?_⟩
      rw [tnode_eq t, twy_eq]
      unfold waysD
      walk_at "w"
      refine ⟨_, atI_map (tlots_at t), ?_⟩
      walk_at "w"
      refine ⟨tway n line fr c t, tspan n line fr M A t, tcut n line fr t, rfl, by rw [tspan_len, tcut_len], by rw [tspan_len]; exact hn.two.1, tcut_ps, Nat.le_trans tway_len (by omega), ?_⟩
      rw [tdue hn (by omega)]
      intro pq m4 hpq S4' epq
      have hdq : pd ≠ pq := fun z => by rw [← z, epd3] at hpq; cases hpq
      have hbq : pb ≠ pq := fun z => by rw [← z, epb3] at hpq; cases hpq
      have epd4 := S4' _ _ epd3
      have epb4 := S4' _ _ epb3
      have S4 := S3.trans S4'
      walk_at "w"
      have hgd2 : ∀ h' < hh + 1, tgood fr M A c x (N - h') = true := fun h' hh' => by
        by_cases e : h' = hh
        · rw [e, ← ht]; exact hg
        · exact hgd h' (by omega)
      have fin : ∀ (m6 : Mu) (d6 d7 d8 d9 d10 d11 d12 d13 : Option D), m6 pd = some (.lst (if hh + 1 ≤ N then [tent2 n line fr M A N (hh + 1)] else [])) → PD.Sub m m6 → ∃ n', n' < N + 1 - hh ∧ ∃ (h : Nat) (c6 c7 c8 c9 c10 c11 c12 c13 : Option D), [some (bookD T.c_Book p nv sv fv av), some (rowsD (trow n line x)), some (tnode n line fr N), some (.str "s"), some (stD (tspan n line fr M A N)), some (.ref pd), d6, d7, d8, d9, d10, d11, d12, d13] = [some (bookD T.c_Book p nv sv fv av), some (rowsD (trow n line x)), some (tnode n line fr N), some (.str "s"), some (stD (tspan n line fr M A N)), some (.ref pd), c6, c7, c8, c9, c10, c11, c12, c13] ∧ h ≤ N + 1 ∧ n' = N + 1 - h ∧ (∀ h' < h, tgood fr M A c x (N - h') = true) ∧ m6 pd = some (.lst (if h ≤ N then [tent2 n line fr M A N h] else [])) ∧ PD.Sub m m6 := fun m6 d6 d7 d8 d9 d10 d11 d12 d13 e2 S6 =>
        ⟨N + 1 - (hh + 1), by omega, hh + 1, _, _, _, _, _, _, _, _, rfl, by omega, rfl, hgd2, e2, S6⟩
      have ext : ∀ (m5 : Mu) (p6 : Addr) (l : List D), m5 p6 = none → PD.Sub m m5 → PD.Sub m (mset (mset m5 p6 (.lst l)) pd (.lst ([] ++ l))) := fun m5 p6 l h6 S5 a o e => by
        rw [mset_ne (fun z => by rw [z, hpdm] at e; cases e), mset_ne (fun z => by have := S5 _ _ e; rw [z, h6] at this; cases this)]; exact S5 _ _ e
      cases t with
      | zero =>
        rw [show tdl n line fr M A 0 = [] from rfl] at epq
        refine ⟨_, seqOf_ref epq, seqOf_ref epq, ?_⟩
        walk_at "w"
        refine ⟨⟨_, _, lstOf_ref epd4⟩, _, seqOf_ref epb4, fun p6 hp6 => ?_⟩
        have hd6 : pd ≠ p6 := fun z => by rw [← z, epd4] at hp6; cases hp6
        refine ⟨pd, _, _, lstOf_ref (by rw [mset_ne hd6]; exact epd4), seqOf_ref mset_same, by decide, ?_⟩
        exact fin _ _ _ _ _ _ _ _ _ (by rw [mset_same, if_neg (by omega)]; rfl) (ext m4 p6 [] hp6 S4)
      | succ t =>
        rw [show tdl n line fr M A (t + 1) = [.tup [.str "s", stD (tspan n line fr M A t)]] from rfl] at epq
        rw [show tkid n line fr (t + 1) = [tnode n line fr t] from rfl]
        refine ⟨_, seqOf_ref epq, seqOf_ref epq, ?_⟩
        unfold tzer
        walk_at "w"
        refine ⟨⟨_, _, lstOf_ref epb4⟩, Nat.le_trans (by rw [List.length_replicate]; omega : _ ≤ 300) (by decide), _, atI_nat (j := 0) rfl, pb, _, lstOf_ref epb4, by decide, ?_⟩
        have ex : D.tup [.tup (List.replicate hh (.int 0) ++ [.int ((0 : Nat) : Int)]), tnode n line fr t, .str "s", stD (tspan n line fr M A t)] = tent2 n line fr M A N (hh + 1) := by
          unfold tent2 tzer
          rw [show N - (hh + 1) = t by omega, List.replicate_succ']; rfl
        rw [ex]
        have epd5 : mset m4 pb (.lst ([] ++ [tent2 n line fr M A N (hh + 1)])) pd = some (.lst []) := by rw [mset_ne hdb]; exact epd4
        have epq5 : mset m4 pb (.lst ([] ++ [tent2 n line fr M A N (hh + 1)])) pq = some (.lst [.tup [.str "s", stD (tspan n line fr M A t)]]) := by rw [mset_ne hbq.symm]; exact epq
        have epb5 : mset m4 pb (.lst ([] ++ [tent2 n line fr M A N (hh + 1)])) pb = some (.lst [tent2 n line fr M A N (hh + 1)]) := mset_same
        have S5 : PD.Sub m (mset m4 pb (.lst ([] ++ [tent2 n line fr M A N (hh + 1)]))) := fun a o e => by
          rw [mset_ne (fun z => by have := S2 _ _ e; rw [z, hpb] at this; cases this)]; exact S4 _ _ e
        generalize mset m4 pb (.lst ([] ++ [tent2 n line fr M A N (hh + 1)])) = m5 at epd5 epq5 epb5 S5 ⊢
        refine ⟨seqOf_ref epq5, ?_⟩
        walk_at "w"
        refine ⟨⟨_, _, lstOf_ref epd5⟩, _, seqOf_ref epb5, fun p6 hp6 => ?_⟩
        have hd6 : pd ≠ p6 := fun z => by rw [← z, epd5] at hp6; cases hp6
        refine ⟨pd, _, _, lstOf_ref (by rw [mset_ne hd6]; exact epd5), seqOf_ref mset_same, (by show 1 ≤ sizeLine; decide), ?_⟩
        exact fin _ _ _ _ _ _ _ _ _ (by rw [mset_same, if_pos (by omega)]; rfl) (ext m5 p6 [tent2 n line fr M A N (hh + 1)] hp6 S5)
  · rw [if_neg hle] at epd ⊢
    walk_at "w"
    have e : o = none := by
      cases o with
      | none => rfl
      | some d =>
        obtain ⟨d1, d2, d3⟩ := ho
        have := hgd d (by omega)
        rw [d3] at this; cases this
    subst e
    exact ⟨m, S, h⟩
def sp_stands (C : Addr) : SpD := fun ds m Q => ∃ (p : Prog) (nv sv fv av : D) (n line : Nat) (fr : Bool) (c M A N : Nat) (x : Tx) (o : Option Nat), ds = [bookD C p nv sv fv av, rowsD (trow n line x), tnode n line fr N, .str "s", stD (tspan n line fr M A N)] ∧ TO p n line fr c M A x ∧ N ≤ M ∧ tbad N (tgood fr M A c x) o ∧ Q (.bl o.isNone) m
theorem ok_stands  (T : Txt K mg) (G_wrong_at : FnOk P w K mg base CX0 (5) T.f_wrong_at T.fd_wrong_at ["book", "rows", "candidate", "lot", "stretch"] (spL K 5 (sp_wrong_at T.c_Book))) : FnOk P w K mg base CX0 (6) T.f_stands T.fd_stands ["book", "rows", "candidate", "lot", "stretch"] (spL K 5 (sp_stands T.c_Book)) := by
  refine fn_ok T.F_stands sc_stands (fun cdv A outer s H E hr =>
(gss_one (gs_ret (ge_cmpR op_isN lr_isN (ge_call G_wrong_at (hr.mono (by omega)) (by rfl) T.g_wrong_at T.F_wrong_at.kp T.b_wrong_at (ga_cons (gv 0) (ga_cons (gv 1) (ga_cons (gv 2) (ga_cons (gv 3) (ga_cons (gv 4) ga_nil)))))) ge_non (nomark _))))) (fun ds m Q h => ?_)
  obtain ⟨p, nv, sv, fv, av, n, line, fr, c, M, A, N, x, o, rfl, t0, hN, ho, h⟩ := h
  rw [show startD N_stands [bookD T.c_Book p nv sv fv av, rowsD (trow n line x), tnode n line fr N, .str "s", stD (tspan n line fr M A N)] = [some (bookD T.c_Book p nv sv fv av), some (rowsD (trow n line x)), some (tnode n line fr N), some (.str "s"), some (stD (tspan n line fr M A N))] from rfl]
  walk_at "pd"
  refine ⟨p, nv, sv, fv, av, n, line, fr, c, M, A, N, x, o, rfl, t0, hN, ho, ?_⟩
  cases o with
  | none => unfold toutD; walk_at "w"; exact sub_refl_fin h
  | some d => unfold toutD; walk_at "w"; exact sub_refl_fin h
end
def progOf (S : List Nat) (n : Nat) (ys : List Way) : Prog := ⟨S, n, [], [], "s", [("s", ys)], [], []⟩
theorem good_mk {S : List Nat} {n : Nat} {ys : List Way} (hS : S.length ≤ 10) (hn : n = 1 ∨ n = 2) (hy3 : ys.length ≤ 3) (hmk : ys.map (·.mr) = (["f", "glue", "m2"] : List Str).take ys.length) (hyo : ∀ y ∈ ys, WayO S n y) : Good0 (progOf S n ys) := by
  have ew : (progOf S n ys).ways = ys := by
    show ([("s", ys)] : List (Str × List Way)).flatMap (·.2) = ys
    simp
  have hms : ∀ y ∈ ys, ∀ ms, Piece.plain ms ∈ y.ps → ms.length ≤ 2 ∧ ∀ k ∈ ms, MkO S k := fun y h ms hm => by
    obtain ⟨h1, h2⟩ := (hyo y h).pc _ hm
    exact ⟨by omega, h2⟩
  refine { pr := (by decide : 0 ≤ 100), lt := (by decide : 1 ≤ 100), wd := fun q hq => (List.not_mem_nil hq).elim, ws := ?_, wy := ?_, ll := ?_, ndP := (by decide : ([] : List Str).Nodup), ndL := (by decide : (["s"] : List Str).Nodup), wp := fun q hq => (List.not_mem_nil hq).elim, pc := ?_, st := List.mem_singleton.mpr rfl, mkk := ?_, ts := ?_, nn := rfl, nj := rfl, na := rfl }
  · intro l hl
    have hl : l ∈ [(("s" : Str), ys)] := hl
    rw [List.mem_singleton.mp hl]
    show ys.length ≤ 100; omega
  · rw [ew]; exact fun y h => by have h1 := (hyo y h).p5; have h2 := (hyo y h).ts; rw [h2]; exact ⟨by omega, by decide⟩
  · rw [ew]
    refine Nat.le_trans (flat_le (n := 100) fun y h => ?_) (by omega)
    have h1 := (hyo y h).p5
    refine Nat.le_trans (flat_le (n := 20) fun q hq => ?_) (by omega)
    cases q with
    | lot nm => exact Nat.zero_le 20
    | plain ms =>
      have := (hms y h ms hq).1
      have e : (lettersOf (.plain ms)).length ≤ ms.length := by
        unfold lettersOf
        exact List.length_filterMap_le _ _
      omega
  · rw [ew]
    intro y h q hq
    have := (hyo y h).pc q hq
    cases q with
    | lot nm => show nm ∈ (["s"] : List Str); rw [show nm = "s" from this]; exact List.mem_singleton.mpr rfl
    | plain ms => exact ⟨by have := (hms y h ms hq).1; omega, fun l hl => by
        have := (hms y h ms hq).2 _ hl
        exact ⟨this.1, by have := this.2; omega⟩⟩
  · rw [ew]
    intro y h v h' e
    have nd : (ys.map (·.mr)).Nodup := by rw [hmk]; exact List.Nodup.sublist (List.take_sublist _ _) (by decide)
    obtain ⟨i, hi⟩ := List.mem_iff_getElem?.mp h
    obtain ⟨j, hj⟩ := List.mem_iff_getElem?.mp h'
    have ei : (ys.map (·.mr))[i]? = some y.mr := by rw [List.getElem?_map, hi]; rfl
    have ej : (ys.map (·.mr))[j]? = some y.mr := by rw [List.getElem?_map, hj, e]; rfl
    have := (List.getElem?_inj (List.getElem?_eq_some_iff.mp ei).1 nd).mp (ei.trans ej.symm)
    rw [this, hj] at hi
    injection hi with hi
    rw [hi]
  · rw [ew]
    intro y h t ht
    rw [(hyo y h).ts] at ht
    cases ht
theorem tlots_ok {S : List Nat} {n line c : Nat} {fr : Bool} (hc : c ∈ S) : ∀ y ∈ tlots n line fr c, WayO S n y := by
  have hm : PcO S n (.plain (tmarks n line c)) := ⟨by unfold tmarks; rw [List.length_map, List.length_range], fun k hk => by
    unfold tmarks at hk
    obtain ⟨i, _, rfl⟩ := List.mem_map.mp hk
    split
    · exact ⟨fun x hx => by rw [List.mem_singleton.mp hx]; exact hc, (by decide : 1 ≤ 4)⟩
    · trivial⟩
  intro y hy
  unfold tlots at hy
  simp only [List.mem_cons, List.not_mem_nil, or_false] at hy
  rcases hy with rfl | rfl
  · refine ⟨by rw [tway_s]; cases fr <;> exact (by decide : 0 < 2), Nat.le_trans tway_len (by omega), fun q hq => ?_, rfl⟩
    rw [tway_s] at hq
    cases fr <;> (simp at hq; rcases hq with rfl | rfl) <;> first | exact hm | rfl
  · refine ⟨(by decide : 0 < 1), (by decide : 1 ≤ 5), fun q hq => ?_, rfl⟩
    have hq : q ∈ [Piece.plain (List.replicate n .none)] := hq
    rw [List.mem_singleton.mp hq]
    exact ⟨List.length_replicate, fun k hk => by rw [List.eq_of_mem_replicate hk]; trivial⟩
theorem fold_rep (c : Nat) : ∀ (k : Nat) (acc : List Nat), (List.replicate k [c].toArray).foldl (· ++ ·) acc.toArray = (acc ++ List.replicate k c).toArray
  | 0, acc => by rw [show List.replicate 0 c = [] from rfl, List.append_nil]; rfl
  | k + 1, acc => by
    have ih := fold_rep c k (acc ++ [c])
    rw [List.append_assoc] at ih
    rw [List.replicate_succ, List.foldl_cons, show acc.toArray ++ [c].toArray = (acc ++ [c]).toArray from by simp, ih, List.replicate_succ]; rfl
theorem rep_tx (c k : Nat) : repS (tx [c]) k = tx (List.replicate k c) := by
  have := fold_rep c k []
  unfold repS tx
  rw [List.nil_append] at this
  rw [← this]
section
variable {P : Program} {w : World} {K : PySem.W.Frag} {mg : Str → Option Value} {base : Heap}
def sp__law_tall (C : Addr) : SpD := fun ds m Q => ∃ (a g : Addr) (S : List Nat) (c e n : Nat) (fr : Bool), ds = [.ref a, .str (tx S), .int (n : Int), .bl fr] ∧ S4 S ∧ S[0]? = some c ∧ S[S.length - 1]? = some e ∧ (n = 1 ∨ n = 2) ∧ Tp m a g ∧ ∀ (M line A : Nat) (p q : Addr) m', 59 ≤ M → M ≤ 119 → NL n line → A ≤ 2 → p ≠ a → q ≠ a → Off1 a m m' → Tp m' a g → m' p = some (.lst ((List.range (M + 1)).map (tnode n line fr))) → m' q = some (.lst ((List.range (M + 1)).map fun t => stD (tspan n line fr M A t))) → Q (.tup [book0 C (progOf S n (tlots n line fr c)), .ref p, .ref q, rowsD (trow n line (ttext c e M A))]) m'
theorem ok__law_tall  (T : Txt K mg) (G_Book___init__ : FnOk P w K mg base (L2.CX P w) (6) T.f_Book___init__ T.fd_Book___init__ ["self", "program"] (spX K 2 (sp_Book___init__ T))) (G__law_pick : FnOk P w K mg base CX0 (1) T.f__law_pick T.fd__law_pick ["_law_tape_here", "_law_many"] (spL K 2 sp__law_pick)) : FnOk P w K mg base CX0 (9) T.f__law_tall T.fd__law_tall ["_law_tape_here", "_law_signs", "_law_sides", "_law_front"] (spL K 4 (sp__law_tall T.c_Book)) := by
  refine fn_ok T.F__law_tall sc__law_tall (fun cdv A outer s H E hr =>
(gss_cons (gs_set (i := 4) sc__law_tall.nd rfl (.inl rfl) (ge_op op_addL lr_addL ge_int (ge_call G__law_pick (hr.mono (by omega)) (by rfl) T.g__law_pick T.F__law_pick.kp T.b__law_pick (ga_cons (gv 0) (ga_cons ge_int ga_nil)))))
 (gss_cons (gs_set (i := 5) sc__law_tall.nd rfl (.inr rfl) (ge_call G__law_pick (hr.mono (by omega)) (by rfl) T.g__law_pick T.F__law_pick.kp T.b__law_pick (ga_cons (gv 0) (ga_cons (gv 2) ga_nil))))
 (gss_cons (gs_set (i := 6) sc__law_tall.nd rfl (.inl rfl) (ge_call G__law_pick (hr.mono (by omega)) (by rfl) T.g__law_pick T.F__law_pick.kp T.b__law_pick (ga_cons (gv 0) (ga_cons ge_int ga_nil))))
 (gss_cons (gs_set (i := 7) sc__law_tall.nd rfl (.inl rfl) (ge_callTy call_tuple_of lc_tuple (by rfl) T.z_tuple (by decide +kernel) (ga_cons (ge_lc (own := [("_law_side", 18)]) rfl sc__law_tall.nd (gi_rng1 (by rfl) T.z_range (ga_cons (gv 2) ga_nil)) (blkOk_by (N := N__law_tall) (sc := defScope s__law_tall) (by decide +kernel)) (fun _ _ _ _ _ => (gg_name (i := 18) sc__law_tall.nd rfl (.inl rfl))) (fun _ _ _ _ _ => gts_nil) (fun _ _ _ _ _ => (ge_ifE (gt_cmpR (op_eqS hr.units) lr_eq (gv 18) (gv 5) (nomark _)) (ge_tup (ga_cons ge_str (ga_cons (ge_ix (gv 1) ge_int) ga_nil))) (ge_tup (ga_cons ge_str ga_nil)))) (by decide)) ga_nil)))
 (gss_cons (gs_set (i := 8) sc__law_tall.nd rfl (.inl rfl) (ge_tup (ga_cons (ge_tup (ga_cons ge_str (ga_cons (gv 7) ga_nil))) (ga_cons (ge_tup (ga_cons ge_str (ga_cons ge_str ga_nil))) ga_nil))))
 (gss_cons (gs_if (gt_not (gt_tru (gv 3)))
 (gss_one (gs_set (i := 8) sc__law_tall.nd rfl (.inl rfl) (ge_tup (ga_cons (ge_tup (ga_cons ge_str (ga_cons ge_str ga_nil))) (ga_cons (ge_tup (ga_cons ge_str (ga_cons (gv 7) ga_nil))) ga_nil)))))
 gss_nil)
 (gss_cons (gs_set (i := 9) sc__law_tall.nd rfl (.inl rfl) (ge_tup (ga_cons (ge_tup (ga_cons ge_str (ga_cons (gv 8) (ga_cons (ge_tup ga_nil) ga_nil)))) (ga_cons (ge_tup (ga_cons ge_str (ga_cons (ge_tup (ga_cons (ge_tup (ga_cons ge_str (ga_cons (ge_op op_mulT lr_mulT (ge_tup (ga_cons (ge_tup (ga_cons ge_str ga_nil)) ga_nil)) (gv 2)) ga_nil))) ga_nil)) (ga_cons (ge_tup ga_nil) ga_nil)))) ga_nil))))
 (gss_cons (gs_set (i := 10) sc__law_tall.nd rfl (.inl rfl) (ge_frzO (C := T.c_Book) (ge_makeX T.mk_Book G_Book___init__ (no_tk) (hr.mono (by omega)) (by rfl) T.gc_Book T.b_Book___init__ (ga_cons (ge_tup (ga_cons ge_str (ga_cons (gv 1) (ga_cons (gv 2) (ga_cons (ge_tup ga_nil) (ga_cons (ge_tup ga_nil) (ga_cons ge_str (ga_cons (ge_tup (ga_cons (ge_tup (ga_cons ge_str (ga_cons (gv 9) ga_nil))) ga_nil)) (ga_cons (ge_tup ga_nil) (ga_cons (ge_tup ga_nil) ga_nil)))))))))) ga_nil))))
 (gss_cons (gs_set (i := 11) sc__law_tall.nd rfl (.inl rfl) (ge_lst (ga_cons (ge_tup (ga_cons ge_str (ga_cons ge_int (ga_cons (ge_op op_mulT lr_mulT (ge_tup (ga_cons (ge_tup (ga_cons ge_int ga_nil)) ga_nil)) (gv 2)) (ga_cons (ge_tup ga_nil) ga_nil))))) ga_nil)))
 (gss_cons (gs_set (i := 12) sc__law_tall.nd rfl (.inl rfl) (ge_lst ga_nil))
 (gss_cons (gs_for PassesOwn.never rfl (gi_rng1 (by rfl) T.z_range (ga_cons (ge_op op_addL lr_addL (gv 4) ge_int) ga_nil)) (gg_name (i := 13) sc__law_tall.nd rfl (.inl rfl))
 (gss_cons (gs_set (i := 15) sc__law_tall.nd rfl (.inr rfl) (ge_tup (ga_cons (gv 6) (ga_cons (ge_op op_addL lr_addL (gv 6) (gv 13)) ga_nil))))
 (gss_cons (gs_set (i := 16) sc__law_tall.nd rfl (.inr rfl) (ge_tup (ga_cons (gv 13) (ga_cons ge_int ga_nil))))
 (gss_cons (gs_if (gt_tru (gv 3))
 (gss_cons (gs_set (i := 15) sc__law_tall.nd rfl (.inr rfl) (ge_tup (ga_cons (ge_op op_sub lr_sub (ge_op op_addL lr_addL (gv 6) (gv 4)) (gv 13)) (ga_cons (ge_op op_addL lr_addL (gv 6) (gv 4)) ga_nil))))
 (gss_one (gs_set (i := 16) sc__law_tall.nd rfl (.inr rfl) (ge_tup (ga_cons ge_int (ga_cons (gv 13) ga_nil))))))
 gss_nil)
 (gss_cons (gs_expr (ge_bm PySem.F.slot_list_append PySem.F.type_list_append mt_append lm_append (gv 12) (ga_cons (ge_callTy call_tuple_of lc_tuple (by rfl) T.z_tuple (by decide +kernel) (ga_cons (ge_lc (own := [("_law_side", 18)]) rfl sc__law_tall.nd (gi_rng1 (by rfl) T.z_range (ga_cons (gv 2) ga_nil)) (blkOk_by (N := N__law_tall) (sc := defScope s__law_tall) (by decide +kernel)) (fun _ _ _ _ _ => (gg_name (i := 18) sc__law_tall.nd rfl (.inl rfl))) (fun _ _ _ _ _ => gts_nil) (fun _ _ _ _ _ => (ge_ifE (gt_cmpR (op_eqS hr.units) lr_eq (gv 18) (gv 5) (nomark _)) (gv 15) (ge_tup (ga_cons ge_int (ga_cons ge_int ga_nil))))) (by decide)) ga_nil)) ga_nil)))
 (gss_one (gs_if (gt_cmpR (op_ltS hr.units) lr_ltP (gv 13) (gv 4) (nomark _))
 (gss_cons (gs_set (i := 17) sc__law_tall.nd rfl (.inl rfl) (ge_callTy call_tuple_of lc_tuple (by rfl) T.z_tuple (by decide +kernel) (ga_cons (ge_lc (own := [("_law_side", 18)]) rfl sc__law_tall.nd (gi_rng1 (by rfl) T.z_range (ga_cons (gv 2) ga_nil)) (blkOk_by (N := N__law_tall) (sc := defScope s__law_tall) (by decide +kernel)) (fun _ _ _ _ _ => (gg_name (i := 18) sc__law_tall.nd rfl (.inl rfl))) (fun _ _ _ _ _ => gts_nil) (fun _ _ _ _ _ => (ge_ifE (gt_cmpR (op_eqS hr.units) lr_eq (gv 18) (gv 5) (nomark _)) (gv 16) (ge_tup (ga_cons ge_int (ga_cons ge_int ga_nil))))) (by decide)) ga_nil)))
 (gss_one (gs_expr (ge_bm PySem.F.slot_list_append PySem.F.type_list_append mt_append lm_append (gv 11) (ga_cons (ge_tup (ga_cons ge_str (ga_cons ge_int (ga_cons (gv 17) (ga_cons (ge_tup (ga_cons (ge_ix (gv 11) (gv 13)) ga_nil)) ga_nil))))) ga_nil)))))
 gss_nil)))))))
 (gss_cons (gs_set (i := 14) sc__law_tall.nd rfl (.inr rfl) (ge_op op_addL lr_addL (ge_op op_addL lr_addL (ge_op op_mulT lr_mulT (ge_ix (gv 1) (ge_un un_neg lu_neg ge_int)) (gv 6)) (ge_op op_mulT lr_mulT (ge_ix (gv 1) ge_int) (gv 4))) (ge_op op_mulT lr_mulT (ge_ix (gv 1) (ge_un un_neg lu_neg ge_int)) ge_int)))
 (gss_one (gs_ret (ge_tup (ga_cons (gv 10) (ga_cons (gv 11) (ga_cons (gv 12) (ga_cons (ge_callTy call_tuple_of lc_tuple (by rfl) T.z_tuple (by decide +kernel) (ga_cons (ge_lc (own := [("_law_side", 18)]) rfl sc__law_tall.nd (gi_rng1 (by rfl) T.z_range (ga_cons (gv 2) ga_nil)) (blkOk_by (N := N__law_tall) (sc := defScope s__law_tall) (by decide +kernel)) (fun _ _ _ _ _ => (gg_name (i := 18) sc__law_tall.nd rfl (.inl rfl))) (fun _ _ _ _ _ => gts_nil) (fun _ _ _ _ _ => (ge_ifE (gt_cmpR (op_eqS hr.units) lr_eq (gv 18) (gv 5) (nomark _)) (gv 14) ge_str)) (by decide)) ga_nil)) ga_nil)))))))))))))))))))) (fun ds m Q h => ?_)
  obtain ⟨a, g, S, c, e, n, fr, rfl, hS, hc, he, hn, hT, h⟩ := h
  rw [show startD N__law_tall [.ref a, .str (tx S), .int (n : Int), .bl fr] = [some (.ref a), some (.str (tx S)), some (.int (n : Int)), some (.bl fr), none, none, none, none, none, none, none, none, none, none, none, none, none, none, none] from rfl]
  have hS4 := hS.len
  refine seq_cut (fun s' m' => ∃ M : Nat, 59 ≤ M ∧ M ≤ 119 ∧ s' = [some (.ref a), some (.str (tx S)), some (.int (n : Int)), some (.bl fr), some (.int (M : Int)), none, none, none, none, none, none, none, none, none, none, none, none, none, none] ∧ Off1 a m m' ∧ Tp m' a g) (fun R hR => ?_) ?_
  · walk_at "pd"
    refine ⟨a, g, 61, rfl, by omega, by omega, hT, fun r m1 r0 r1 O1 T1 => ?_⟩
    obtain ⟨k, rfl⟩ := Int.eq_ofNat_of_zero_le r0
    walk_at "w"
    refine hR _ _ ⟨59 + k, by omega, by omega, ?_, O1, T1⟩
    rw [Int.natCast_add]; rfl
  rintro s' m1 ⟨M, hM1, hM2, rfl, O1, T1⟩
  refine seq_cut (fun s' m' => ∃ line : Nat, NL n line ∧ s' = [some (.ref a), some (.str (tx S)), some (.int (n : Int)), some (.bl fr), some (.int (M : Int)), some (.int (line : Int)), none, none, none, none, none, none, none, none, none, none, none, none, none] ∧ Off1 a m m' ∧ Tp m' a g) (fun R hR => ?_) ?_
  · walk_at "pd"
    refine ⟨a, g, n, rfl, by omega, by omega, T1, fun r m2 r0 r1 O2 T2 => ?_⟩
    obtain ⟨k, rfl⟩ := Int.eq_ofNat_of_zero_le r0
    exact hR _ _ ⟨k, by unfold NL; omega, rfl, O1.trans O2, T2⟩
  clear O1 T1 m1
  rintro s' m1 ⟨line, hNL, rfl, O1, T1⟩
  refine seq_cut (fun s' m' => ∃ A : Nat, A ≤ 2 ∧ s' = [some (.ref a), some (.str (tx S)), some (.int (n : Int)), some (.bl fr), some (.int (M : Int)), some (.int (line : Int)), some (.int (A : Int)), none, none, none, none, none, none, none, none, none, none, none, none] ∧ Off1 a m m' ∧ Tp m' a g) (fun R hR => ?_) ?_
  · walk_at "pd"
    refine ⟨a, g, 3, rfl, by omega, by omega, T1, fun r m2 r0 r1 O2 T2 => ?_⟩
    obtain ⟨k, rfl⟩ := Int.eq_ofNat_of_zero_le r0
    exact hR _ _ ⟨k, by omega, rfl, O1.trans O2, T2⟩
  clear O1 T1 m1
  rintro s' m1 ⟨A, hA, rfl, O1, T1⟩
  have hsz : S.length ≤ sizeLine := Nat.le_trans hS4.2 (by decide)
  have hlt : line < n := hNL.two.2
  have rgn : rangeD 0 ((n : Int)).toNat = (List.range n).map fun (i : Nat) => D.int (i : Int) := by unfold rangeD; simp
  refine seq_cut (fun s' m' => s' = [some (.ref a), some (.str (tx S)), some (.int (n : Int)), some (.bl fr), some (.int (M : Int)), some (.int (line : Int)), some (.int (A : Int)), some (.tup ((tmarks n line c).map Mark.d)), none, none, none, none, none, none, none, none, none, none, none] ∧ Off1 a m m' ∧ Tp m' a g) (fun R hR => ?_) ?_
  · walk_at "pd"
    refine ⟨by omega, by omega, fun p hp => ?_⟩
    have np := T1.ne hp
    have hpm := O1.free np.1 hp
    rw [rgn]
    refine comp_all (st := fun _ => True) (us := List.range n) (fun (i : Nat) => D.int (i : Int)) (fun i => (if i = line then Mark.sign [c] else Mark.none).d) (fun _ => trivial) (by rw [List.length_range]; omega) (fun z hz acc R2 k2 => ?_) ?_
    · walk_at "w"
      by_cases hz : z = line
      · rw [if_pos hz] at k2
        rw [if_pos (by omega)]
        exact ⟨hsz, c, atI_nat (j := 0) hc, k2⟩
      · rw [if_neg hz] at k2
        rw [if_neg (by omega)]
        exact k2
    · refine ⟨_, seqOf_ref mset_same, hR _ _ ⟨?_, O1.new hp, T1.new hp⟩⟩
      unfold tmarks
      rw [List.map_map]; rfl
  clear O1 T1 m1
  rintro s' m1 ⟨rfl, O1, T1⟩
  refine seq_cut (fun s' m' => ∃ x8 : D, s' = [some (.ref a), some (.str (tx S)), some (.int (n : Int)), some (.bl fr), some (.int (M : Int)), some (.int (line : Int)), some (.int (A : Int)), some (.tup ((tmarks n line c).map Mark.d)), some x8, none, none, none, none, none, none, none, none, none, none] ∧ x8 = .tup [.tup [.str "plain", .tup ((tmarks n line c).map Mark.d)], .tup [.str "lot", .str "s"]] ∧ m' = m1) (fun R hR => ?_) ?_
  · walk_at "pd"
    exact hR _ _ ⟨_, rfl, rfl, rfl⟩
  rintro s' m' ⟨x8, rfl, e8, rfl⟩
  refine seq_cut (fun s' m2 => s' = [some (.ref a), some (.str (tx S)), some (.int (n : Int)), some (.bl fr), some (.int (M : Int)), some (.int (line : Int)), some (.int (A : Int)), some (.tup ((tmarks n line c).map Mark.d)), some (.tup ((tway n line fr c 1).ps.map Piece.d)), none, none, none, none, none, none, none, none, none, none] ∧ m2 = m') (fun R hR => ?_) ?_
  · walk_at "pd"
    cases fr with
    | true => walk_at "w"; rw [e8]; exact hR _ _ ⟨rfl, rfl⟩
    | false => walk_at "w"; exact hR _ _ ⟨rfl, rfl⟩
  rintro s' m2 ⟨rfl, rfl⟩
  have flt : ∀ (k : Nat) (x : D), (List.replicate ((k : Int)).toNat [x]).flatten = List.replicate k x := fun k x => by rw [show ((k : Int)).toNat = k from rfl]; exact List.flatten_replicate_singleton
  refine seq_cut (fun s' m3 => s' = [some (.ref a), some (.str (tx S)), some (.int (n : Int)), some (.bl fr), some (.int (M : Int)), some (.int (line : Int)), some (.int (A : Int)), some (.tup ((tmarks n line c).map Mark.d)), some (.tup ((tway n line fr c 1).ps.map Piece.d)), some (waysD (tlots n line fr c)), none, none, none, none, none, none, none, none, none] ∧ m3 = m2) (fun R hR => ?_) ?_
  · walk_at "pd"
    refine ⟨by omega, by omega, ?_⟩
    rw [flt]
    refine hR _ _ ⟨?_, rfl⟩
    have e : waysD (tlots n line fr c) = .tup [.tup [.str "f", .tup ((tway n line fr c 1).ps.map Piece.d), .tup []], .tup [.str "glue", .tup [.tup [.str "plain", .tup (List.replicate n (.tup [.str "none"]))]], .tup []]] := by
      show D.tup [.tup [.str "f", .tup ((tway n line fr c 1).ps.map Piece.d), .tup []], .tup [.str "glue", .tup [.tup [.str "plain", .tup ((List.replicate n Mark.none).map Mark.d)]], .tup []]] = _
      rw [List.map_replicate]; rfl
    rw [e]
  rintro s' m3 ⟨rfl, rfl⟩
  have gd : Good0 (progOf S n (tlots n line fr c)) := good_mk (by omega) hn (by show 2 ≤ 3; omega) rfl (tlots_ok (List.mem_of_getElem? hc))
  refine seq_cut (fun s' m2 => s' = [some (.ref a), some (.str (tx S)), some (.int (n : Int)), some (.bl fr), some (.int (M : Int)), some (.int (line : Int)), some (.int (A : Int)), some (.tup ((tmarks n line c).map Mark.d)), some (.tup ((tway n line fr c 1).ps.map Piece.d)), some (waysD (tlots n line fr c)), some (book0 T.c_Book (progOf S n (tlots n line fr c))), none, none, none, none, none, none, none, none] ∧ Off1 a m m2 ∧ Tp m2 a g) (fun R hR => ?_) ?_
  · walk_at "pd"
    intro x hx
    have nx := T1.ne hx
    refine ⟨progOf S n (tlots n line fr c), x, rfl, mset_same, gd, rfl, x, _, rfl, mset_same, ?_⟩
    refine hR _ _ ⟨rfl, fun y o hy ey => ?_, ((T1.setp nx.1 nx.2).setp nx.1 nx.2).del nx.1 nx.2⟩
    have hyx : y ≠ x := fun z => by have := O1 y o hy ey; rw [z, hx] at this; cases this
    rw [mdel_ne hyx, mset_ne hyx, mset_ne hyx]; exact O1 y o hy ey
  clear O1 T1
  rintro s' m2 ⟨rfl, O1, T1⟩
  refine seq_cut (fun s' m2 => ∃ p : Addr, s' = [some (.ref a), some (.str (tx S)), some (.int (n : Int)), some (.bl fr), some (.int (M : Int)), some (.int (line : Int)), some (.int (A : Int)), some (.tup ((tmarks n line c).map Mark.d)), some (.tup ((tway n line fr c 1).ps.map Piece.d)), some (waysD (tlots n line fr c)), some (book0 T.c_Book (progOf S n (tlots n line fr c))), some (.ref p), none, none, none, none, none, none, none] ∧ p ≠ a ∧ p ≠ g ∧ m p = none ∧ m2 p = some (.lst [tnode n line fr 0]) ∧ Off1 a m m2 ∧ Tp m2 a g) (fun R hR => ?_) ?_
  · walk_at "pd"
    refine ⟨by omega, by omega, fun p hp => ?_⟩
    have np := T1.ne hp
    rw [flt]
    refine hR _ _ ⟨p, rfl, np.1, np.2, O1.free np.1 hp, ?_, O1.new hp, T1.new hp⟩
    rw [mset_same]
    have e : cutsD (tcut n line fr 0) = .tup (List.replicate n (.tup [.int 0])) := by
      unfold cutsD tcut; rw [List.map_replicate]; rfl
    unfold tnode
    rw [e]
  clear O1 T1
  rintro s' m3 ⟨p, rfl, pa, pg, hpm, ep, O1, T1⟩
  refine seq_cut (fun s' m2 => ∃ q : Addr, s' = [some (.ref a), some (.str (tx S)), some (.int (n : Int)), some (.bl fr), some (.int (M : Int)), some (.int (line : Int)), some (.int (A : Int)), some (.tup ((tmarks n line c).map Mark.d)), some (.tup ((tway n line fr c 1).ps.map Piece.d)), some (waysD (tlots n line fr c)), some (book0 T.c_Book (progOf S n (tlots n line fr c))), some (.ref p), some (.ref q), none, none, none, none, none, none] ∧ q ≠ a ∧ q ≠ g ∧ p ≠ q ∧ m q = none ∧ m2 p = some (.lst [tnode n line fr 0]) ∧ m2 q = some (.lst []) ∧ Off1 a m m2 ∧ Tp m2 a g) (fun R hR => ?_) ?_
  · walk_at "pd"
    intro q hq
    have nq := T1.ne hq
    exact hR _ _ ⟨q, rfl, nq.1, nq.2, fun z => (by rw [← z, ep] at hq; cases hq), O1.free nq.1 hq, mset_new hq ep, mset_same, O1.new hq, T1.new hq⟩
  clear O1 T1 ep
  rintro s' m4 ⟨q, rfl, qa, qg, pq, hqm, ep, eq, O1, T1⟩
  have T2 := T1
  have O2 := O1
  clear T1 O1
  refine seq_cut (fun s' m2 => ∃ c13 c15 c16 c17 : Option D, s' = [some (.ref a), some (.str (tx S)), some (.int (n : Int)), some (.bl fr), some (.int (M : Int)), some (.int (line : Int)), some (.int (A : Int)), some (.tup ((tmarks n line c).map Mark.d)), some (.tup ((tway n line fr c 1).ps.map Piece.d)), some (waysD (tlots n line fr c)), some (book0 T.c_Book (progOf S n (tlots n line fr c))), some (.ref p), some (.ref q), c13, none, c15, c16, c17, none] ∧ m2 p = some (.lst ((List.range (M + 1)).map (tnode n line fr))) ∧ m2 q = some (.lst ((List.range (M + 1)).map fun t => stD (tspan n line fr M A t))) ∧ Off1 a m m2 ∧ Tp m2 a g) (fun R hR => ?_) ?_
  · walk_at "pd"
    refine ⟨by omega, by omega, ?_⟩
    rw [show ((M : Int) + 1).toNat = M + 1 by omega]
    refine loop_range (fun i s' m2 => ∃ c13 c15 c16 c17 : Option D, s' = [some (.ref a), some (.str (tx S)), some (.int (n : Int)), some (.bl fr), some (.int (M : Int)), some (.int (line : Int)), some (.int (A : Int)), some (.tup ((tmarks n line c).map Mark.d)), some (.tup ((tway n line fr c 1).ps.map Piece.d)), some (waysD (tlots n line fr c)), some (book0 T.c_Book (progOf S n (tlots n line fr c))), some (.ref p), some (.ref q), c13, none, c15, c16, c17, none] ∧ m2 p = some (.lst ((List.range (min (i + 1) (M + 1))).map (tnode n line fr))) ∧ m2 q = some (.lst ((List.range i).map fun t => stD (tspan n line fr M A t))) ∧ Off1 a m m2 ∧ Tp m2 a g) ?_ ?_ ⟨none, none, none, none, rfl, by rw [show min (0 + 1) (M + 1) = 1 by omega]; exact ep, eq, O2, T2⟩
    · rintro i s' m5 R1 hi hR1 ⟨c13, c15, c16, c17, rfl, ep5, eq5, O5, T5⟩
      refine ⟨trivial, ?_⟩
      rw [show min (i + 1) (M + 1) = i + 1 by omega] at ep5
      show dSeq _ _ _ _ _
      refine seq_cut (fun s' m2 => s' = [some (.ref a), some (.str (tx S)), some (.int (n : Int)), some (.bl fr), some (.int (M : Int)), some (.int (line : Int)), some (.int (A : Int)), some (.tup ((tmarks n line c).map Mark.d)), some (.tup ((tway n line fr c 1).ps.map Piece.d)), some (waysD (tlots n line fr c)), some (book0 T.c_Book (progOf S n (tlots n line fr c))), some (.ref p), some (.ref q), some (.int (i : Int)), none, some (pairI ((A : Int), (A : Int) + i)), c16, c17, none] ∧ m2 = m5) (fun R2 hR2 => ?_) ?_
      · walk_at "pd"
        exact hR2 _ _ ⟨rfl, rfl⟩
      rintro s' m6 ⟨rfl, rfl⟩
      refine seq_cut (fun s' m2 => s' = [some (.ref a), some (.str (tx S)), some (.int (n : Int)), some (.bl fr), some (.int (M : Int)), some (.int (line : Int)), some (.int (A : Int)), some (.tup ((tmarks n line c).map Mark.d)), some (.tup ((tway n line fr c 1).ps.map Piece.d)), some (waysD (tlots n line fr c)), some (book0 T.c_Book (progOf S n (tlots n line fr c))), some (.ref p), some (.ref q), some (.int (i : Int)), none, some (pairI ((A : Int), (A : Int) + i)), some (pairI ((i : Int), 1)), c17, none] ∧ m2 = m6) (fun R2 hR2 => ?_) ?_
      · walk_at "pd"
        exact hR2 _ _ ⟨rfl, rfl⟩
      rintro s' m7 ⟨rfl, rfl⟩
      refine seq_cut (fun s' m2 => s' = [some (.ref a), some (.str (tx S)), some (.int (n : Int)), some (.bl fr), some (.int (M : Int)), some (.int (line : Int)), some (.int (A : Int)), some (.tup ((tmarks n line c).map Mark.d)), some (.tup ((tway n line fr c 1).ps.map Piece.d)), some (waysD (tlots n line fr c)), some (book0 T.c_Book (progOf S n (tlots n line fr c))), some (.ref p), some (.ref q), some (.int (i : Int)), none, some (pairI (if fr = true then ((A : Int) + M - i, (A : Int) + M) else ((A : Int), (A : Int) + i))), some (.tup ((if fr = true then [1, i] else [i, 1]).map fun (w : Nat) => .int (w : Int))), c17, none] ∧ m2 = m7) (fun R2 hR2 => ?_) ?_
      · walk_at "pd"
        cases fr with
        | true => walk_at "w"; exact hR2 _ _ ⟨rfl, rfl⟩
        | false => walk_at "w"; exact hR2 _ _ ⟨rfl, rfl⟩
      rintro s' m8 ⟨rfl, rfl⟩
      walk_at "pd"
      refine ⟨⟨_, _, lstOf_ref eq5⟩, by omega, by omega, fun u hu => ?_⟩
      have nu := T5.ne hu
      have hum := O5.free nu.1 hu
      have pu : p ≠ u := fun z => by rw [← z, ep5] at hu; cases hu
      have qu : q ≠ u := fun z => by rw [← z, eq5] at hu; cases hu
      rw [rgn]
      refine comp_all (st := fun _ => True) (us := List.range n) (fun (j : Nat) => D.int (j : Int)) (fun j => pairI (if j = line then (if fr = true then ((A : Int) + M - i, (A : Int) + M) else ((A : Int), (A : Int) + i)) else (0, 0))) (fun _ => trivial) (by rw [List.length_range]; omega) (fun z hz acc R3 k3 => ?_) ?_
      · walk_at "w"
        by_cases hz : z = line
        · rw [if_pos hz] at k3
          rw [if_pos (by omega)]
          exact k3
        · rw [if_neg hz] at k3
          rw [if_neg (by omega)]
          exact k3
      have esp : (List.range n).map (fun j => pairI (if j = line then (if fr = true then ((A : Int) + M - i, (A : Int) + M) else ((A : Int), (A : Int) + i)) else (0, 0))) = (tspan n line fr M A i).map pairI := by unfold tspan; rw [List.map_map]; rfl
      rw [esp]
      have ep8 := mset_new (o := .lst ((tspan n line fr M A i).map pairI)) hu ep5
      have eq8 := mset_new (o := .lst ((tspan n line fr M A i).map pairI)) hu eq5
      refine ⟨_, seqOf_ref mset_same, q, _, lstOf_ref eq8, by rw [List.length_map, List.length_range]; exact Nat.lt_of_le_of_lt (by omega : _ ≤ 200) (by decide), ?_⟩
      have O8 := (O5.new (o := .lst ((tspan n line fr M A i).map pairI)) hu).set' (o := .lst ((List.range i).map (fun t => stD (tspan n line fr M A t)) ++ [.tup ((tspan n line fr M A i).map pairI)])) hqm
      have T8 := (T5.new (o := .lst ((tspan n line fr M A i).map pairI)) hu).setp (o := .lst ((List.range i).map (fun t => stD (tspan n line fr M A t)) ++ [.tup ((tspan n line fr M A i).map pairI)])) qa qg
      have eq9 : mset (mset m8 u (.lst ((tspan n line fr M A i).map pairI))) q (.lst ((List.range i).map (fun t => stD (tspan n line fr M A t)) ++ [.tup ((tspan n line fr M A i).map pairI)])) q = some (.lst ((List.range (i + 1)).map fun t => stD (tspan n line fr M A t))) := by rw [mset_same, List.range_succ, List.map_append]; rfl
      have ep9 : mset (mset m8 u (.lst ((tspan n line fr M A i).map pairI))) q (.lst ((List.range i).map (fun t => stD (tspan n line fr M A t)) ++ [.tup ((tspan n line fr M A i).map pairI)])) p = some (.lst ((List.range (i + 1)).map (tnode n line fr))) := by rw [mset_ne pq]; exact ep8
      generalize mset (mset m8 u (.lst ((tspan n line fr M A i).map pairI))) q (.lst ((List.range i).map (fun t => stD (tspan n line fr M A t)) ++ [.tup ((tspan n line fr M A i).map pairI)])) = m9 at O8 T8 eq9 ep9 ⊢
      walk_at "w"
      by_cases hiM : i < M
      · rw [if_pos (by omega)]
        refine ⟨by omega, by omega, fun v hv => ?_⟩
        have nv := T8.ne hv
        have pv : p ≠ v := fun z => by rw [← z, ep9] at hv; cases hv
        have qv : q ≠ v := fun z => by rw [← z, eq9] at hv; cases hv
        refine comp_all (st := fun _ => True) (us := List.range n) (fun (j : Nat) => D.int (j : Int)) (fun j => .tup ((if j = line then (if fr = true then [1, i] else [i, 1]) else [0, 0]).map fun (w : Nat) => .int (w : Int))) (fun _ => trivial) (by rw [List.length_range]; omega) (fun z hz acc R3 k3 => ?_) ?_
        · walk_at "w"
          by_cases hz : z = line
          · rw [if_pos hz] at k3
            rw [if_pos (by omega)]
            exact k3
          · rw [if_neg hz] at k3
            rw [if_neg (by omega)]
            exact k3
        have ect : cutsD (tcut n line fr (i + 1)) = .tup ((List.range n).map fun j => .tup ((if j = line then (if fr = true then [1, i] else [i, 1]) else [0, 0]).map fun (w : Nat) => .int (w : Int))) := by unfold cutsD tcut; rw [List.map_map]; rfl
        generalize (List.range n).map (fun j => D.tup ((if j = line then (if fr = true then [1, i] else [i, 1]) else [0, 0]).map fun (w : Nat) => .int (w : Int))) = ctl at ect ⊢
        have epA := mset_new (o := .lst ctl) hv ep9
        have eqA := mset_new (o := .lst ctl) hv eq9
        have OA := O8.new (o := .lst ctl) hv
        have TA := T8.new (o := .lst ctl) hv
        have evA : mset m9 v (.lst ctl) v = some (.lst ctl) := mset_same
        generalize mset m9 v (.lst ctl) = mA at epA eqA OA TA evA ⊢
        refine ⟨_, seqOf_ref evA, ⟨_, _, lstOf_ref epA⟩, _, seqOf_ref epA, _, atI_map (List.getElem?_range (by omega)), p, _, lstOf_ref epA, by rw [List.length_map, List.length_range]; exact Nat.lt_of_le_of_lt (by omega : _ ≤ 200) (by decide), ?_⟩
        refine hR1 _ _ ⟨_, _, _, _, rfl, ?_, by rw [mset_ne pq.symm]; exact eqA, OA.set' hpm, TA.setp pa pg⟩
        rw [mset_same, show min (i + 1 + 1) (M + 1) = i + 1 + 1 by omega, List.range_succ (n := i + 1), List.map_append, ← ect]
        rfl
      · rw [if_neg (by omega)]
        refine hR1 _ _ ⟨_, _, _, _, rfl, ?_, eq9, O8, T8⟩
        rw [show min (i + 1 + 1) (M + 1) = i + 1 by omega]; exact ep9
    · rintro s' m5 ⟨c13, c15, c16, c17, rfl, ep5, eq5, O5, T5⟩
      rw [show min (M + 1 + 1) (M + 1) = M + 1 by omega] at ep5
      exact ⟨trivial, hR _ _ ⟨_, _, _, _, rfl, ep5, eq5, O5, T5⟩⟩
  clear T2 O2 ep eq
  rintro s' m5 ⟨c13, c15, c16, c17, rfl, ep, eq, O1, T1⟩
  walk_at "pd"
  have hel : atI S (-1) = some e := by rcases hS with rfl | rfl | rfl | rfl | rfl <;> exact he
  refine ⟨hsz, e, hel, by omega, by omega, hsz, c, atI_nat (j := 0) hc, by omega, by omega, ?_⟩
  rw [rep_tx, rep_tx, show ((A : Int)).toNat = A from rfl, show ((M : Int)).toNat = M from rfl, tx_app, tx_len, tx_len, tx_len, List.length_append, List.length_replicate, List.length_replicate]
  refine ⟨Nat.le_trans (by omega : _ ≤ 200) (by decide), hsz, e, hel, ?_⟩
  rw [rep_tx, show Int.toNat 2 = 2 from rfl, tx_app, tx_len, List.length_replicate]
  refine ⟨Nat.le_trans (by omega : _ ≤ 200) (by decide), by omega, by omega, fun u hu => ?_⟩
  rw [show List.replicate A e ++ List.replicate M c ++ List.replicate 2 e = ttext c e M A from rfl, rgn]
  have nu := T1.ne hu
  refine comp_all (st := fun _ => True) (us := List.range n) (fun (j : Nat) => D.int (j : Int)) (fun j => .str (tx (if j = line then ttext c e M A else []))) (fun _ => trivial) (by rw [List.length_range]; omega) (fun z hz acc R3 k3 => ?_) ?_
  · walk_at "w"
    by_cases hz : z = line
    · rw [if_pos hz] at k3
      rw [if_pos (by omega)]
      exact k3
    · rw [if_neg hz] at k3
      rw [if_neg (by omega)]
      exact k3
  refine ⟨_, seqOf_ref mset_same, ?_⟩
  have := h M line A p q (mset m5 u (.lst ((List.range n).map fun j => .str (tx (if j = line then ttext c e M A else []))))) hM1 hM2 hNL hA pa qa (O1.new hu) (T1.new hu) (mset_new hu ep) (mset_new hu eq)
  unfold rowsD trow at this
  rw [List.map_map] at this
  exact sub_refl_fin this
end
theorem frz_zer {d : Nat} {m : Mu} {Q : DK} : dFrzV (tzer d) m Q = Q (tzer d) m := rfl
theorem frz_node {n line t : Nat} {fr : Bool} {m : Mu} {Q : DK} : dFrzV (tnode n line fr t) m Q = Q (tnode n line fr t) m := by rw [tnode_eq]; rfl
theorem frz_put {n line N d t : Nat} {fr : Bool} {m : Mu} {Q : DK} : dFrzV (tput n line fr N (tnode n line fr t) d) m Q = Q (tput n line fr N (tnode n line fr t) d) m := by
  cases d with
  | zero => exact frz_node
  | succ d => rfl
theorem sam_zer {k h : Nat} (hh : h ≤ 1000) : samD (k + 1) (tzer h) = true := sam_tup (by rw [List.length_replicate]; omega) fun x hx => by rw [List.eq_of_mem_replicate hx]; exact sam_int
theorem sam_cut {n line t : Nat} {fr : Bool} (hn : n ≤ 2) {k : Nat} : samD (k + 2) (cutsD (tcut n line fr t)) = true := sam_map (by rw [tcut_len]; omega) fun c hc => sam_map (by
  have := tcut_ps (c := 0) c hc
  have := @tway_len n line fr 0 t
  omega) fun _ _ => sam_int
theorem sam_node {n line : Nat} {fr : Bool} (hn : n ≤ 2) : ∀ (t k : Nat), 2 * t + 3 ≤ k → samD k (tnode n line fr t) = true
  | 0, k, hk => by
    obtain ⟨j, rfl⟩ : ∃ j, k = j + 3 := ⟨k - 3, by omega⟩
    refine sam_tup (by show 4 ≤ _; omega) fun x hx => ?_
    simp only [List.mem_cons, List.not_mem_nil, or_false] at hx
    rcases hx with rfl | rfl | rfl | rfl
    · exact sam_str
    · exact sam_int
    · exact sam_cut hn
    · exact sam_tup (by show 0 ≤ _; omega) fun x hx => (List.not_mem_nil hx).elim
  | t + 1, k, hk => by
    obtain ⟨j, rfl⟩ : ∃ j, k = j + 5 := ⟨k - 5, by omega⟩
    refine sam_tup (n := j + 4) (by show 4 ≤ _; omega) fun x hx => ?_
    simp only [List.mem_cons, List.not_mem_nil, or_false] at hx
    rcases hx with rfl | rfl | rfl | rfl
    · exact sam_str
    · exact sam_int
    · exact sam_cut (k := j + 2) hn
    · exact sam_tup (n := j + 3) (by show 1 ≤ _; omega) fun x hx => by rw [List.mem_singleton.mp hx]; exact sam_node hn t (j + 3) (by omega)
theorem sam_put {n line N : Nat} {fr : Bool} (hn : n ≤ 2) : ∀ (d k : Nat), 2 * d + 3 ≤ k → samD k (tput n line fr N (tnode n line fr 0) d) = true
  | 0, k, hk => sam_node hn 0 k (by omega)
  | d + 1, k, hk => by
    obtain ⟨j, rfl⟩ : ∃ j, k = j + 5 := ⟨k - 5, by omega⟩
    refine sam_tup (n := j + 4) (by show 4 ≤ _; omega) fun x hx => ?_
    simp only [List.mem_cons, List.not_mem_nil, or_false] at hx
    rcases hx with rfl | rfl | rfl | rfl
    · exact sam_str
    · exact sam_int
    · exact sam_cut (k := j + 2) hn
    · exact sam_tup (n := j + 3) (by show 1 ≤ _; omega) fun x hx => by rw [List.mem_singleton.mp hx]; exact sam_put hn d (j + 3) (by omega)
theorem tpos_rg {fr : Bool} {M A t : Nat} (h : t + 1 ≤ M) : A ≤ tpos fr M A t ∧ tpos fr M A t < A + M := by unfold tpos; split <;> omega
theorem tpos_ne {fr : Bool} {M A t t' : Nat} (h : t + 1 ≤ M) (h' : t' + 1 ≤ M) (n : t ≠ t') : tpos fr M A t ≠ tpos fr M A t' := by unfold tpos; split <;> omega
theorem good_text {fr : Bool} {M A c e : Nat} : ∀ t ≤ M, tgood fr M A c (ttext c e M A) t = true
  | 0, _ => rfl
  | t + 1, h => by
    obtain ⟨h1, h2⟩ := tpos_rg (fr := fr) (A := A) h
    rw [tgood_s, ttext_at h1 h2]; simp
theorem bad_text {fr : Bool} {M A c e s d t : Nat} (hs : s ≠ c) (hd : d < M) (ht : t + 1 = M - d) : tbad M (tgood fr M A c ((ttext c e M A).set (tpos fr M A t) s)) (some d) := by
  refine ⟨by omega, fun h hh => ?_, ?_⟩
  · obtain ⟨t', ht'⟩ : ∃ t', M - h = t' + 1 := ⟨M - h - 1, by omega⟩
    rw [ht', tgood_s, List.getElem?_set_ne (tpos_ne (by omega) (by omega) (by omega))]
    obtain ⟨h1, h2⟩ := tpos_rg (fr := fr) (A := A) (show t' + 1 ≤ M by omega)
    rw [ttext_at h1 h2]; simp
  · rw [← ht, tgood_s]
    obtain ⟨h1, h2⟩ := tpos_rg (fr := fr) (A := A) (show t + 1 ≤ M by omega)
    rw [List.getElem?_set_self (by rw [ttext_len]; omega)]
    simpa using hs
section
variable {P : Program} {w : World} {K : PySem.W.Frag} {mg : Str → Option Value} {base : Heap}
def sp__law_tall_right (C : Addr) : SpD := fun ds m Q => ∃ (a g : Addr) (S : List Nat) (n : Nat), ds = [.ref a, .str (tx S), .int (n : Int)] ∧ S4 S ∧ (n = 1 ∨ n = 2) ∧ Tp m a g ∧ ∀ m', Q (.bl true) m'
theorem ok__law_tall_right  (T : Txt K mg) (G__law_same : FnOk P w K mg base CX0 (90) T.f__law_same T.fd__law_same ["_law_told", "_law_due_here"] (spL K 2 (sp__law_same 250))) (G_wrong_at : FnOk P w K mg base CX0 (5) T.f_wrong_at T.fd_wrong_at ["book", "rows", "candidate", "lot", "stretch"] (spL K 5 (sp_wrong_at T.c_Book))) (G_stands : FnOk P w K mg base CX0 (6) T.f_stands T.fd_stands ["book", "rows", "candidate", "lot", "stretch"] (spL K 5 (sp_stands T.c_Book))) (G_replaced_at : FnOk P w K mg base CX0 (2) T.f_replaced_at T.fd_replaced_at ["candidate", "path", "other"] (spL K 3 sp_replaced_at)) (G_node_at : FnOk P w K mg base CX0 (1) T.f_node_at T.fd_node_at ["candidate", "path"] (spL K 2 sp_node_at)) (G_height_of : FnOk P w K mg base CX0 (2) T.f_height_of T.fd_height_of ["candidate"] (spL K 1 sp_height_of)) (G_nodes_of : FnOk P w K mg base CX0 (5) T.f_nodes_of T.fd_nodes_of ["book", "candidate", "stretch"] (spL K 3 (sp_nodes_of T.c_Book))) (G__law_pick : FnOk P w K mg base CX0 (1) T.f__law_pick T.fd__law_pick ["_law_tape_here", "_law_many"] (spL K 2 sp__law_pick)) (G__law_tall : FnOk P w K mg base CX0 (9) T.f__law_tall T.fd__law_tall ["_law_tape_here", "_law_signs", "_law_sides", "_law_front"] (spL K 4 (sp__law_tall T.c_Book))) : FnOk P w K mg base CX0 (91) T.f__law_tall_right T.fd__law_tall_right ["_law_tape_here", "_law_signs", "_law_sides"] (spL K 3 (sp__law_tall_right T.c_Book)) := by
  refine fn_ok T.F__law_tall_right sc__law_tall_right (fun cdv A outer s H E hr =>
(gss_cons (gs_set (i := 3) sc__law_tall_right.nd rfl (.inl rfl) (ge_cmpR (op_eqS hr.units) lr_eq (ge_call G__law_pick (hr.mono (by omega)) (by rfl) T.g__law_pick T.F__law_pick.kp T.b__law_pick (ga_cons (gv 0) (ga_cons ge_int ga_nil))) ge_int (nomark _)))
 (gss_cons (gs_asg (ge_call G__law_tall (hr.mono (by omega)) (by rfl) T.g__law_tall T.F__law_tall.kp T.b__law_tall (ga_cons (gv 0) (ga_cons (gv 1) (ga_cons (gv 2) (ga_cons (gv 3) ga_nil))))) (gg_tup (n := 4) rfl (ggs_cons (gg_name (i := 12) sc__law_tall_right.nd rfl (.inl rfl)) (ggs_cons (gg_name (i := 13) sc__law_tall_right.nd rfl (.inl rfl)) (ggs_cons (gg_name (i := 14) sc__law_tall_right.nd rfl (.inr rfl)) (ggs_cons (gg_name (i := 15) sc__law_tall_right.nd rfl (.inl rfl)) ggs_nil))))))
 (gss_cons (gs_set (i := 4) sc__law_tall_right.nd rfl (.inr rfl) (ge_op op_sub lr_sub (ge_callB call_lenU lc_len (by rfl) T.z_len PySem.boot_len (ga_cons (gv 13) ga_nil)) ge_int))
 (gss_cons (gs_set (i := 5) sc__law_tall_right.nd rfl (.inl rfl) (ge_call G__law_pick (hr.mono (by omega)) (by rfl) T.g__law_pick T.F__law_pick.kp T.b__law_pick (ga_cons (gv 0) (ga_cons (ge_frz (gv 4)) ga_nil))))
 (gss_cons (gs_set (i := 6) sc__law_tall_right.nd rfl (.inl rfl) (ge_op op_mulT lr_mulT (ge_tup (ga_cons ge_int ga_nil)) (gv 5)))
 (gss_cons (gs_set (i := 7) sc__law_tall_right.nd rfl (.inl rfl) (ge_ix (gv 13) (gv 4)))
 (gss_cons (gs_set (i := 8) sc__law_tall_right.nd rfl (.inl rfl) (ge_callTy call_tuple_of lc_tuple (by rfl) T.z_tuple (by decide +kernel) (ga_cons (ge_lc (own := [("_law_turn", 10)]) rfl sc__law_tall_right.nd (gi_rng1 (by rfl) T.z_range (ga_cons (ge_op op_addL lr_addL (gv 4) ge_int) ga_nil)) (blkOk_by (N := N__law_tall_right) (sc := defScope s__law_tall_right) (by decide +kernel)) (fun _ _ _ _ _ => (gg_name (i := 10) sc__law_tall_right.nd rfl (.inl rfl))) (fun _ _ _ _ _ => gts_nil) (fun _ _ _ _ _ => (ge_tup (ga_cons (ge_op op_mulT lr_mulT (ge_tup (ga_cons ge_int ga_nil)) (gv 10)) (ga_cons ge_str (ga_cons (ge_ix (gv 14) (ge_op op_sub lr_sub (gv 4) (gv 10))) ga_nil))))) (by decide)) ga_nil)))
 (gss_cons (gs_if (gw_or (gt_not (gt_val (ge_call G__law_same (hr.mono (by omega)) (by rfl) T.g__law_same T.F__law_same.kp T.b__law_same (ga_cons (ge_call G_height_of (hr.mono (by omega)) (by rfl) T.g_height_of T.F_height_of.kp T.b_height_of (ga_cons (gv 7) ga_nil)) (ga_cons (ge_frz (ge_op op_addL lr_addL (gv 4) ge_int)) ga_nil))))) (gw_or1 (gt_not (gt_val (ge_call G__law_same (hr.mono (by omega)) (by rfl) T.g__law_same T.F__law_same.kp T.b__law_same (ga_cons (ge_call G_nodes_of (hr.mono (by omega)) (by rfl) T.g_nodes_of T.F_nodes_of.kp T.b_nodes_of (ga_cons (gv 12) (ga_cons (gv 7) (ga_cons (ge_ix (gv 14) (gv 4)) ga_nil)))) (ga_cons (gv 8) ga_nil))))))).gt
 (gss_one (gs_ret ge_bl))
 gss_nil)
 (gss_cons (gs_if (gt_not (gt_val (ge_call G__law_same (hr.mono (by omega)) (by rfl) T.g__law_same T.F__law_same.kp T.b__law_same (ga_cons (ge_callK G_height_of (hr.mono (by omega)) (by rfl) T.g_height_of T.F_height_of.kp T.kw_height_of (gk_cons (ge_ix (gv 13) (ge_op op_sub lr_sub (gv 4) (gv 5))) gk_nil)) (ga_cons (ge_frz (ge_op op_addL lr_addL (ge_op op_sub lr_sub (gv 4) (gv 5)) ge_int)) ga_nil)))))
 (gss_one (gs_ret ge_bl))
 gss_nil)
 (gss_cons (gs_if (gt_not (gt_val (ge_call G__law_same (hr.mono (by omega)) (by rfl) T.g__law_same T.F__law_same.kp T.b__law_same (ga_cons (ge_callP G_node_at (hr.mono (by omega)) (by rfl) T.g_node_at T.F_node_at.kp T.kp_node_at_1_0 (gk_cons (ge_frz (gv 6)) (gk_cons (gv 7) gk_nil))) (ga_cons (ge_ix (gv 13) (ge_op op_sub lr_sub (gv 4) (gv 5))) ga_nil)))))
 (gss_one (gs_ret ge_bl))
 gss_nil)
 (gss_cons (gs_set (i := 9) sc__law_tall_right.nd rfl (.inl rfl) (ge_ix (gv 13) ge_int))
 (gss_cons (gs_for PassesOwn.never rfl (gi_rng1 (by rfl) T.z_range (ga_cons (gv 5) ga_nil)) (gg_name (i := 10) sc__law_tall_right.nd rfl (.inl rfl))
 (gss_one (gs_set (i := 9) sc__law_tall_right.nd rfl (.inl rfl) (ge_op op_addL lr_addL (ge_sliceL (ge_ix (gv 13) (ge_op op_addL lr_addL (ge_op op_addL lr_addL (ge_op op_sub lr_sub (gv 4) (gv 5)) (gv 10)) ge_int)) go_none (go_some ge_int)) (ge_tup (ga_cons (ge_tup (ga_cons (gv 9) ga_nil)) ga_nil))))))
 (gss_cons (gs_if (gt_not (gt_val (ge_call G__law_same (hr.mono (by omega)) (by rfl) T.g__law_same T.F__law_same.kp T.b__law_same (ga_cons (ge_callP G_replaced_at (hr.mono (by omega)) (by rfl) T.g_replaced_at T.F_replaced_at.kp T.kp_replaced_at_2_1_0 (gk_cons (ge_ix (gv 13) ge_int) (gk_cons (ge_frz (gv 6)) (gk_cons (gv 7) gk_nil)))) (ga_cons (ge_frz (gv 9)) ga_nil)))))
 (gss_one (gs_ret ge_bl))
 gss_nil)
 (gss_cons (gs_if (gt_cmpR op_notN lr_notN (ge_call G_wrong_at (hr.mono (by omega)) (by rfl) T.g_wrong_at T.F_wrong_at.kp T.b_wrong_at (ga_cons (gv 12) (ga_cons (gv 15) (ga_cons (gv 7) (ga_cons ge_str (ga_cons (ge_ix (gv 14) (gv 4)) ga_nil)))))) ge_non (nomark _))
 (gss_one (gs_ret ge_bl))
 gss_nil)
 (gss_cons (gs_if (gt_cmpR (op_eqS hr.units) lr_eq (ge_callB call_lenU lc_len (by rfl) T.z_len PySem.boot_len (ga_cons (gv 1) ga_nil)) ge_int (nomark _))
 (gss_one (gs_ret (ge_cmpR op_isBl lr_isB (ge_call G_stands (hr.mono (by omega)) (by rfl) T.g_stands T.F_stands.kp T.b_stands (ga_cons (gv 12) (ga_cons (gv 15) (ga_cons (gv 7) (ga_cons ge_str (ga_cons (ge_ix (gv 14) (gv 4)) ga_nil)))))) ge_bl (nomark _))))
 gss_nil)
 (gss_cons (gs_set (i := 11) sc__law_tall_right.nd rfl (.inl rfl) (ge_lst ga_nil))
 (gss_cons (gs_for PassesOwn.never rfl (gi_zipL (by rfl) T.z_zip (ga_cons (gv 15) (ga_cons (ge_ix (gv 14) (ge_op op_sub lr_sub (gv 4) (gv 5))) ga_nil))) (gg_tup (n := 2) rfl (ggs_cons (gg_name (i := 16) sc__law_tall_right.nd rfl (.inl rfl)) (ggs_cons (gg_name (i := 17) sc__law_tall_right.nd rfl (.inl rfl)) ggs_nil)))
 (gss_cons (gs_set (i := 18) sc__law_tall_right.nd rfl (.inl rfl) (ge_ix (gv 17) ge_int))
 (gss_cons (gs_if (gt_not (gt_tru (gv 3)))
 (gss_one (gs_set (i := 18) sc__law_tall_right.nd rfl (.inl rfl) (ge_op op_sub lr_sub (ge_ix (gv 17) ge_int) ge_int)))
 gss_nil)
 (gss_one (gs_expr (ge_bm PySem.F.slot_list_append PySem.F.type_list_append mt_append lm_append (gv 11) (ga_cons (ge_op op_mulT lr_mulT (ge_op op_addL lr_addL (ge_op op_addL lr_addL (ge_sliceS (gv 16) go_none (go_some (gv 18))) (ge_ix (gv 1) ge_int)) (ge_sliceS (gv 16) (go_some (ge_op op_addL lr_addL (gv 18) ge_int)) go_none)) (ge_callTy call_int1 lc_int (by rfl) T.z_int (by decide +kernel) (ga_cons (ge_cmpR (op_neS hr.units) lr_ne (gv 16) ge_str (nomark _)) ga_nil))) ga_nil)))))))
 (gss_cons (gs_if (gt_cmpR op_notBl lr_isNotB (ge_call G_stands (hr.mono (by omega)) (by rfl) T.g_stands T.F_stands.kp T.b_stands (ga_cons (gv 12) (ga_cons (ge_callTy call_tuple_of lc_tuple (by rfl) T.z_tuple (by decide +kernel) (ga_cons (gv 11) ga_nil)) (ga_cons (gv 7) (ga_cons ge_str (ga_cons (ge_ix (gv 14) (gv 4)) ga_nil)))))) ge_bl (nomark _))
 (gss_one (gs_ret ge_bl))
 gss_nil)
 (gss_cons (gs_set (i := 9) sc__law_tall_right.nd rfl (.inl rfl) (ge_callP G_wrong_at (hr.mono (by omega)) (by rfl) T.g_wrong_at T.F_wrong_at.kp T.kp_wrong_at_4_3_2_1_0 (gk_cons (ge_ix (gv 14) (gv 4)) (gk_cons ge_str (gk_cons (gv 7) (gk_cons (ge_callTy call_tuple_of lc_tuple (by rfl) T.z_tuple (by decide +kernel) (ga_cons (gv 11) ga_nil)) (gk_cons (gv 12) gk_nil)))))))
 (gss_one (gs_ret (ge_call G__law_same (hr.mono (by omega)) (by rfl) T.g__law_same T.F__law_same.kp T.b__law_same (ga_cons (ge_frz (gv 9)) (ga_cons (ge_tup (ga_cons (gv 6) (ga_cons ge_str ga_nil))) ga_nil))))))))))))))))))))))))) (fun ds m Q h => ?_)
  obtain ⟨a, g, S, n, rfl, hS, hn, hT, h⟩ := h
  rw [show startD N__law_tall_right [.ref a, .str (tx S), .int (n : Int)] = [some (.ref a), some (.str (tx S)), some (.int (n : Int)), none, none, none, none, none, none, none, none, none, none, none, none, none, none, none, none] from rfl]
  have hS4 := hS.len
  obtain ⟨c, hc⟩ : ∃ c, S[0]? = some c := ⟨_, List.getElem?_eq_getElem (by omega)⟩
  obtain ⟨e, he⟩ : ∃ e, S[S.length - 1]? = some e := ⟨_, List.getElem?_eq_getElem (by omega)⟩
  refine seq_cut (fun s' m' => ∃ fr : Bool, s' = [some (.ref a), some (.str (tx S)), some (.int (n : Int)), some (.bl fr), none, none, none, none, none, none, none, none, none, none, none, none, none, none, none] ∧ Tp m' a g) (fun R hR => ?_) ?_
  · walk_at "pd"
    refine ⟨a, g, 2, rfl, by omega, by omega, hT, fun r m1 r0 r1 O1 T1 => ?_⟩
    walk_at "w"
    exact hR _ _ ⟨_, rfl, T1⟩
  rintro s' m1 ⟨fr, rfl, T1⟩
  refine seq_cut (fun s' m' => ∃ (M line A : Nat) (p q : Addr), 59 ≤ M ∧ M ≤ 119 ∧ NL n line ∧ A ≤ 2 ∧ p ≠ a ∧ q ≠ a ∧ s' = [some (.ref a), some (.str (tx S)), some (.int (n : Int)), some (.bl fr), none, none, none, none, none, none, none, none, some (book0 T.c_Book (progOf S n (tlots n line fr c))), some (.ref p), some (.ref q), some (rowsD (trow n line (ttext c e M A))), none, none, none] ∧ Tp m' a g ∧ m' p = some (.lst ((List.range (M + 1)).map (tnode n line fr))) ∧ m' q = some (.lst ((List.range (M + 1)).map fun t => stD (tspan n line fr M A t)))) (fun R hR => ?_) ?_
  · walk_at "pd"
    refine ⟨a, g, S, c, e, n, fr, rfl, hS, hc, he, hn, T1, fun M line A p q m2 h1 h2 h3 h4 h5 h6 O2 T2 ep eq => ?_⟩
    walk_at "w"
    exact hR _ _ ⟨M, line, A, p, q, h1, h2, h3, h4, h5, h6, rfl, T2, ep, eq⟩
  rintro s' m2 ⟨M, line, A, p, q, hM1, hM2, hNL, hA, pa, qa, rfl, T2, ep2, eq2⟩
  refine seq_cut (fun s' m' => s' = [some (.ref a), some (.str (tx S)), some (.int (n : Int)), some (.bl fr), some (.int (M : Int)), none, none, none, none, none, none, none, some (book0 T.c_Book (progOf S n (tlots n line fr c))), some (.ref p), some (.ref q), some (rowsD (trow n line (ttext c e M A))), none, none, none] ∧ m' = m2) (fun R hR => ?_) ?_
  · walk_at "pd"
    refine ⟨_, seqOf_ref ep2, ?_⟩
    walk_at "w"
    refine hR _ _ ⟨?_, rfl⟩
    rw [List.length_map, List.length_range, show ((M + 1 : Nat) : Int) - 1 = (M : Int) by omega]
  rintro s' m3 ⟨rfl, rfl⟩
  refine seq_cut (fun s' m' => ∃ d : Nat, d < M ∧ s' = [some (.ref a), some (.str (tx S)), some (.int (n : Int)), some (.bl fr), some (.int (M : Int)), some (.int (d : Int)), none, none, none, none, none, none, some (book0 T.c_Book (progOf S n (tlots n line fr c))), some (.ref p), some (.ref q), some (rowsD (trow n line (ttext c e M A))), none, none, none] ∧ m' p = some (.lst ((List.range (M + 1)).map (tnode n line fr))) ∧ m' q = some (.lst ((List.range (M + 1)).map fun t => stD (tspan n line fr M A t)))) (fun R hR => ?_) ?_
  · walk_at "pd"
    refine ⟨a, g, M, rfl, by omega, by omega, T2, fun r m4 r0 r1 O4 T4 => ?_⟩
    obtain ⟨d, rfl⟩ := Int.eq_ofNat_of_zero_le r0
    exact hR _ _ ⟨d, by omega, rfl, O4 _ _ pa ep2, O4 _ _ qa eq2⟩
  clear ep2 eq2 T2 T1
  rintro s' m4 ⟨d, hd, rfl, ep, eq⟩
  refine seq_cut (fun s' m' => s' = [some (.ref a), some (.str (tx S)), some (.int (n : Int)), some (.bl fr), some (.int (M : Int)), some (.int (d : Int)), some (tzer d), none, none, none, none, none, some (book0 T.c_Book (progOf S n (tlots n line fr c))), some (.ref p), some (.ref q), some (rowsD (trow n line (ttext c e M A))), none, none, none] ∧ m' = m4) (fun R hR => ?_) ?_
  · walk_at "pd"
    refine ⟨by omega, by omega, ?_⟩
    rw [show ((d : Int)).toNat = d from rfl, List.flatten_replicate_singleton]
    exact hR _ _ ⟨rfl, rfl⟩
  rintro s' m5 ⟨rfl, rfl⟩
  have nd : ∀ j, j ≤ M → ((List.range (M + 1)).map (tnode n line fr))[j]? = some (tnode n line fr j) := fun j hj => by rw [List.getElem?_map, List.getElem?_range (by omega)]; rfl
  have spn : ∀ j, j ≤ M → ((List.range (M + 1)).map fun t => stD (tspan n line fr M A t))[j]? = some (stD (tspan n line fr M A j)) := fun j hj => by rw [List.getElem?_map, List.getElem?_range (by omega)]; rfl
  refine seq_cut (fun s' m' => s' = [some (.ref a), some (.str (tx S)), some (.int (n : Int)), some (.bl fr), some (.int (M : Int)), some (.int (d : Int)), some (tzer d), some (tnode n line fr M), none, none, none, none, some (book0 T.c_Book (progOf S n (tlots n line fr c))), some (.ref p), some (.ref q), some (rowsD (trow n line (ttext c e M A))), none, none, none] ∧ m' = m5) (fun R hR => ?_) ?_
  · walk_at "pd"
    refine dIx_seq (seqOf_ref ep) (atI_nat (nd M (by omega))) ?_
    exact hR _ _ ⟨rfl, rfl⟩
  rintro s' m6 ⟨rfl, rfl⟩
  refine seq_cut (fun s' m' => s' = [some (.ref a), some (.str (tx S)), some (.int (n : Int)), some (.bl fr), some (.int (M : Int)), some (.int (d : Int)), some (tzer d), some (tnode n line fr M), some (.tup ((List.range (M + 1)).map fun h => .tup [tzer h, .str "s", stD (tspan n line fr M A (M - h))])), none, none, none, some (book0 T.c_Book (progOf S n (tlots n line fr c))), some (.ref p), some (.ref q), some (rowsD (trow n line (ttext c e M A))), none, none, none] ∧ m' p = some (.lst ((List.range (M + 1)).map (tnode n line fr))) ∧ m' q = some (.lst ((List.range (M + 1)).map fun t => stD (tspan n line fr M A t)))) (fun R hR => ?_) ?_
  · walk_at "pd"
    refine ⟨by omega, by omega, fun u hu => ?_⟩
    have pu : p ≠ u := fun z => by rw [← z, ep] at hu; cases hu
    have qu : q ≠ u := fun z => by rw [← z, eq] at hu; cases hu
    rw [show ((M : Int) + 1).toNat = M + 1 by omega, show rangeD 0 (M + 1) = (List.range (M + 1)).map fun (i : Nat) => D.int (i : Int) from by unfold rangeD; simp]
    refine comp_all (st := fun _ => True) (us := List.range (M + 1)) (fun (j : Nat) => D.int (j : Int)) (fun h => .tup [tzer h, .str "s", stD (tspan n line fr M A (M - h))]) (fun _ => trivial) (by rw [List.length_range]; omega) (fun z hz acc R3 k3 => ?_) ?_
    · have hz := List.mem_range.mp hz
      walk_at "w"
      refine ⟨by omega, by omega, ?_⟩
      rw [show ((z : Int)).toNat = z from rfl, List.flatten_replicate_singleton]
      rw [show ((M : Int) - (z : Int)) = ((M - z : Nat) : Int) by omega]
      refine dIx_seq (seqOf_ref (by rw [mset_ne qu]; exact eq)) (atI_nat (spn (M - z) (by omega))) ?_
      exact k3
    · exact ⟨_, seqOf_ref mset_same, hR _ _ ⟨rfl, mset_new hu ep, mset_new hu eq⟩⟩
  clear ep eq
  rintro s' m7 ⟨rfl, ep, eq⟩
  have emd : (M : Int) - (d : Int) = ((M - d : Nat) : Int) := by omega
  have n2 : n ≤ 2 := by omega
  have fn0 : fnd (progOf S n (tlots n line fr c)).lots "s" = some (tlots n line fr c) := by
    show fnd [("s", tlots n line fr c)] "s" = _
    rw [fnd_cons, if_pos rfl]
  have t0 : TO (progOf S n (tlots n line fr c)) n line fr c M A (ttext c e M A) := ⟨fn0, hNL, by omega, by omega, ttext_len⟩
  walk_at "pd"
  refine ⟨n, line, fr, M, rfl, by omega, ?_⟩
  refine same_at (by rw [Int.natCast_add]; rfl) sam_int ?_
  walk_at "w"
  refine ⟨_, seqOf_ref eq, _, atI_nat (spn M (by omega)), ?_⟩
  refine ⟨progOf S n (tlots n line fr c), dicOf [], dicOf [], dicTOf [], dicOf [], n, line, fr, c, M, A, M, rfl, fn0, hNL, by omega, by omega, ?_⟩
  refine same_at rfl (sam_map (n := 249) (by rw [List.length_range]; omega) fun x hx => sam_tup (n := 248) (by show 3 ≤ _; omega) fun y hy => ?_) ?_
  · have hx := List.mem_range.mp hx
    simp only [List.mem_cons, List.not_mem_nil, or_false] at hy
    rcases hy with rfl | rfl | rfl
    · exact sam_zer (k := 247) (by omega)
    · exact sam_str
    · exact sam_st (n := 246) (by rw [tspan_len]; omega)
  walk_at "w"
  rw [emd]
  refine ⟨_, seqOf_ref ep, _, atI_nat (nd (M - d) (by omega)), ?_⟩
  refine ⟨n, line, fr, M - d, rfl, by omega, ?_⟩
  refine same_at (by rw [Int.natCast_add]; rfl) sam_int ?_
  walk_at "w"
  rw [frz_zer]
  refine ⟨n, line, fr, M, d, rfl, by omega, ?_⟩
  refine ⟨_, seqOf_ref ep, _, atI_nat (nd (M - d) (by omega)), ?_⟩
  refine same_at rfl (sam_node n2 _ _ (by omega)) ?_
  walk_at "w"
  refine ⟨_, seqOf_ref ep, _, atI_nat (j := 0) (nd 0 (by omega)), ?_⟩
  refine ⟨by omega, by omega, ?_⟩
  rw [show ((d : Int)).toNat = d from rfl]
  have hsz : S.length ≤ sizeLine := Nat.le_trans hS4.2 (by decide)
  refine loop_range (fun i s' m' => ∃ c10 : Option D, s' = [some (.ref a), some (.str (tx S)), some (.int (n : Int)), some (.bl fr), some (.int (M : Int)), some (.int (d : Int)), some (tzer d), some (tnode n line fr M), some (.tup ((List.range (M + 1)).map fun h => .tup [tzer h, .str "s", stD (tspan n line fr M A (M - h))])), some (tput n line fr (M - d) (tnode n line fr 0) i), c10, none, some (book0 T.c_Book (progOf S n (tlots n line fr c))), some (.ref p), some (.ref q), some (rowsD (trow n line (ttext c e M A))), none, none, none] ∧ m' = m7) ?_ ?_ ⟨_, rfl, rfl⟩
  · rintro i s' m' R hi hR ⟨c10, rfl, rfl⟩
    refine ⟨trivial, ?_⟩
    walk_at "w"
    rw [emd, show ((M - d : Nat) : Int) + (i : Int) + 1 = ((M - d + i + 1 : Nat) : Int) by omega]
    refine ⟨_, seqOf_ref ep, _, atI_nat (nd (M - d + i + 1) (by omega)), ?_⟩
    rw [show tnode n line fr (M - d + i + 1) = .tup [.str "s", .int 0, cutsD (tcut n line fr (M - d + i + 1)), .tup [tnode n line fr (M - d + i)]] from rfl]
    walk_at "w"
    rw [show PD.cutD [D.str "s", .int 0, cutsD (tcut n line fr (M - d + i + 1)), .tup [tnode n line fr (M - d + i)]] none (some 3) = [.str "s", .int 0, cutsD (tcut n line fr (M - d + i + 1))] from rfl]
    refine ⟨(by show 4 ≤ sizeLine; decide), hR _ _ ⟨some (.int (i : Int)), rfl, rfl⟩⟩
  rintro s' m' ⟨c10, rfl, rfl⟩
  refine ⟨trivial, ?_⟩
  walk_at "w"
  refine ⟨_, seqOf_ref ep, _, atI_nat (j := 0) (nd 0 (by omega)), ?_⟩
  rw [frz_zer]
  refine ⟨n, line, fr, M, d, tnode n line fr 0, rfl, by omega, by omega, ?_⟩
  show dFrzV (tput n line fr (M - d) (tnode n line fr 0) d) _ _
  rw [frz_put]
  refine same_at rfl (sam_put n2 d 250 (by omega)) ?_
  walk_at "w"
  refine ⟨_, seqOf_ref eq, _, atI_nat (spn M (by omega)), ?_⟩
  refine ⟨progOf S n (tlots n line fr c), dicOf [], dicOf [], dicTOf [], dicOf [], n, line, fr, c, M, A, M, ttext c e M A, none, rfl, t0, Nat.le_refl _, good_text, ?_⟩
  rw [show toutD none = .non from rfl]
  walk_at "w"
  refine ⟨hsz, ?_⟩
  by_cases h1 : S.length = 1
  · rw [if_pos (by omega)]
    refine ⟨_, seqOf_ref eq, _, atI_nat (spn M (by omega)), ?_⟩
    refine ⟨progOf S n (tlots n line fr c), dicOf [], dicOf [], dicTOf [], dicOf [], n, line, fr, c, M, A, M, ttext c e M A, none, rfl, t0, Nat.le_refl _, good_text, ?_⟩
    exact sub_refl_fin (h _)
  rw [if_neg (by omega)]
  obtain ⟨s1, hs1⟩ : ∃ s1, S[1]? = some s1 := ⟨_, List.getElem?_eq_getElem (by omega)⟩
  have hsc : s1 ≠ c := by
    rcases hS with rfl | rfl | rfl | rfl | rfl
    all_goals first
      | exact absurd rfl h1
      | (injection hc with hc; injection hs1 with hs1; omega)
  intro pb hpb
  have pbp : p ≠ pb := fun z => by rw [← z, ep] at hpb; cases hpb
  have pbq : q ≠ pb := fun z => by rw [← z, eq] at hpb; cases hpb
  rw [emd]
  refine ⟨_, seqOf_ref (by rw [mset_ne pbq]; exact eq), _, atI_nat (spn (M - d) (by omega)), ?_⟩
  rw [show rowsD (trow n line (ttext c e M A)) = .tup ((trow n line (ttext c e M A)).map fun l => .str (tx l)) from rfl, show stD (tspan n line fr M A (M - d)) = .tup ((tspan n line fr M A (M - d)).map pairI) from rfl]
  walk_at "w"
  obtain ⟨t, ht⟩ : ∃ t, M - d = t + 1 := ⟨M - d - 1, by omega⟩
  rw [zipD_map, show trow n line (ttext c e M A) = (List.range n).map fun i => if i = line then ttext c e M A else [] from rfl, show tspan n line fr M A (M - d) = (List.range n).map fun i => if i = line then (if fr = true then ((A : Int) + M - (M - d : Nat), (A : Int) + M) else ((A : Int), (A : Int) + (M - d : Nat))) else (0, 0) from rfl, List.zip_map', List.map_map]
  refine loop_pre (us := List.range n) (fun pre s' m2 => ∃ c9 c10 c15 c16 c17 c18 : Option D, s' = [some (.ref a), some (.str (tx S)), some (.int (n : Int)), some (.bl fr), some (.int (M : Int)), some (.int (d : Int)), some (tzer d), some (tnode n line fr M), some (.tup ((List.range (M + 1)).map fun h => .tup [tzer h, .str "s", stD (tspan n line fr M A (M - h))])), c9, c10, some (.ref pb), some (book0 T.c_Book (progOf S n (tlots n line fr c))), some (.ref p), some (.ref q), c15, c16, c17, c18] ∧ m2 pb = some (.lst (pre.map fun i => .str (tx (if i = line then (ttext c e M A).set (tpos fr M A t) s1 else [])))) ∧ m2 q = some (.lst ((List.range (M + 1)).map fun t => stD (tspan n line fr M A t)))) _ (fun _ _ _ _ => trivial) ?_ ?_ ⟨_, _, _, _, _, _, rfl, mset_same, by rw [mset_ne pbq]; exact eq⟩
  · rintro pre i post eu s' m2 R2 ⟨c9, c10, c15, c16, c17, c18, rfl, eb, eq2⟩ hR2
    have hpl : pre.length < 2 := by have := congrArg List.length eu; simp at this; omega
    rw [Function.comp_apply]
    dsimp only
    obtain ⟨pl, hpl⟩ : ∃ pl : Int × Int, pl = (if i = line then (if fr = true then ((A : Int) + M - (M - d : Nat), (A : Int) + M) else ((A : Int), (A : Int) + (M - d : Nat))) else (0, 0)) := ⟨_, rfl⟩
    rw [← hpl]
    simp only [dgTup, dgCons, dgNil, dgN, dgSub, seqOf_tup, Option.some.injEq, exists_eq_left', exists_eq_left, List.set_cons_zero, List.set_cons_succ, List.length_cons, List.length_nil, Nat.reduceAdd, true_and]
    refine seq_cut (fun s'' m'' => s'' = [some (.ref a), some (.str (tx S)), some (.int (n : Int)), some (.bl fr), some (.int (M : Int)), some (.int (d : Int)), some (tzer d), some (tnode n line fr M), some (.tup ((List.range (M + 1)).map fun h => .tup [tzer h, .str "s", stD (tspan n line fr M A (M - h))])), c9, c10, some (.ref pb), some (book0 T.c_Book (progOf S n (tlots n line fr c))), some (.ref p), some (.ref q), c15, some (.str (tx (if i = line then ttext c e M A else []))), some (pairI pl), some (.int pl.1)] ∧ m'' = m2) (fun R3 hR3 => ?_) ?_
    · unfold pairI
      walk_at "w"
      exact hR3 _ _ ⟨rfl, rfl⟩
    rintro s'' m'' ⟨rfl, rfl⟩
    refine seq_cut (fun s'' m3 => s'' = [some (.ref a), some (.str (tx S)), some (.int (n : Int)), some (.bl fr), some (.int (M : Int)), some (.int (d : Int)), some (tzer d), some (tnode n line fr M), some (.tup ((List.range (M + 1)).map fun h => .tup [tzer h, .str "s", stD (tspan n line fr M A (M - h))])), c9, c10, some (.ref pb), some (book0 T.c_Book (progOf S n (tlots n line fr c))), some (.ref p), some (.ref q), c15, some (.str (tx (if i = line then ttext c e M A else []))), some (pairI pl), some (.int (if fr = true then pl.1 else pl.2 - 1))] ∧ m3 = m'') (fun R3 hR3 => ?_) ?_
    · unfold pairI
      walk_at "w"
      cases fr with
      | true => walk_at "w"; exact hR3 _ _ ⟨rfl, rfl⟩
      | false => walk_at "w"; exact hR3 _ _ ⟨rfl, rfl⟩
    rintro s'' m3 ⟨rfl, rfl⟩
    by_cases hi : i = line
    · rw [if_pos hi]
      have eat : (if fr = true then pl.1 else pl.2 - 1) = ((tpos fr M A t : Nat) : Int) := by
        rw [hpl, if_pos hi]
        unfold tpos
        cases fr
        · rw [if_neg (by decide), if_neg (by decide), if_neg (by decide)]; dsimp only; omega
        · rw [if_pos rfl, if_pos rfl, if_pos rfl]; dsimp only; omega
      rw [eat]
      walk_at "w"
      obtain ⟨g1, g2⟩ := tpos_rg (fr := fr) (A := A) (show t + 1 ≤ M by omega)
      have hxl := @ttext_len c e M A
      have hne : (!(tx (ttext c e M A) == tx [])) = true := by
        have : tx (ttext c e M A) ≠ tx [] := fun z => by
          have := tx_inj z
          rw [this] at hxl; simp at hxl
        simpa using this
      have hset : (ttext c e M A).take (tpos fr M A t) ++ [s1] ++ (ttext c e M A).drop (tpos fr M A t + 1) = (ttext c e M A).set (tpos fr M A t) s1 := by
        rw [List.set_eq_take_append_cons_drop, if_pos (by omega), List.append_assoc]; rfl
      have hsl := congrArg List.length hset
      rw [List.length_set] at hsl
      have b1 : A + M + 2 ≤ sizeLine := Nat.le_trans (by omega : _ ≤ 200) (by decide)
      rw [if_pos hne]
      refine ⟨⟨_, _, lstOf_ref eb⟩, by rw [hxl]; exact b1, hsz, s1, atI_nat (j := 1) hs1, ?_, by rw [hxl]; exact b1, ?_, by decide, by decide, by rw [hsl, hxl]; omega, pb, _, lstOf_ref eb, ?_, ?_⟩
      · rw [List.length_take]; exact Nat.le_trans (by omega : _ ≤ 200) (by decide)
      · rw [← List.length_append, hsl, hxl]; exact b1
      · rw [List.length_map]; exact Nat.lt_of_lt_of_le (by omega : _ < 2) (by decide)
      · refine hR2 _ _ ⟨_, _, _, _, _, _, rfl, ?_, by rw [mset_ne pbq]; exact eq2⟩
        rw [mset_same, hset, show Int.toNat 1 = 1 from rfl, repS_one, List.map_append, List.map_singleton, if_pos hi]
    · rw [if_neg hi]
      have eat : (if fr = true then pl.1 else pl.2 - 1) = 0 ∨ (if fr = true then pl.1 else pl.2 - 1) = -1 := by
        rw [hpl, if_neg hi]
        cases fr
        · exact .inr rfl
        · exact .inl rfl
      rcases eat with eat | eat
      · rw [eat]
        walk_at "w"
        rw [show cutS (tx []) none (some (0)) = tx [] from rfl, show cutS (tx []) (some (0 + 1)) none = tx [] from rfl]
        refine ⟨⟨_, _, lstOf_ref eb⟩, hsz, s1, atI_nat (j := 1) hs1, ?_, ?_, pb, _, lstOf_ref eb, ?_, ?_⟩
        · rw [tx_app, tx_len, tx_len]; exact (by decide : 1 ≤ sizeLine)
        · rw [tx_app, tx_app, tx_len]; exact (by decide : 1 ≤ 1000)
        · rw [List.length_map]; exact Nat.lt_of_lt_of_le (by omega : _ < 2) (by decide)
        · refine hR2 _ _ ⟨_, _, _, _, _, _, rfl, ?_, by rw [mset_ne pbq]; exact eq2⟩
          rw [mset_same, show Int.toNat 0 = 0 from rfl, repS_zero, List.map_append, List.map_singleton, if_neg hi]
          rfl
      · rw [eat]
        walk_at "w"
        rw [show cutS (tx []) none (some (-1)) = tx [] from rfl, show cutS (tx []) (some (-1 + 1)) none = tx [] from rfl]
        refine ⟨⟨_, _, lstOf_ref eb⟩, hsz, s1, atI_nat (j := 1) hs1, ?_, ?_, pb, _, lstOf_ref eb, ?_, ?_⟩
        · rw [tx_app, tx_len, tx_len]; exact (by decide : 1 ≤ sizeLine)
        · rw [tx_app, tx_app, tx_len]; exact (by decide : 1 ≤ 1000)
        · rw [List.length_map]; exact Nat.lt_of_lt_of_le (by omega : _ < 2) (by decide)
        · refine hR2 _ _ ⟨_, _, _, _, _, _, rfl, ?_, by rw [mset_ne pbq]; exact eq2⟩
          rw [mset_same, show Int.toNat 0 = 0 from rfl, repS_zero, List.map_append, List.map_singleton, if_neg hi]
          rfl
  · rintro s' m2 ⟨c9, c10, c15, c16, c17, c18, rfl, eb, eq2⟩
    have ebr : rowsD (trow n line ((ttext c e M A).set (tpos fr M A t) s1)) = .tup ((List.range n).map fun i => .str (tx (if i = line then (ttext c e M A).set (tpos fr M A t) s1 else []))) := by unfold rowsD trow; rw [List.map_map]; rfl
    have t1 : TO (progOf S n (tlots n line fr c)) n line fr c M A ((ttext c e M A).set (tpos fr M A t) s1) := ⟨fn0, hNL, by omega, by omega, by rw [List.length_set]; exact ttext_len⟩
    have hb := bad_text (fr := fr) (A := A) (e := e) hsc hd (show t + 1 = M - d by omega)
    walk_at "w"
    refine ⟨_, seqOf_ref eb, _, seqOf_ref eq2, _, atI_nat (spn M (by omega)), ?_⟩
    rw [← ebr]
    refine ⟨progOf S n (tlots n line fr c), dicOf [], dicOf [], dicTOf [], dicOf [], n, line, fr, c, M, A, M, _, some d, rfl, t1, Nat.le_refl _, hb, ?_⟩
    walk_at "w"
    rw [show (!decide ((some d).isNone = false)) = false from rfl, if_neg (by decide)]
    refine ⟨_, seqOf_ref eq2, _, atI_nat (spn M (by omega)), _, seqOf_ref eb, ?_⟩
    rw [← ebr]
    refine ⟨progOf S n (tlots n line fr c), dicOf [], dicOf [], dicTOf [], dicOf [], n, line, fr, c, M, A, M, _, some d, rfl, t1, Nat.le_refl _, hb, ?_⟩
    rw [show toutD (some d) = .tup [tzer d, .str "sign"] from rfl]
    walk_at "w"
    refine same_at rfl (sam_tup (n := 249) (by show 2 ≤ _; omega) fun y hy => ?_) (sub_refl_fin (h _))
    simp only [List.mem_cons, List.not_mem_nil, or_false] at hy
    rcases hy with rfl | rfl
    · exact sam_zer (k := 248) (by omega)
    · exact sam_str
end
abbrev Jb := Way × List Tx × List (Nat × Nat) × List (List Nat)
def jobD (j : Jb) : D := .tup [j.1.d, rowsD j.2.1, stD (j.2.2.1.map cI), cutsD j.2.2.2]
def JbO (S : List Nat) (n : Nat) (j : Jb) : Prop := JobO n j.1 j.2.1 j.2.2.1 j.2.2.2 ∧ WayO S n j.1
abbrev Sc := List Tx × List (Nat × Nat)
def scD (x : Sc) : D := .tup [rowsD x.1, stD (x.2.map cI)]
structure ScO (S : List Nat) (n : Nat) (x : Sc) : Prop where
  h1 : x.1.length = n
  h2 : x.2.length = n
  h3 : ∀ l ∈ x.1, l.length ≤ 160 ∧ ∀ c ∈ l, c ∈ S
  h4 : ∀ q ∈ x.1.zip x.2, q.2.1 ≤ q.2.2 ∧ q.2.2 ≤ q.1.length
theorem ScO.pr {S : List Nat} {n : Nat} {x : Sc} (h : ScO S n x) : ∀ p ∈ x.2, p.1 ≤ p.2 ∧ p.2 ≤ 160 := fun p hp => by
  obtain ⟨i, hi⟩ := List.mem_iff_getElem?.mp hp
  have hl := (List.getElem?_eq_some_iff.mp hi).1
  obtain ⟨l, el⟩ : ∃ l, x.1[i]? = some l := ⟨_, List.getElem?_eq_getElem (by rw [h.h1, ← h.h2]; exact hl)⟩
  have := h.h4 _ (List.mem_of_getElem? (List.getElem?_zip_eq_some.mpr (show x.1[i]? = some (l, p).1 ∧ x.2[i]? = some (l, p).2 from ⟨el, hi⟩)))
  have h3 := (h.h3 l (List.mem_of_getElem? el)).1
  dsimp only at this
  omega
theorem job_X {n : Nat} {y : Way} {R : List Tx} {st : List (Nat × Nat)} {cs : List (List Nat)} (J : JobO n y R st cs) : pst ((st.map cI).map (·.1)) cs = (List.range y.ps.length).map (rowS (st.map cI) cs) :=
  pst_rows (st := st.map cI) (cs := cs) (k := y.ps.length) (by rw [List.length_map, J.hst, J.hcs]) (by rw [List.length_map, J.hst]; exact J.n2) J.hc
theorem job_dress {n : Nat} {y : Way} {R : List Tx} {st : List (Nat × Nat)} {cs : List (List Nat)} (J : JobO n y R st cs) {m : Mu} {Q : DK} (h : Q (drD ((y.ps.zip (pst ((st.map cI).map (·.1)) cs)).map (txOf R))) m) : sp_dress_of [rowsD R, y.d, stD (st.map cI), cutsD cs] m Q := by
  have h5 := J.yp
  have hn2 := J.n2
  have hRn := J.hR
  refine ⟨R, y, st.map cI, cs, rfl, by rw [List.length_map, J.hst, J.hcs], by rw [List.length_map, J.hst]; exact J.n2, J.hc, by omega, by omega, fun S hS => ?_, h⟩
  rw [job_X J] at hS
  obtain ⟨i, _, rfl⟩ := List.mem_map.mp hS
  exact J.inr i
theorem job_due {n : Nat} {y : Way} {R : List Tx} {st : List (Nat × Nat)} {cs : List (List Nat)} (J : JobO n y R st cs) {m : Mu} {Q : DK} (h : Q (.tup [.tup ((pst ((st.map cI).map (·.1)) cs).map stD), drD ((y.ps.zip (pst ((st.map cI).map (·.1)) cs)).map (txOf R))]) m) : sp__law_due [y.d, rowsD R, stD (st.map cI), cutsD cs] m Q := by
  have h5 := J.yp
  have eX : (st.map cI).map (·.1) = st.map fun p => (p.1 : Int) := by rw [List.map_map]; rfl
  rw [eX] at h
  exact ⟨y, R, st, cs, n, rfl, J.hR, J.hst, J.hcs, J.n2, by omega, J.hc, J.len, h⟩
theorem job_sam {n : Nat} {y : Way} {R : List Tx} {st : List (Nat × Nat)} {cs : List (List Nat)} (J : JobO n y R st cs) : samD 250 (drD ((y.ps.zip (pst ((st.map cI).map (·.1)) cs)).map (txOf R))) = true := by
  have h5 := J.yp
  have hn2 := J.n2
  have hRn := J.hR
  refine sam_dr (n := 248) (by rw [List.length_map, List.length_zip]; omega) fun ts hts => ?_
  obtain ⟨z, hz, e⟩ := List.mem_map.mp hts
  unfold txOf at e
  split at e
  · cases e
  · injection e with e
    subst e
    unfold txIn
    rw [List.length_map, List.length_zip]; omega
theorem sam_pl {c : Nat} {ks : List Knd} (h : ks.length ≤ 1000) (h2 : ∀ ws, some ws ∈ ks → ws.length ≤ 1000) : samD 250 (plD c ks) = true := sam_map (n := 249) (by omega) fun k hk => by
  cases k with
  | none => exact sam_non
  | some ws => exact sam_map (n := 248) (by have := h2 ws hk; omega) fun _ _ => sam_str
section
variable {P : Program} {w : World} {K : PySem.W.Frag} {mg : Str → Option Value} {base : Heap}
def sp_law : SpD := fun ds m Q => ∃ ns : List Int, ds = [.rol (ns.map .int)] ∧ ns.length ≤ 63 ∧ ∀ m', Q (.bl true) m'
theorem ok_law  (T : Txt K mg) (G__law_tall_right : FnOk P w K mg base CX0 (91) T.f__law_tall_right T.fd__law_tall_right ["_law_tape_here", "_law_signs", "_law_sides"] (spL K 3 (sp__law_tall_right T.c_Book))) (G__law_pick : FnOk P w K mg base CX0 (1) T.f__law_pick T.fd__law_pick ["_law_tape_here", "_law_many"] (spL K 2 sp__law_pick)) (G__law_same : FnOk P w K mg base CX0 (90) T.f__law_same T.fd__law_same ["_law_told", "_law_due_here"] (spL K 2 (sp__law_same 250))) (G__law_due : FnOk P w K mg base CX0 (2) T.f__law_due T.fd__law_due ["_law_branch", "_law_texts", "_law_span_here", "_law_parting_here"] (spL K 4 sp__law_due)) (G_dress_of : FnOk P w K mg base CX0 (3) T.f_dress_of T.fd_dress_of ["rows", "way", "stretch", "cut"] (spL K 4 sp_dress_of)) (G__law_plain : FnOk P w K mg base CX0 (1) T.f__law_plain T.fd__law_plain ["_law_branch", "_law_first"] (spL K 2 sp__law_plain)) (G_plain_dress : FnOk P w K mg base CX0 (2) T.f_plain_dress T.fd_plain_dress ["book", "kinds"] (spL K 2 (sp_plain_dress T.c_Book))) (G__law_job_right : FnOk P w K mg base CX0 (91) T.f__law_job_right T.fd__law_job_right ["_law_branch", "_law_texts", "_law_span_here", "_law_parting_here"] (spL K 4 sp__law_job_right)) (G__law_scene_right : FnOk P w K mg base CX0 (91) T.f__law_scene_right T.fd__law_scene_right ["_law_texts", "_law_span_here"] (spL K 2 sp__law_scene_right)) (G__law_parting : FnOk P w K mg base CX0 (2) T.f__law_parting T.fd__law_parting ["_law_tape_here", "_law_width", "_law_many"] (spL K 3 sp__law_parting)) (G__law_scene : FnOk P w K mg base CX0 (3) T.f__law_scene T.fd__law_scene ["_law_tape_here", "_law_signs", "_law_sides"] (spL K 3 sp__law_scene)) (G_Book___init__ : FnOk P w K mg base (L2.CX P w) (6) T.f_Book___init__ T.fd_Book___init__ ["self", "program"] (spX K 2 (sp_Book___init__ T))) (G__law_way : FnOk P w K mg base CX0 (3) T.f__law_way T.fd__law_way ["_law_tape_here", "_law_maker", "_law_signs", "_law_sides"] (spL K 4 sp__law_way)) (G__law_tape : FnOk P w K mg base CX0 (1) T.f__law_tape T.fd__law_tape ["_law_script"] (spL K 1 sp__law_tape)) : FnOk P w K mg base CX0 (92) T.f_law T.fd_law ["_law_script"] (spL K 1 sp_law) := by
  refine fn_ok T.F_law sc_law (fun cdv A outer s H E hr =>
(gss_cons (gs_set (i := 1) sc_law.nd rfl (.inr rfl) (ge_call G__law_tape (hr.mono (by omega)) (by rfl) T.g__law_tape T.F__law_tape.kp T.b__law_tape (ga_cons (gv 0) ga_nil)))
 (gss_cons (gs_set (i := 2) sc_law.nd rfl (.inr rfl) (ge_op op_addL lr_addL ge_int (ge_op op_fdivW lr_int2 (ge_call G__law_pick (hr.mono (by omega)) (by rfl) T.g__law_pick T.F__law_pick.kp T.b__law_pick (ga_cons (gv 1) (ga_cons ge_int ga_nil))) ge_int)))
 (gss_cons (gs_set (i := 3) sc_law.nd rfl (.inl rfl) (ge_lst (ga_cons ge_str (ga_cons ge_str (ga_cons ge_str (ga_cons ge_str (ga_cons ge_str (ga_cons ge_str (ga_cons ge_str (ga_cons ge_str ga_nil))))))))))
 (gss_cons (gs_set (i := 4) sc_law.nd rfl (.inr rfl) (ge_ix (gv 3) (ge_call G__law_pick (hr.mono (by omega)) (by rfl) T.g__law_pick T.F__law_pick.kp T.b__law_pick (ga_cons (gv 1) (ga_cons ge_int ga_nil)))))
 (gss_cons (gs_set (i := 5) sc_law.nd rfl (.inr rfl) (ge_lst (ga_cons ge_str (ga_cons ge_str (ga_cons ge_str ga_nil)))))
 (gss_cons (gs_setLc (i := 6) (own := [("_law_place", 15)]) rfl sc_law.nd rfl rfl (sw_true rfl rfl rfl (by decide +kernel)) (gi_rng1 (by rfl) T.z_range (ga_cons (ge_op op_addL lr_addL ge_int (ge_call G__law_pick (hr.mono (by omega)) (by rfl) T.g__law_pick T.F__law_pick.kp T.b__law_pick (ga_cons (gv 1) (ga_cons ge_int ga_nil)))) ga_nil)) (blkOk_by (N := N_law) (sc := defScope s_law) (by decide +kernel)) (fun _ _ _ _ _ => (gg_name (i := 15) sc_law.nd rfl (.inl rfl))) (fun _ _ _ _ _ => gts_nil) (fun _ _ _ _ _ => (ge_call G__law_way (hr.mono (by omega)) (by rfl) T.g__law_way T.F__law_way.kp T.b__law_way (ga_cons (gv 1) (ga_cons (ge_ix (gv 5) (gv 15)) (ga_cons (gv 4) (ga_cons (ge_frz (gv 2)) ga_nil)))))) (by decide))
 (gss_cons (gs_set (i := 7) sc_law.nd rfl (.inl rfl) (ge_frzO (C := T.c_Book) (ge_makeX T.mk_Book G_Book___init__ (no_tk) (hr.mono (by omega)) (by rfl) T.gc_Book T.b_Book___init__ (ga_cons (ge_tup (ga_cons ge_str (ga_cons (gv 4) (ga_cons (gv 2) (ga_cons (ge_tup ga_nil) (ga_cons (ge_tup ga_nil) (ga_cons ge_str (ga_cons (ge_tup (ga_cons (ge_tup (ga_cons ge_str (ga_cons (ge_callTy call_tuple_of lc_tuple (by rfl) T.z_tuple (by decide +kernel) (ga_cons (gv 6) ga_nil)) ga_nil))) ga_nil)) (ga_cons (ge_tup ga_nil) (ga_cons (ge_tup ga_nil) ga_nil)))))))))) ga_nil))))
 (gss_cons (gs_set (i := 8) sc_law.nd rfl (.inl rfl) (ge_lst (ga_cons (ge_call G__law_scene (hr.mono (by omega)) (by rfl) T.g__law_scene T.F__law_scene.kp T.b__law_scene (ga_cons (gv 1) (ga_cons (gv 4) (ga_cons (ge_frz (gv 2)) ga_nil)))) (ga_cons (ge_call G__law_scene (hr.mono (by omega)) (by rfl) T.g__law_scene T.F__law_scene.kp T.b__law_scene (ga_cons (gv 1) (ga_cons (gv 4) (ga_cons (ge_frz (gv 2)) ga_nil)))) ga_nil))))
 (gss_cons (gs_set (i := 9) sc_law.nd rfl (.inl rfl) (ge_lst ga_nil))
 (gss_cons (gs_for PassesOwn.never rfl (gi_seq (gv 6)) (gg_name (i := 10) sc_law.nd rfl (.inr rfl))
 (gss_one (gs_for PassesOwn.never rfl (gi_seq (gv 8)) (gg_name (i := 11) sc_law.nd rfl (.inl rfl))
 (gss_cons (gs_set (i := 16) sc_law.nd rfl (.inl rfl) (ge_callTy call_tuple_of lc_tuple (by rfl) T.z_tuple (by decide +kernel) (ga_cons (ge_lc (own := [("_law_place", 15)]) rfl sc_law.nd (gi_seq (ge_ix (gv 11) ge_int)) (blkOk_by (N := N_law) (sc := defScope s_law) (by decide +kernel)) (fun _ _ _ _ _ => (gg_name (i := 15) sc_law.nd rfl (.inl rfl))) (fun _ _ _ _ _ => gts_nil) (fun _ _ _ _ _ => (ge_call G__law_parting (hr.mono (by omega)) (by rfl) T.g__law_parting T.F__law_parting.kp T.b__law_parting (ga_cons (gv 1) (ga_cons (ge_frz (ge_op op_sub lr_sub (ge_ix (gv 15) ge_int) (ge_ix (gv 15) ge_int))) (ga_cons (ge_callB call_lenU lc_len (by rfl) T.z_len PySem.boot_len (ga_cons (ge_ix (gv 10) ge_int) ga_nil)) ga_nil))))) (by decide)) ga_nil)))
 (gss_one (gs_expr (ge_bm PySem.F.slot_list_append PySem.F.type_list_append mt_append lm_append (gv 9) (ga_cons (ge_tup (ga_cons (gv 10) (ga_cons (ge_ix (gv 11) ge_int) (ga_cons (ge_ix (gv 11) ge_int) (ga_cons (gv 16) ga_nil))))) ga_nil))))))))
 (gss_cons (gs_for PassesOwn.never rfl (gi_seq (ge_lst (ga_cons (ge_ix (gv 8) ge_int) (ga_cons (ge_ix (gv 8) ge_int) (ga_cons (ge_ix (gv 8) ge_int) ga_nil))))) (gg_name (i := 11) sc_law.nd rfl (.inl rfl))
 (gss_one (gs_if (gt_not (gt_val (ge_call G__law_scene_right (hr.mono (by omega)) (by rfl) T.g__law_scene_right T.F__law_scene_right.kp T.b__law_scene_right (ga_cons (ge_ix (gv 11) ge_int) (ga_cons (ge_ix (gv 11) ge_int) ga_nil)))))
 (gss_one (gs_ret ge_bl))
 gss_nil)))
 (gss_cons (gs_for PassesOwn.never rfl (gi_seq (ge_op op_addL lr_addL (gv 9) (ge_rev (gv 9)))) (gg_name (i := 12) sc_law.nd rfl (.inl rfl))
 (gss_cons (gs_if (gt_not (gt_val (ge_call G__law_job_right (hr.mono (by omega)) (by rfl) T.g__law_job_right T.F__law_job_right.kp T.b__law_job_right (ga_cons (ge_ix (gv 12) ge_int) (ga_cons (ge_ix (gv 12) ge_int) (ga_cons (ge_ix (gv 12) ge_int) (ga_cons (ge_ix (gv 12) ge_int) ga_nil)))))))
 (gss_one (gs_ret ge_bl))
 gss_nil)
 (gss_cons (gs_set (i := 10) sc_law.nd rfl (.inr rfl) (ge_ix (gv 12) ge_int))
 (gss_cons (gs_set (i := 13) sc_law.nd rfl (.inl rfl) (ge_callTy call_tuple_of lc_tuple (by rfl) T.z_tuple (by decide +kernel) (ga_cons (ge_lc (own := [("_law_piece", 17)]) rfl sc_law.nd (gi_seq (ge_ix (gv 10) ge_int)) (blkOk_by (N := N_law) (sc := defScope s_law) (by decide +kernel)) (fun _ _ _ _ _ => (gg_name (i := 17) sc_law.nd rfl (.inl rfl))) (fun _ _ _ _ _ => gts_nil) (fun _ _ _ _ _ => (ge_ifE (gt_cmpR (op_eqS hr.units) lr_eq (ge_ix (gv 17) ge_int) ge_str (nomark _)) ge_str (ge_callTy call_tuple_of lc_tuple (by rfl) T.z_tuple (by decide +kernel) (ga_cons (ge_lc (own := [("_law_mark_here", 18)]) rfl sc_law.nd (gi_seq (ge_ix (gv 17) ge_int)) (blkOk_by (by rfl)) (fun _ _ _ _ _ => (gg_name (i := 18) sc_law.nd rfl (.inl rfl))) (fun _ _ _ _ _ => gts_nil) (fun _ _ _ _ _ => (ge_ix (gv 18) ge_int)) (by decide)) ga_nil)))) (by decide)) ga_nil)))
 (gss_cons (gs_if (gt_not (gt_val (ge_call G__law_same (hr.mono (by omega)) (by rfl) T.g__law_same T.F__law_same.kp T.b__law_same (ga_cons (ge_call G_plain_dress (hr.mono (by omega)) (by rfl) T.g_plain_dress T.F_plain_dress.kp T.b_plain_dress (ga_cons (gv 7) (ga_cons (gv 13) ga_nil))) (ga_cons (ge_call G__law_plain (hr.mono (by omega)) (by rfl) T.g__law_plain T.F__law_plain.kp T.b__law_plain (ga_cons (gv 10) (ga_cons (ge_ix (gv 4) ge_int) ga_nil))) ga_nil)))))
 (gss_one (gs_ret ge_bl))
 gss_nil)
 (gss_cons (gs_if (gt_not (gt_val (ge_call G__law_same (hr.mono (by omega)) (by rfl) T.g__law_same T.F__law_same.kp T.b__law_same (ga_cons (ge_callP G_plain_dress (hr.mono (by omega)) (by rfl) T.g_plain_dress T.F_plain_dress.kp T.kp_plain_dress_1_0 (gk_cons (gv 13) (gk_cons (gv 7) gk_nil))) (ga_cons (ge_call G__law_plain (hr.mono (by omega)) (by rfl) T.g__law_plain T.F__law_plain.kp T.b__law_plain (ga_cons (gv 10) (ga_cons (ge_ix (gv 4) ge_int) ga_nil))) ga_nil)))))
 (gss_one (gs_ret ge_bl))
 gss_nil)
 (gss_cons (gs_set (i := 14) sc_law.nd rfl (.inl rfl) (ge_callK G_dress_of (hr.mono (by omega)) (by rfl) T.g_dress_of T.F_dress_of.kp T.kw_dress_of (gk_cons (ge_ix (gv 12) ge_int) (gk_cons (gv 10) (gk_cons (ge_ix (gv 12) ge_int) (gk_cons (ge_ix (gv 12) ge_int) gk_nil))))))
 (gss_one (gs_if (gt_not (gt_val (ge_call G__law_same (hr.mono (by omega)) (by rfl) T.g__law_same T.F__law_same.kp T.b__law_same (ga_cons (gv 14) (ga_cons (ge_ix (ge_call G__law_due (hr.mono (by omega)) (by rfl) T.g__law_due T.F__law_due.kp T.b__law_due (ga_cons (gv 10) (ga_cons (ge_ix (gv 12) ge_int) (ga_cons (ge_ix (gv 12) ge_int) (ga_cons (ge_ix (gv 12) ge_int) ga_nil))))) ge_int) ga_nil)))))
 (gss_one (gs_ret ge_bl))
 gss_nil)))))))))
 (gss_one (gs_ret (ge_or (ge_cmpR (op_gtS hr.units) lr_gtP (ge_call G__law_pick (hr.mono (by omega)) (by rfl) T.g__law_pick T.F__law_pick.kp T.b__law_pick (ga_cons (gv 1) (ga_cons ge_int ga_nil))) ge_int (nomark _)) (ge_one (ge_call G__law_tall_right (hr.mono (by omega)) (by rfl) T.g__law_tall_right T.F__law_tall_right.kp T.b__law_tall_right (ga_cons (gv 1) (ga_cons (gv 4) (ga_cons (ge_frz (gv 2)) ga_nil))))))))))))))))))))) (fun ds m Q h => ?_)
  obtain ⟨ns, rfl, hl, h⟩ := h
  rw [show startD N_law [.rol (ns.map .int)] = [some (.rol (ns.map .int)), none, none, none, none, none, none, none, none, none, none, none, none, none, none, none, none, none, none] from rfl]
  refine seq_cut (fun s' m' => ∃ a g : Addr, s' = [some (.rol (ns.map .int)), some (.ref a), none, none, none, none, none, none, none, none, none, none, none, none, none, none, none, none, none] ∧ Tp m' a g) (fun R hR => ?_) ?_
  · walk_at "pd"
    exact ⟨ns, rfl, hl, fun a g m' _ _ _ hT => hR _ _ ⟨_, _, rfl, hT⟩⟩
  rintro s' m1 ⟨a, g, rfl, hT⟩
  refine seq_cut (fun s' m' => ∃ n : Nat, (n = 1 ∨ n = 2) ∧ s' = [some (.rol (ns.map .int)), some (.ref a), some (.int (n : Int)), none, none, none, none, none, none, none, none, none, none, none, none, none, none, none, none] ∧ Tp m' a g) (fun R hR => ?_) ?_
  · walk_at "pd"
    refine ⟨a, g, 3, rfl, by omega, by omega, hT, fun r m2 r0 r1 O2 T2 => ?_⟩
    walk_at "pd"
    have hr : r = 0 ∨ r = 1 ∨ r = 2 := by omega
    refine ⟨cdw (by decide) (by decide), ?_⟩
    rcases hr with rfl | rfl | rfl
    · exact hR _ _ ⟨1, .inl rfl, rfl, T2⟩
    · exact hR _ _ ⟨1, .inl rfl, rfl, T2⟩
    · exact hR _ _ ⟨2, .inr rfl, rfl, T2⟩
  rintro s' m2 ⟨n, hn, rfl, hT2⟩
  refine seq_cut (fun s' m' => ∃ pm : Addr, s' = [some (.rol (ns.map .int)), some (.ref a), some (.int (n : Int)), some (.ref pm), none, none, none, none, none, none, none, none, none, none, none, none, none, none, none] ∧ pm ≠ a ∧ m' pm = some (.lst [.str "ab", .str "ba", .str "cab", .str "dbac", .str "ba", .str "cab", .str "ab", .str "q"]) ∧ Tp m' a g) (fun R hR => ?_) ?_
  · walk_at "pd"
    exact fun p hp => hR _ _ ⟨p, rfl, (hT2.ne hp).1, mset_same, hT2.new hp⟩
  rintro s' m3 ⟨pm, rfl, pma, epm, hT3⟩
  refine seq_cut (fun s' m' => ∃ S : List Nat, s' = [some (.rol (ns.map .int)), some (.ref a), some (.int (n : Int)), some (.ref pm), some (.str (tx S)), none, none, none, none, none, none, none, none, none, none, none, none, none, none] ∧ S4 S ∧ Tp m' a g) (fun R hR => ?_) ?_
  · walk_at "pd"
    refine ⟨a, g, 8, rfl, by omega, by omega, hT3, fun r m4 r0 r1 O4 T4 => ?_⟩
    have ep := O4 _ _ pma epm
    have hr : r = 0 ∨ r = 1 ∨ r = 2 ∨ r = 3 ∨ r = 4 ∨ r = 5 ∨ r = 6 ∨ r = 7 := by omega
    rcases hr with rfl | rfl | rfl | rfl | rfl | rfl | rfl | rfl
    · refine dIx_seq (seqOf_ref ep) (atI_nat (j := 0) rfl) ?_
      exact hR _ _ ⟨[97, 98], rfl, .inl rfl, T4⟩
    · refine dIx_seq (seqOf_ref ep) (atI_nat (j := 1) rfl) ?_
      exact hR _ _ ⟨[98, 97], rfl, .inr (.inl rfl), T4⟩
    · refine dIx_seq (seqOf_ref ep) (atI_nat (j := 2) rfl) ?_
      exact hR _ _ ⟨[99, 97, 98], rfl, .inr (.inr (.inl rfl)), T4⟩
    · refine dIx_seq (seqOf_ref ep) (atI_nat (j := 3) rfl) ?_
      exact hR _ _ ⟨[100, 98, 97, 99], rfl, .inr (.inr (.inr (.inl rfl))), T4⟩
    · refine dIx_seq (seqOf_ref ep) (atI_nat (j := 4) rfl) ?_
      exact hR _ _ ⟨[98, 97], rfl, .inr (.inl rfl), T4⟩
    · refine dIx_seq (seqOf_ref ep) (atI_nat (j := 5) rfl) ?_
      exact hR _ _ ⟨[99, 97, 98], rfl, .inr (.inr (.inl rfl)), T4⟩
    · refine dIx_seq (seqOf_ref ep) (atI_nat (j := 6) rfl) ?_
      exact hR _ _ ⟨[97, 98], rfl, .inl rfl, T4⟩
    · refine dIx_seq (seqOf_ref ep) (atI_nat (j := 7) rfl) ?_
      exact hR _ _ ⟨[113], rfl, .inr (.inr (.inr (.inr rfl))), T4⟩
  rintro s' m4 ⟨S, rfl, hS, hT4⟩
  clear hT hT2 hT3 epm
  have hS4 := hS.len
  refine seq_cut (fun s' m' => ∃ q : Addr, s' = [some (.rol (ns.map .int)), some (.ref a), some (.int (n : Int)), some (.ref pm), some (.str (tx S)), some (.ref q), none, none, none, none, none, none, none, none, none, none, none, none, none] ∧ q ≠ a ∧ m' q = some (.lst [.str "f", .str "glue", .str "m2"]) ∧ Tp m' a g) (fun R hR => ?_) ?_
  · walk_at "pd"
    exact fun p hp => hR _ _ ⟨p, rfl, (hT4.ne hp).1, mset_same, hT4.new hp⟩
  rintro s' m7 ⟨q, rfl, qa, eq7, hT7⟩
  refine seq_cut (fun s' m' => ∃ (ys : List Way) (pr : Addr), s' = [some (.rol (ns.map .int)), some (.ref a), some (.int (n : Int)), some (.ref pm), some (.str (tx S)), some (.ref q), some (.ref pr), none, none, none, none, none, none, none, none, none, none, none, none] ∧ ys.length ≤ 3 ∧ ys.map (·.mr) = (["f", "glue", "m2"] : List Str).take ys.length ∧ (∀ y ∈ ys, WayO S n y) ∧ pr ≠ a ∧ m' pr = some (.lst (ys.map Way.d)) ∧ Tp m' a g) (fun R hR => ?_) ?_
  · walk_at "pd"
    refine ⟨a, g, 3, rfl, by omega, by omega, hT7, fun r m8 r0 r1 O8 T8 => ?_⟩
    obtain ⟨k, rfl⟩ := Int.eq_ofNat_of_zero_le r0
    have hk : k < 3 := by omega
    walk_at "pd"
    refine ⟨by omega, by omega, fun p hp => ?_⟩
    have np := T8.ne hp
    have eq8 := O8 _ _ qa eq7
    have qp : q ≠ p := fun z => by rw [← z, eq8] at hp; cases hp
    rw [show (1 + (k : Int)).toNat = k + 1 by omega, show rangeD 0 (k + 1) = (List.range (k + 1)).map fun (i : Nat) => D.int (i : Int) from by unfold rangeD; simp]
    refine comp_sp (fun pre acc m' => ∃ ys : List Way, acc = ys.map Way.d ∧ ys.map (·.mr) = (["f", "glue", "m2"] : List Str).take ys.length ∧ (∀ y ∈ ys, WayO S n y) ∧ m' q = some (.lst [.str "f", .str "glue", .str "m2"]) ∧ Tp m' a g) (fun (i : Nat) => D.int (i : Int)) (fun _ => trivial) (by rw [List.length_range]; omega) ?_ ?_ ⟨[], rfl, rfl, fun _ h => (List.not_mem_nil h).elim, mset_new hp eq8, T8.new hp⟩
    · rintro pre u post eu acc m9 R9 ⟨ys, rfl, e1, e2, eq9, T9⟩ hal ep hR9
      rw [List.length_map] at hal
      have hu : u = ys.length ∧ ys.length < 3 := by
        have e : (List.range (k + 1))[pre.length]? = some u := by rw [eu, List.getElem?_append_right (Nat.le_refl _), Nat.sub_self]; rfl
        have hlt := (List.getElem?_eq_some_iff.mp e).1
        rw [List.length_range] at hlt
        rw [List.getElem?_range hlt] at e
        injection e with e
        omega
      obtain ⟨hu, hu3⟩ := hu
      subst hu
      have emk : (["f", "glue", "m2"] : List Str)[ys.length]? = some ((["f", "glue", "m2"] : List Str)[ys.length]'(by simpa using hu3)) := List.getElem?_eq_getElem _
      generalize (["f", "glue", "m2"] : List Str)[ys.length]'(by simpa using hu3) = mk at emk
      walk_at "pd"
      refine ⟨_, seqOf_ref eq9, _, atI_map (f := D.str) emk, ?_⟩
      refine ⟨a, g, mk, S, n, rfl, hS, hn, T9, fun y m10 hw hm O10 T10 => ?_⟩
      refine hR9 _ _ ⟨ys ++ [y], by rw [List.map_append]; rfl, ?_, fun z hz => ?_, ?_, T10.setp np.1 np.2⟩ (O10 _ _ np.1 ep)
      · rw [List.map_append, e1, List.length_append, List.length_singleton, take_succ' emk, List.map_singleton, hm]
      · rcases List.mem_append.mp hz with h | h
        · exact e2 z h
        · rw [List.mem_singleton.mp h]; exact hw
      · rw [mset_ne qp]; exact O10 _ _ qa eq9
    · rintro acc m9 ⟨ys, rfl, e1, e2, eq9, T9⟩ hal ep
      rw [List.length_map, List.length_range] at hal
      exact hR _ _ ⟨ys, p, rfl, by omega, e1, e2, np.1, ep, T9⟩
  rintro s' m8 ⟨ys, pr, rfl, hy3, hmk, hyo, pra, epr8, hT8⟩
  have g1 : Good0 (progOf S n ys) := good_mk (by omega) hn hy3 hmk hyo
  refine seq_cut (fun s' m' => s' = [some (.rol (ns.map .int)), some (.ref a), some (.int (n : Int)), some (.ref pm), some (.str (tx S)), some (.ref q), some (.ref pr), some (book0 T.c_Book (progOf S n ys)), none, none, none, none, none, none, none, none, none, none, none] ∧ m' pr = some (.lst (ys.map Way.d)) ∧ Tp m' a g) (fun R hR => ?_) ?_
  · walk_at "pd"
    refine ⟨_, seqOf_ref epr8, fun x hx => ?_⟩
    have nx := hT8.ne hx
    have prx : pr ≠ x := fun z => by rw [← z, epr8] at hx; cases hx
    refine ⟨progOf S n ys, x, rfl, mset_same, g1, rfl, x, _, rfl, mset_same, ?_⟩
    exact hR _ _ ⟨rfl, by rw [mdel_ne prx, mset_ne prx, mset_ne prx]; exact epr8, ((hT8.setp nx.1 nx.2).setp nx.1 nx.2).del nx.1 nx.2⟩
  clear epr8 hT8 hT7 eq7
  rintro s' m9 ⟨rfl, epr9, hT9⟩
  refine seq_cut (fun s' m' => ∃ (x1 x2 : Sc) (ps : Addr), s' = [some (.rol (ns.map .int)), some (.ref a), some (.int (n : Int)), some (.ref pm), some (.str (tx S)), some (.ref q), some (.ref pr), some (book0 T.c_Book (progOf S n ys)), some (.ref ps), none, none, none, none, none, none, none, none, none, none] ∧ ScO S n x1 ∧ ScO S n x2 ∧ ps ≠ a ∧ m' pr = some (.lst (ys.map Way.d)) ∧ m' ps = some (.lst [scD x1, scD x2]) ∧ Tp m' a g) (fun R hR => ?_) ?_
  · walk_at "pd"
    refine ⟨a, g, S, n, rfl, hS, hn, hT9, fun R1 st1 m10 a1 a2 a3 a4 O10 T10 => ?_⟩
    walk_at "w"
    refine ⟨a, g, S, n, rfl, hS, hn, T10, fun R2 st2 m11 b1 b2 b3 b4 O11 T11 => ?_⟩
    walk_at "w"
    intro ps hps
    have nps := T11.ne hps
    exact hR _ _ ⟨(R1, st1), (R2, st2), ps, rfl, ⟨a1, a2, a3, a4⟩, ⟨b1, b2, b3, b4⟩, nps.1, mset_new hps (O11 _ _ pra (O10 _ _ pra epr9)), mset_same, T11.new hps⟩
  clear epr9 hT9
  rintro s' m0 ⟨x1, x2, ps, rfl, hx1, hx2, psa, epr, eps, hT0⟩
  refine seq_cut (fun s' m' => ∃ pj : Addr, s' = [some (.rol (ns.map .int)), some (.ref a), some (.int (n : Int)), some (.ref pm), some (.str (tx S)), some (.ref q), some (.ref pr), some (book0 T.c_Book (progOf S n ys)), some (.ref ps), some (.ref pj), none, none, none, none, none, none, none, none, none] ∧ pj ≠ a ∧ pj ≠ g ∧ m0 pj = none ∧ Off1 a m0 m' ∧ m' pj = some (.lst []) ∧ Tp m' a g) (fun R hR => ?_) ?_
  · walk_at "pd"
    exact fun p hp => hR _ _ ⟨p, rfl, (hT0.ne hp).1, (hT0.ne hp).2, hp, (Off1.refl _ _).new hp, mset_same, hT0.new hp⟩
  rintro s' m10 ⟨pj, rfl, pja, pjg, hpj0, O10, epj, hT10⟩
  refine seq_cut (fun s' m' => ∃ (c10 c11 c16 : Option D) (js : List Jb), s' = [some (.rol (ns.map .int)), some (.ref a), some (.int (n : Int)), some (.ref pm), some (.str (tx S)), some (.ref q), some (.ref pr), some (book0 T.c_Book (progOf S n ys)), some (.ref ps), some (.ref pj), c10, c11, none, none, none, none, c16, none, none] ∧ m' pj = some (.lst (js.map jobD)) ∧ (∀ j ∈ js, JbO S n j) ∧ js.length ≤ 6 ∧ Off1 a m0 m' ∧ Tp m' a g) (fun R hR => ?_) ?_
  · walk_at "pd"
    refine ⟨_, seqOf_ref (O10 _ _ pra epr), ?_⟩
    refine loop_pre (us := ys) (fun pre s' m' => ∃ (c10 c11 c16 : Option D) (js : List Jb), s' = [some (.rol (ns.map .int)), some (.ref a), some (.int (n : Int)), some (.ref pm), some (.str (tx S)), some (.ref q), some (.ref pr), some (book0 T.c_Book (progOf S n ys)), some (.ref ps), some (.ref pj), c10, c11, none, none, none, none, c16, none, none] ∧ m' pj = some (.lst (js.map jobD)) ∧ (∀ j ∈ js, JbO S n j) ∧ js.length ≤ 2 * pre.length ∧ Off1 a m0 m' ∧ Tp m' a g) Way.d (fun pre s m ⟨_, _, _, _, _, _, _, _, O, _⟩ => seqOf_ref (O _ _ pra epr)) ?_ ?_ ⟨_, _, _, [], rfl, epj, fun _ h => (List.not_mem_nil h).elim, Nat.zero_le _, O10, hT10⟩
    · rintro pre y post ey s' m11 R1 ⟨c10, c11, c16, js, rfl, epj1, hjs, hjl, O11, T11⟩ hR1
      have hy : WayO S n y := hyo y (by rw [ey]; simp)
      have hy5 := hy.p5
      have hy0 := hy.p0
      have hyl : pre.length < ys.length := by rw [ey]; simp
      walk_at "pd"
      refine ⟨_, seqOf_ref (O11 _ _ psa eps), ?_⟩
      refine loop_pre (us := [x1, x2]) (fun pre2 s' m' => ∃ (c11 c16 : Option D) (js : List Jb), s' = [some (.rol (ns.map .int)), some (.ref a), some (.int (n : Int)), some (.ref pm), some (.str (tx S)), some (.ref q), some (.ref pr), some (book0 T.c_Book (progOf S n ys)), some (.ref ps), some (.ref pj), some y.d, c11, none, none, none, none, c16, none, none] ∧ m' pj = some (.lst (js.map jobD)) ∧ (∀ j ∈ js, JbO S n j) ∧ js.length ≤ 2 * pre.length + pre2.length ∧ Off1 a m0 m' ∧ Tp m' a g) scD (fun pre s m ⟨_, _, _, _, _, _, _, O, _⟩ => seqOf_ref (O _ _ psa eps)) ?_ ?_ ⟨_, _, js, rfl, epj1, hjs, by simpa using hjl, O11, T11⟩
      · rintro pre2 x post2 ex s' m12 R2 ⟨c11, c16, js, rfl, epj2, hjs, hjl, O12, T12⟩ hR2
        have hx : ScO S n x := by
          have : x ∈ [x1, x2] := by rw [ex]; simp
          simp only [List.mem_cons, List.not_mem_nil, or_false] at this
          rcases this with rfl | rfl
          · exact hx1
          · exact hx2
        have hp2 : pre2.length < 2 := by have := congrArg List.length ex; simp at this; omega
        have hxl := hx.h2
        rw [show scD x = .tup [rowsD x.1, .tup ((x.2.map cI).map pairI)] from rfl, show y.d = .tup [.str y.mr, .tup (y.ps.map Piece.d), .tup (y.ts.map Test.d)] from rfl, List.map_map]
        walk_at "pd"
        intro u hu
        have nu := T12.ne hu
        have hu0 := O12.free nu.1 hu
        have pju : pj ≠ u := fun z => by rw [← z, epj2] at hu; cases hu
        refine comp_sp (fun prc acc m' => ∃ cs : List (List Nat), acc = cs.map (fun c => D.tup (c.map fun (w : Nat) => .int (w : Int))) ∧ cs.length = prc.length ∧ (∀ c ∈ cs, c.length = y.ps.length) ∧ (∀ z ∈ prc.zip cs, z.2.sum = z.1.2 - z.1.1) ∧ m' pj = some (.lst (js.map jobD)) ∧ Off1 a m0 m' ∧ Tp m' a g) (pairI ∘ cI) (fun _ => trivial) (by omega) ?_ ?_ ⟨[], rfl, rfl, fun _ h => (List.not_mem_nil h).elim, fun _ h => (List.not_mem_nil h).elim, mset_new hu epj2, O12.new hu, T12.new hu⟩
        · rintro prc pp postc ec acc m13 R3 ⟨cs, rfl, e1, e2, e3, epj3, O13, T13⟩ hal eu3 hR3
          obtain ⟨hp1, hp2⟩ := hx.pr pp (by rw [ec]; simp)
          rw [Function.comp_apply]
          unfold pairI cI
          walk_at "pd"
          refine ⟨a, g, pp.2 - pp.1, y.ps.length, by rw [List.length_map, show ((pp.2 : Int) - (pp.1 : Int)) = ((pp.2 - pp.1 : Nat) : Int) by omega], by omega, hy0, hy5, T13, fun ws m14 w1 w2 O14 T14 => ?_⟩
          refine hR3 _ _ ⟨cs ++ [ws], by rw [List.map_append]; rfl, by rw [List.length_append, List.length_append, e1]; rfl, fun z hz => ?_, fun z hz => ?_, ?_, (O13.trans O14).set' hu0, T14.setp nu.1 nu.2⟩ (O14 _ _ nu.1 eu3)
          · rcases List.mem_append.mp hz with h | h
            · exact e2 z h
            · rw [List.mem_singleton.mp h]; exact w1
          · rw [zip_app e1.symm] at hz
            rcases List.mem_append.mp hz with h | h
            · exact e3 z h
            · have h : z ∈ [(pp, ws)] := h
              rw [List.mem_singleton.mp h]; exact w2
          · rw [mset_ne pju]; exact O14 _ _ pja epj3
        · rintro acc m13 ⟨cs, rfl, e1, e2, e3, epj3, O13, T13⟩ hal eu3
          walk_at "w"
          have hj : JbO S n (y, x.1, x.2, cs) := ⟨⟨hn, hx.h1, hx.h2, e1.trans hx.h2, hy5, e2, fun l hl => (hx.h3 l hl).1, hx.h4, e3⟩, hy⟩
          refine ⟨_, seqOf_ref eu3, ⟨_, _, lstOf_ref epj3⟩, pj, _, lstOf_ref epj3, by rw [List.length_map]; exact Nat.lt_of_le_of_lt (by omega : _ ≤ 10) (by decide), ?_⟩
          refine hR2 _ _ ⟨_, _, js ++ [(y, x.1, x.2, cs)], rfl, ?_, fun j hjm => ?_, by rw [List.length_append, List.length_append, List.length_singleton, List.length_singleton]; omega, O13.set' hpj0, T13.setp pja pjg⟩
          · rw [mset_same, List.map_append]
            unfold jobD cutsD stD
            rw [List.map_singleton, List.map_map]
            rfl
          · rcases List.mem_append.mp hjm with h | h
            · exact hjs j h
            · rw [List.mem_singleton.mp h]; exact hj
      · rintro s' m12 ⟨c11, c16, js, rfl, epj2, hjs, hjl, O12, T12⟩
        exact hR1 _ _ ⟨_, _, _, js, rfl, epj2, hjs, by rw [List.length_append, List.length_singleton]; simp at hjl; omega, O12, T12⟩
    · rintro s' m11 ⟨c10, c11, c16, js, rfl, epj1, hjs, hjl, O11, T11⟩
      exact hR _ _ ⟨_, _, _, js, rfl, epj1, hjs, by omega, O11, T11⟩
  clear O10 epj hT10
  rintro s' m11 ⟨c10, c11, c16, js, rfl, epj, hjs, hjl, O11, T11⟩
  refine seq_cut (fun s' m' => ∃ (c10 c11 c16 : Option D), s' = [some (.rol (ns.map .int)), some (.ref a), some (.int (n : Int)), some (.ref pm), some (.str (tx S)), some (.ref q), some (.ref pr), some (book0 T.c_Book (progOf S n ys)), some (.ref ps), some (.ref pj), c10, c11, none, none, none, none, c16, none, none] ∧ m' pj = some (.lst (js.map jobD)) ∧ Tp m' a g) (fun R hR => ?_) ?_
  · walk_at "pd"
    have ez := seqOf_ref (O11 _ _ psa eps)
    refine ⟨_, ez, _, atI_nat (j := 0) rfl, _, ez, _, atI_nat (j := 1) rfl, _, ez, _, atI_nat (j := 0) rfl, fun u hu => ?_⟩
    refine ⟨_, seqOf_ref mset_same, ?_⟩
    refine loop_pre (us := [x1, x2, x1]) (fun pre s' m' => ∃ c11 : Option D, s' = [some (.rol (ns.map .int)), some (.ref a), some (.int (n : Int)), some (.ref pm), some (.str (tx S)), some (.ref q), some (.ref pr), some (book0 T.c_Book (progOf S n ys)), some (.ref ps), some (.ref pj), c10, c11, none, none, none, none, c16, none, none] ∧ m' = mset m11 u (.lst [scD x1, scD x2, scD x1])) scD (fun pre s m ⟨_, _, e⟩ => by rw [e]; exact seqOf_ref mset_same) ?_ ?_ ⟨_, rfl, rfl⟩
    · rintro pre x post ex s' m12 R2 ⟨c11, rfl, rfl⟩ hR2
      have hx : ScO S n x := by
        have : x ∈ [x1, x2, x1] := by rw [ex]; simp
        simp only [List.mem_cons, List.not_mem_nil, or_false] at this
        rcases this with rfl | rfl | rfl
        · exact hx1
        · exact hx2
        · exact hx1
      have hxl := hx.h1
      unfold scD
      walk_at "pd"
      refine ⟨x.1, x.2, rfl, by omega, by rw [hx.h1, hx.h2], fun l hl => (hx.h3 l hl).1, hx.h4, ?_⟩
      walk_at "w"
      exact hR2 _ _ ⟨_, rfl, rfl⟩
    · rintro s' m12 ⟨c11, rfl, rfl⟩
      exact hR _ _ ⟨_, _, _, rfl, mset_new hu epj, T11.new hu⟩
  clear T11 O11 epj
  rintro s' m12 ⟨c10, c11, c16, rfl, epj, T12⟩
  obtain ⟨c, sg, hcs⟩ : ∃ c sg, S = c :: sg := by
    cases S with
    | nil => simp at hS4
    | cons c sg => exact ⟨c, sg, rfl⟩
  have hsgl : sg.length ≤ 10 := by rw [hcs] at hS4; simp at hS4; omega
  have hsz : S.length ≤ sizeLine := Nat.le_trans hS4.2 (by decide)
  have hc0 : atI S 0 = some c := by rw [hcs]; exact atI_0
  refine seq_cut (fun s' m' => ∃ (c10 c12 c13 c14 : Option D), s' = [some (.rol (ns.map .int)), some (.ref a), some (.int (n : Int)), some (.ref pm), some (.str (tx S)), some (.ref q), some (.ref pr), some (book0 T.c_Book (progOf S n ys)), some (.ref ps), some (.ref pj), c10, c11, c12, c13, c14, none, c16, none, none] ∧ Tp m' a g) (fun R hR => ?_) ?_
  · walk_at "pd"
    refine ⟨_, seqOf_ref epj, fun u hu => ?_⟩
    have pju : pj ≠ u := fun z => by rw [← z, epj] at hu; cases hu
    rw [← List.map_reverse]
    refine ⟨_, _, lsq_ref (mset_new hu epj), lsq_ref mset_same, ?_⟩
    rw [← List.map_append, List.length_map, List.length_map, List.length_reverse]
    refine ⟨Nat.le_trans (by omega : _ ≤ 12) (by decide), fun v hv => ?_⟩
    refine ⟨_, seqOf_ref mset_same, ?_⟩
    have Tv := (T12.new (o := .lst ((js.reverse).map jobD)) hu).new (o := .lst ((js ++ js.reverse).map jobD)) hv
    refine loop_pre (us := js ++ js.reverse) (fun pre s' m' => ∃ (c10 c12 c13 c14 : Option D), s' = [some (.rol (ns.map .int)), some (.ref a), some (.int (n : Int)), some (.ref pm), some (.str (tx S)), some (.ref q), some (.ref pr), some (book0 T.c_Book (progOf S n ys)), some (.ref ps), some (.ref pj), c10, c11, c12, c13, c14, none, c16, none, none] ∧ m' v = some (.lst ((js ++ js.reverse).map jobD)) ∧ Tp m' a g) jobD (fun pre s m ⟨_, _, _, _, _, e, _⟩ => seqOf_ref e) ?_ ?_ ⟨_, _, _, _, rfl, mset_same, Tv⟩
    · rintro pre j post ej s' m13 R2 ⟨c10, c12, c13, c14, rfl, ev, T13⟩ hR2
      have hj : JbO S n j := hjs j (by
        have : j ∈ js ++ js.reverse := by rw [ej]; simp
        rcases List.mem_append.mp this with h | h
        · exact h
        · exact List.mem_reverse.mp h)
      obtain ⟨y, R, st, cs⟩ := j
      obtain ⟨J, hy⟩ := hj
      have J : JobO n y R st cs := J
      have hy : WayO S n y := hy
      rw [show jobD (y, R, st, cs) = .tup [y.d, rowsD R, stD (st.map cI), cutsD cs] from rfl]
      walk_at "pd"
      refine ⟨n, y, R, st, cs, rfl, J, ?_⟩
      walk_at "w"
      refine dIx_seq (es := [.str y.mr, .tup (y.ps.map Piece.d), .tup (y.ts.map Test.d)]) rfl atI_1 ?_
      walk_at "w"
      intro e he
      have ne := T13.ne he
      have ve : v ≠ e := fun z => by rw [← z, ev] at he; cases he
      have hms : ∀ ms, Piece.plain ms ∈ y.ps → ms.length ≤ 2 := fun ms hm => by
        have := (hy.pc _ hm).1
        omega
      have hy5 := hy.p5
      have hkl : ∀ ws, some ws ∈ y.k → ws.length ≤ 10 := fun ws hw => by
        obtain ⟨qq, hq1, hq2⟩ := List.mem_map.mp hw
        cases qq with
        | lot nm => cases hq2
        | plain ms =>
          injection hq2 with hq2
          rw [← hq2, List.length_map]
          have := hms ms hq1
          omega
      have hkn : y.k.length ≤ 5 := by unfold Way.k; rw [List.length_map]; exact hy5
      refine comp_sp (fun prc acc m' => acc = prc.map (fun z : Piece => kindD z.k) ∧ m' v = some (.lst ((js ++ js.reverse).map jobD)) ∧ Tp m' a g) Piece.d (fun _ => trivial) (by omega) ?_ ?_ ⟨rfl, mset_new he ev, T13.new he⟩
      · rintro prc z postc ec acc m14 R3 ⟨rfl, ev14, T14⟩ hal ee hR3
        cases z with
        | lot nm =>
          unfold Piece.d
          walk_at "pd"
          exact hR3 _ _ ⟨by rw [List.map_append]; rfl, by rw [mset_ne ve]; exact ev14, T14.setp ne.1 ne.2⟩ ee
        | plain ms =>
          have hm2 := hms ms (by rw [ec]; simp)
          unfold Piece.d
          walk_at "pd"
          intro f hf
          have nf := T14.ne hf
          refine comp_all (st := fun _ => True) (us := ms) Mark.d (fun k => .str k.w.s) (fun _ => trivial) (by omega) (fun k hk acc R4 k4 => ?_) ?_
          · cases k with
            | sign l => rw [show (Mark.sign l).d = .tup [.str "sign", .str (tx l)] from rfl]; walk_at "w"; exact k4
            | none => rw [show Mark.none.d = .tup [.str "none"] from rfl]; walk_at "w"; exact k4
            | run lo hi => rw [show (Mark.run lo hi).d = .tup [.str "run", .int lo, oi hi] from rfl]; walk_at "w"; exact k4
          · refine ⟨_, seqOf_ref mset_same, hR3 _ _ ⟨?_, ?_, (T14.new hf).setp ne.1 ne.2⟩ (mset_new hf ee)⟩
            · rw [List.map_append, List.map_singleton, show kindD (Piece.plain ms).k = .tup ((ms.map Mark.w).map fun w => .str w.s) from rfl, List.map_map]; rfl
            · rw [mset_ne ve]; exact mset_new hf ev14
      · rintro acc m14 ⟨rfl, ev14, T14⟩ hal ee
        have ek : D.tup (y.ps.map fun z : Piece => kindD z.k) = kindsD y.k := by unfold kindsD Way.k; rw [List.map_map]; rfl
        refine ⟨_, seqOf_ref ee, ?_⟩
        rw [ek]
        refine ⟨progOf S n ys, dicOf [], dicOf [], dicTOf [], dicOf [], c, sg, y.k, rfl, hcs, hsgl, by omega, hkl, ?_⟩
        refine ⟨hsz, c, hc0, ?_⟩
        refine ⟨y, c, rfl, by omega, fun ms hm => by have := hms ms hm; omega, ?_⟩
        have spl := sam_pl (c := c) (ks := y.k) (by omega) fun ws hw => by have := hkl ws hw; omega
        refine same_at rfl spl ?_
        walk_at "w"
        refine ⟨progOf S n ys, dicOf [], dicOf [], dicTOf [], dicOf [], c, sg, y.k, rfl, hcs, hsgl, by omega, hkl, ?_⟩
        refine ⟨hsz, c, hc0, ?_⟩
        refine ⟨y, c, rfl, by omega, fun ms hm => by have := hms ms hm; omega, ?_⟩
        refine same_at rfl spl ?_
        walk_at "w"
        refine job_dress J ?_
        refine job_due J ?_
        walk_at "w"
        refine same_at rfl (job_sam J) ?_
        walk_at "w"
        exact hR2 _ _ ⟨_, _, _, _, rfl, ev14, T14⟩
    · rintro s' m13 ⟨c10, c12, c13, c14, rfl, ev, T13⟩
      exact hR _ _ ⟨_, _, _, _, rfl, T13⟩
  rintro s' m13 ⟨c10, c12, c13, c14, rfl, T13⟩
  walk_at "pd"
  refine ⟨a, g, 4, rfl, by omega, by omega, T13, fun r m14 r0 r1 O14 T14 => ?_⟩
  walk_at "w"
  by_cases hr : 0 < r
  · rw [if_pos hr]
    exact sub_refl_fin (h _)
  · rw [if_neg hr]
    exact ⟨a, g, S, n, rfl, hS, hn, T14, fun m' => sub_refl_fin (h m')⟩
end
section
variable {P : Program} {w : World} {K : PySem.W.Frag} {mg : Str → Option Value} {base : Heap}
theorem law_all (T : Txt K mg) : FnOk P w K mg base CX0 92 T.f_law T.fd_law ["_law_script"] (spL K 1 sp_law) := by
  have G__law_same : FnOk P w K mg base CX0 (90) T.f__law_same T.fd__law_same ["_law_told", "_law_due_here"] (spL K 2 (sp__law_same 250)) := same_all T
  have G__pairs_along : FnOk P w K mg base CX0 (1) T.f__pairs_along T.fd__pairs_along ["start", "widths"] (spL K 2 sp__pairs_along) := ok__pairs_along T
  have G_piece_stretches : FnOk P w K mg base CX0 (2) T.f_piece_stretches T.fd_piece_stretches ["stretch", "cut"] (spL K 2 sp_piece_stretches) := ok_piece_stretches T G__pairs_along
  have G_parts_due : FnOk P w K mg base CX0 (3) T.f_parts_due T.fd_parts_due ["way", "stretch", "cut"] (spL K 3 sp_parts_due) := ok_parts_due T G_piece_stretches
  have G_Book_ways : FnOk P w K mg base CX0 (1) T.f_Book_ways T.fd_Book_ways ["self", "lot"] (spL K 2 (sp_Book_ways T.c_Book)) := ok_Book_ways T
  have G_part_places : FnOk P w K mg base CX0 (1) T.f_part_places T.fd_part_places ["kinds"] (spL K 1 sp_part_places) := ok_part_places T
  have G__kind_of : FnOk P w K mg base CX0 (1) T.f__kind_of T.fd__kind_of ["piece"] (spL K 1 sp__kind_of) := ok__kind_of T
  have G_kinds_of : FnOk P w K mg base CX0 (2) T.f_kinds_of T.fd_kinds_of ["way"] (spL K 1 sp_kinds_of) := ok_kinds_of T G__kind_of
  have G_Book_in_pairs : FnOk P w K mg base CX0 (1) T.f_Book_in_pairs T.fd_Book_in_pairs ["self", "name", "word"] (spL K 3 (sp_Book_in_pairs T.c_Book)) := ok_Book_in_pairs T
  have G_text_at : FnOk P w K mg base CX0 (1) T.f_text_at T.fd_text_at ["dress", "ref"] (spL K 2 sp_text_at) := ok_text_at T
  have G_tests_hold : FnOk P w K mg base CX0 (2) T.f_tests_hold T.fd_tests_hold ["book", "way", "dress"] (spL K 3 (sp_tests_hold T.c_Book)) := ok_tests_hold T G_Book_in_pairs G_text_at
  have G_letters_of : FnOk P w K mg base CX0 (1) T.f_letters_of T.fd_letters_of ["book", "mark"] (spL K 2 (sp_letters_of T.c_Book)) := ok_letters_of T
  have G_fits_dresses : FnOk P w K mg base CX0 (2) T.f_fits_dresses T.fd_fits_dresses ["book", "mark", "text"] (spL K 3 (sp_fits_dresses T.c_Book)) := ok_fits_dresses T G_letters_of
  have G_letters_hold : FnOk P w K mg base CX0 (3) T.f_letters_hold T.fd_letters_hold ["book", "way", "dress"] (spL K 3 (sp_letters_hold T.c_Book)) := ok_letters_hold T G_fits_dresses
  have G_texts_in : FnOk P w K mg base CX0 (1) T.f_texts_in T.fd_texts_in ["rows", "stretch"] (spL K 2 sp_texts_in) := ok_texts_in T
  have G__texts_of : FnOk P w K mg base CX0 (2) T.f__texts_of T.fd__texts_of ["rows", "piece", "place"] (spL K 3 sp__texts_of) := ok__texts_of T G_texts_in
  have G_dress_of : FnOk P w K mg base CX0 (3) T.f_dress_of T.fd_dress_of ["rows", "way", "stretch", "cut"] (spL K 4 sp_dress_of) := ok_dress_of T G__texts_of G_piece_stretches
  have G_mark_box : FnOk P w K mg base CX0 (1) T.f_mark_box T.fd_mark_box ["mark"] (spL K 1 sp_mark_box) := ok_mark_box T
  have G__lets : FnOk P w K mg base CX0 (2) T.f__lets T.fd__lets ["mark", "width"] (spL K 2 sp__lets) := ok__lets T G_mark_box
  have G__widths_fit : FnOk P w K mg base CX0 (3) T.f__widths_fit T.fd__widths_fit ["way", "cut"] (spL K 2 sp__widths_fit) := ok__widths_fit T G__lets
  have G_widths_of : FnOk P w K mg base CX0 (1) T.f_widths_of T.fd_widths_of ["stretch"] (spL K 1 sp_widths_of) := ok_widths_of T
  have G__is_number : FnOk P w K mg base CX0 (1) T.f__is_number T.fd__is_number ["value"] (spL K 1 sp__is_number) := ok__is_number T
  have G__adds_up : FnOk P w K mg base CX0 (2) T.f__adds_up T.fd__adds_up ["widths", "many", "width"] (spL K 3 sp__adds_up) := ok__adds_up T G__is_number
  have G__is_cut : FnOk P w K mg base CX0 (3) T.f__is_cut T.fd__is_cut ["cut", "way", "stretch"] (spL K 3 sp__is_cut) := ok__is_cut T G_widths_of G__adds_up
  have G__wrong_here : FnOk P w K mg base CX0 (4) T.f__wrong_here T.fd__wrong_here ["book", "rows", "tree", "lot", "stretch"] (spL K 5 (sp__wrong_here T.c_Book)) := ok__wrong_here T G_part_places G_kinds_of G_tests_hold G_letters_hold G_dress_of G__widths_fit G__is_cut G__is_number G_Book_ways
  have G_wrong_at : FnOk P w K mg base CX0 (5) T.f_wrong_at T.fd_wrong_at ["book", "rows", "candidate", "lot", "stretch"] (spL K 5 (sp_wrong_at T.c_Book)) := ok_wrong_at T G_parts_due G_Book_ways G__wrong_here
  have G_stands : FnOk P w K mg base CX0 (6) T.f_stands T.fd_stands ["book", "rows", "candidate", "lot", "stretch"] (spL K 5 (sp_stands T.c_Book)) := ok_stands T G_wrong_at
  have G_node_at : FnOk P w K mg base CX0 (1) T.f_node_at T.fd_node_at ["candidate", "path"] (spL K 2 sp_node_at) := ok_node_at T
  have G_replaced_at : FnOk P w K mg base CX0 (2) T.f_replaced_at T.fd_replaced_at ["candidate", "path", "other"] (spL K 3 sp_replaced_at) := ok_replaced_at T G_node_at
  have G__parts_below : FnOk P w K mg base CX0 (1) T.f__parts_below T.fd__parts_below ["trees"] (spL K 1 sp__parts_below) := ok__parts_below T
  have G_height_of : FnOk P w K mg base CX0 (2) T.f_height_of T.fd_height_of ["candidate"] (spL K 1 sp_height_of) := ok_height_of T G__parts_below
  have G__way_of : FnOk P w K mg base CX0 (2) T.f__way_of T.fd__way_of ["book", "candidate"] (spL K 2 (sp__way_of T.c_Book)) := ok__way_of T G_Book_ways
  have G_nodes_beneath : FnOk P w K mg base CX0 (4) T.f_nodes_beneath T.fd_nodes_beneath ["book", "candidate", "stretch"] (spL K 3 (sp_nodes_beneath T.c_Book)) := ok_nodes_beneath T G_parts_due G__way_of
  have G_nodes_of : FnOk P w K mg base CX0 (5) T.f_nodes_of T.fd_nodes_of ["book", "candidate", "stretch"] (spL K 3 (sp_nodes_of T.c_Book)) := ok_nodes_of T G_nodes_beneath
  have G__law_pick : FnOk P w K mg base CX0 (1) T.f__law_pick T.fd__law_pick ["_law_tape_here", "_law_many"] (spL K 2 sp__law_pick) := ok__law_pick T
  have G__formulas_of : FnOk P w K mg base CX0 (1) T.f__formulas_of T.fd__formulas_of ["program"] (spL K 1 sp__formulas_of) := ok__formulas_of T
  have G__told_by : FnOk P w K mg base CX0 (1) T.f__told_by T.fd__told_by ["numbers"] (spL K 1 sp_nev) := ok__told_by T
  have G_kinds_by_maker : FnOk P w K mg base CX0 (3) T.f_kinds_by_maker T.fd_kinds_by_maker ["ways"] (spL K 1 sp_kinds_by_maker) := ok_kinds_by_maker T G_kinds_of
  have G_all_ways : FnOk P w K mg base CX0 (1) T.f_all_ways T.fd_all_ways ["program"] (spL K 1 sp_all_ways) := ok_all_ways T
  have G_all_asks : FnOk P w K mg base CX0 (1) T.f_all_asks T.fd_all_asks ["ask"] (spL K 1 sp_nev) := ok_all_asks T
  have G__is_let : FnOk P w K mg base CX0 (1) T.f__is_let T.fd__is_let ["ask", "sorts"] (spL K 2 sp_nev) := ok__is_let T
  have G_has_first : FnOk P w K mg base CX0 (1) T.f_has_first T.fd_has_first ["ask"] (spL K 1 sp_nev) := ok_has_first T
  have G_judges_of : FnOk P w K mg base CX0 (1) T.f_judges_of T.fd_judges_of ["ask"] (spL K 1 sp_nev) := ok_judges_of T
  have G__first_told : FnOk P w K mg base CX0 (1) T.f__first_told T.fd__first_told ["pairs"] (spL K 1 sp__first_told) := ok__first_told T
  have G_look_asks : FnOk P w K mg base (L2.CX P w) (3) T.f_look_asks T.fd_look_asks ["program"] (spX K 1 sp_look_asks) := ok_look_asks T G_all_asks G__is_let G_has_first G_judges_of G__first_told
  have G__look_makers_of : FnOk P w K mg base (L2.CX P w) (2) T.f__look_makers_of T.fd__look_makers_of ["formulas", "sort", "first_kinds", "widths"] (spX K 4 sp_nevX) := ok__look_makers_of T
  have G_look_formulas : FnOk P w K mg base (L2.CX P w) (4) T.f_look_formulas T.fd_look_formulas ["program"] (spX K 1 sp_look_formulas) := ok_look_formulas T G__look_makers_of G__first_told G_kinds_by_maker G_all_ways
  have G__refs_to : FnOk P w K mg base CX0 (1) T.f__refs_to T.fd__refs_to ["kinds", "words"] (spL K 2 sp__refs_to) := ok__refs_to T
  have G_sign_places : FnOk P w K mg base CX0 (2) T.f_sign_places T.fd_sign_places ["kinds"] (spL K 1 sp_sign_places) := ok_sign_places T G__refs_to
  have G_look_tests : FnOk P w K mg base (L2.CX P w) (4) T.f_look_tests T.fd_look_tests ["program"] (spX K 1 sp_look_tests) := ok_look_tests T G_all_ways G_sign_places G_kinds_of
  have G_look_makers : FnOk P w K mg base (L2.CX P w) (4) T.f_look_makers T.fd_look_makers ["program"] (spX K 1 sp_look_makers) := ok_look_makers T G_kinds_of G_kinds_by_maker G_all_ways
  have G__look_name : FnOk P w K mg base (L2.CX P w) (3) T.f__look_name T.fd__look_name ["name", "names"] (spX K 2 sp__look_name) := ok__look_name T
  have G_look_mentions : FnOk P w K mg base (L2.CX P w) (4) T.f_look_mentions T.fd_look_mentions ["program"] (spX K 1 sp_look_mentions) := ok_look_mentions T G_all_ways G__look_name
  have G__words_of : FnOk P w K mg base CX0 (1) T.f__words_of T.fd__words_of ["program"] (spL K 1 sp__words_of) := ok__words_of T
  have G__letters_of : FnOk P w K mg base CX0 (2) T.f__letters_of T.fd__letters_of ["program"] (spL K 1 sp__letters_of) := ok__letters_of T G_all_ways
  have G_has_only : FnOk P w K mg base CX0 (1) T.f_has_only T.fd_has_only ["word", "characters"] (spL K 2 sp_has_only) := ok_has_only T
  have G_look_signs : FnOk P w K mg base (L2.CX P w) (3) T.f_look_signs T.fd_look_signs ["program"] (spX K 1 sp_look_signs) := ok_look_signs T G__words_of G__letters_of G_has_only
  have G__look_list : FnOk P w K mg base (L2.CX P w) (3) T.f__look_list T.fd__look_list ["names"] (spX K 1 sp__look_list) := ok__look_list T
  have G_look_names : FnOk P w K mg base (L2.CX P w) (4) T.f_look_names T.fd_look_names ["program"] (spX K 1 sp_look_names) := ok_look_names T G__look_list
  have G__look_all : FnOk P w K mg base (L2.CX P w) (5) T.f__look_all T.fd__look_all ["program"] (spX K 1 sp__look_all) := ok__look_all T G_look_asks G_look_formulas G_look_tests G_look_makers G_look_mentions G_look_signs G_look_names
  have G_Book___init__ : FnOk P w K mg base (L2.CX P w) (6) T.f_Book___init__ T.fd_Book___init__ ["self", "program"] (spX K 2 (sp_Book___init__ T)) := ok_Book___init__ T G__formulas_of G__told_by G_kinds_by_maker G_all_ways G__look_all
  have G__law_tall : FnOk P w K mg base CX0 (9) T.f__law_tall T.fd__law_tall ["_law_tape_here", "_law_signs", "_law_sides", "_law_front"] (spL K 4 (sp__law_tall T.c_Book)) := ok__law_tall T G_Book___init__ G__law_pick
  have G__law_tall_right : FnOk P w K mg base CX0 (91) T.f__law_tall_right T.fd__law_tall_right ["_law_tape_here", "_law_signs", "_law_sides"] (spL K 3 (sp__law_tall_right T.c_Book)) := ok__law_tall_right T G__law_same G_wrong_at G_stands G_replaced_at G_node_at G_height_of G_nodes_of G__law_pick G__law_tall
  have G__law_between : FnOk P w K mg base CX0 (1) T.f__law_between T.fd__law_between ["_law_text_here", "_law_start", "_law_end"] (spL K 3 sp__law_between) := ok__law_between T
  have G__law_due : FnOk P w K mg base CX0 (2) T.f__law_due T.fd__law_due ["_law_branch", "_law_texts", "_law_span_here", "_law_parting_here"] (spL K 4 sp__law_due) := ok__law_due T G__law_between
  have G__law_plain : FnOk P w K mg base CX0 (1) T.f__law_plain T.fd__law_plain ["_law_branch", "_law_first"] (spL K 2 sp__law_plain) := ok__law_plain T
  have G__plain_texts : FnOk P w K mg base CX0 (1) T.f__plain_texts T.fd__plain_texts ["book", "kind"] (spL K 2 (sp__plain_texts T.c_Book)) := ok__plain_texts T
  have G_plain_dress : FnOk P w K mg base CX0 (2) T.f_plain_dress T.fd_plain_dress ["book", "kinds"] (spL K 2 (sp_plain_dress T.c_Book)) := ok_plain_dress T G__plain_texts
  have G__law_job_right : FnOk P w K mg base CX0 (91) T.f__law_job_right T.fd__law_job_right ["_law_branch", "_law_texts", "_law_span_here", "_law_parting_here"] (spL K 4 sp__law_job_right) := ok__law_job_right T G__law_same G_texts_in G_widths_of G_dress_of G_piece_stretches G__law_due
  have G_whole_of : FnOk P w K mg base CX0 (1) T.f_whole_of T.fd_whole_of ["lengths"] (spL K 1 sp_whole_of) := ok_whole_of T
  have G__law_scene_right : FnOk P w K mg base CX0 (91) T.f__law_scene_right T.fd__law_scene_right ["_law_texts", "_law_span_here"] (spL K 2 sp__law_scene_right) := ok__law_scene_right T G__law_same G_texts_in G__law_between G_widths_of G_whole_of
  have G__law_parting : FnOk P w K mg base CX0 (2) T.f__law_parting T.fd__law_parting ["_law_tape_here", "_law_width", "_law_many"] (spL K 3 sp__law_parting) := ok__law_parting T G__law_pick
  have G__law_span : FnOk P w K mg base CX0 (2) T.f__law_span T.fd__law_span ["_law_tape_here", "_law_size"] (spL K 2 sp__law_span) := ok__law_span T G__law_pick
  have G__law_text : FnOk P w K mg base CX0 (2) T.f__law_text T.fd__law_text ["_law_tape_here", "_law_signs"] (spL K 2 sp__law_text) := ok__law_text T G__law_pick
  have G__law_scene : FnOk P w K mg base CX0 (3) T.f__law_scene T.fd__law_scene ["_law_tape_here", "_law_signs", "_law_sides"] (spL K 3 sp__law_scene) := ok__law_scene T G__law_span G__law_text
  have G__law_mark : FnOk P w K mg base CX0 (2) T.f__law_mark T.fd__law_mark ["_law_tape_here", "_law_signs"] (spL K 2 sp__law_mark) := ok__law_mark T G__law_pick
  have G__law_way : FnOk P w K mg base CX0 (3) T.f__law_way T.fd__law_way ["_law_tape_here", "_law_maker", "_law_signs", "_law_sides"] (spL K 4 sp__law_way) := ok__law_way T G__law_pick G__law_mark
  have G__law_tape : FnOk P w K mg base CX0 (1) T.f__law_tape T.fd__law_tape ["_law_script"] (spL K 1 sp__law_tape) := ok__law_tape T
  have G_law : FnOk P w K mg base CX0 (92) T.f_law T.fd_law ["_law_script"] (spL K 1 sp_law) := ok_law T G__law_tall_right G__law_pick G__law_same G__law_due G_dress_of G__law_plain G_plain_dress G__law_job_right G__law_scene_right G__law_parting G__law_scene G_Book___init__ G__law_way G__law_tape
  exact G_law
end
noncomputable def txtOf {w : World} {K : PySem.W.Frag} {h : Heap} {mg : Str → Option Value} (X : K.In h) (G : h.Ns mainGlobals mg) (c : Hd.Says hds K w) : Txt K mg := {
    c_TwiceNamed := He.ga K "TwiceNamed", oe_TwiceNamed := Hd.exB_oe (c.ex 0), no_TwiceNamed := fun n hn => (by rw [List.mem_singleton.mp hn]; exact He.noat_ok (c.fa 0)), fi_TwiceNamed := He.fAd K ("TwiceNamed", some "__init__"), fdi_TwiceNamed := Hd.fdAt K ("TwiceNamed", some "__init__"), ic_TwiceNamed := Hd.exB_ic (c.ex 0), ti_TwiceNamed := Hd.exB_ti (c.ex 0), Fi_TwiceNamed := c.fn 0, gc_TwiceNamed := He.glo_ok X G (c.fa 1),
    c_BadSign := He.ga K "BadSign", oe_BadSign := Hd.exB_oe (c.ex 1), no_BadSign := fun n hn => (by rw [List.mem_singleton.mp hn]; exact He.noat_ok (c.fa 2)), fi_BadSign := He.fAd K ("BadSign", some "__init__"), fdi_BadSign := Hd.fdAt K ("BadSign", some "__init__"), ic_BadSign := Hd.exB_ic (c.ex 1), ti_BadSign := Hd.exB_ti (c.ex 1), Fi_BadSign := c.fn 1, gc_BadSign := He.glo_ok X G (c.fa 3),
    c_NoName := He.ga K "NoName", oe_NoName := Hd.exB_oe (c.ex 2), no_NoName := fun n hn => (by rw [List.mem_singleton.mp hn]; exact He.noat_ok (c.fa 4)), fi_NoName := He.fAd K ("NoName", some "__init__"), fdi_NoName := Hd.fdAt K ("NoName", some "__init__"), ic_NoName := Hd.exB_ic (c.ex 2), ti_NoName := Hd.exB_ti (c.ex 2), Fi_NoName := c.fn 2, gc_NoName := He.glo_ok X G (c.fa 5),
    c_BadMaker := He.ga K "BadMaker", oe_BadMaker := Hd.exB_oe (c.ex 3), no_BadMaker := fun n hn => (by rw [List.mem_singleton.mp hn]; exact He.noat_ok (c.fa 6)), fi_BadMaker := He.fAd K ("BadMaker", some "__init__"), fdi_BadMaker := Hd.fdAt K ("BadMaker", some "__init__"), ic_BadMaker := Hd.exB_ic (c.ex 3), ti_BadMaker := Hd.exB_ti (c.ex 3), Fi_BadMaker := c.fn 3, gc_BadMaker := He.glo_ok X G (c.fa 7),
    c_BadRef := He.ga K "BadRef", oe_BadRef := Hd.exB_oe (c.ex 4), no_BadRef := fun n hn => (by rw [List.mem_singleton.mp hn]; exact He.noat_ok (c.fa 8)), fi_BadRef := He.fAd K ("BadRef", some "__init__"), fdi_BadRef := Hd.fdAt K ("BadRef", some "__init__"), ic_BadRef := Hd.exB_ic (c.ex 4), ti_BadRef := Hd.exB_ti (c.ex 4), Fi_BadRef := c.fn 4, gc_BadRef := He.glo_ok X G (c.fa 9),
    c_Missing := He.ga K "Missing", oe_Missing := Hd.exB_oe (c.ex 5), no_Missing := fun n hn => ((List.mem_cons.mp hn).elim (fun e => by rw [e]; exact He.noat_ok (c.fa 11)) fun hn => by rw [List.mem_singleton.mp hn]; exact He.noat_ok (c.fa 10)), fi_Missing := He.fAd K ("Missing", some "__init__"), fdi_Missing := Hd.fdAt K ("Missing", some "__init__"), ic_Missing := Hd.exB_ic (c.ex 5), ti_Missing := Hd.exB_ti (c.ex 5), Fi_Missing := c.fn 5, gc_Missing := He.glo_ok X G (c.fa 12),
    c_BadAsk := He.ga K "BadAsk", oe_BadAsk := Hd.exB_oe (c.ex 6), no_BadAsk := fun n hn => (by rw [List.mem_singleton.mp hn]; exact He.noat_ok (c.fa 13)), fi_BadAsk := He.fAd K ("BadAsk", some "__init__"), fdi_BadAsk := Hd.fdAt K ("BadAsk", some "__init__"), ic_BadAsk := Hd.exB_ic (c.ex 6), ti_BadAsk := Hd.exB_ti (c.ex 6), Fi_BadAsk := c.fn 6, gc_BadAsk := He.glo_ok X G (c.fa 14),
    c_Book := He.ga K "Book", cls_Book := He.cls_ok (c.fa 15), gc_Book := He.glo_ok X G (c.fa 16),
    na_Book_signs := He.noat_ok (c.fa 17),
    na_Book_program := He.noat_ok (c.fa 18),
    na_Book_rows := He.noat_ok (c.fa 19),
    na_Book_start := He.noat_ok (c.fa 20),
    na_Book__ways := He.noat_ok (c.fa 21),
    na_Book__kinds := He.noat_ok (c.fa 22),
    na_Book__pairs := He.noat_ok (c.fa 23),
    na_Book__numbers := He.noat_ok (c.fa 24),
    na_Book__sorts := He.noat_ok (c.fa 25),
    na_Book__formulas := He.noat_ok (c.fa 26),
    na_Book__asks := He.noat_ok (c.fa 27),
    f_whole_of := He.fAd K ("whole_of", none), fd_whole_of := Hd.fdAt K ("whole_of", none), F_whole_of := c.fn 7, g_whole_of := He.glo_ok X G (c.fa 28),
    f_widths_of := He.fAd K ("widths_of", none), fd_widths_of := Hd.fdAt K ("widths_of", none), F_widths_of := c.fn 8, g_widths_of := He.glo_ok X G (c.fa 29),
    f_piece_stretches := He.fAd K ("piece_stretches", none), fd_piece_stretches := Hd.fdAt K ("piece_stretches", none), F_piece_stretches := c.fn 9, g_piece_stretches := He.glo_ok X G (c.fa 30),
    f_texts_in := He.fAd K ("texts_in", none), fd_texts_in := Hd.fdAt K ("texts_in", none), F_texts_in := c.fn 10, g_texts_in := He.glo_ok X G (c.fa 31),
    f_parts_due := He.fAd K ("parts_due", none), fd_parts_due := Hd.fdAt K ("parts_due", none), F_parts_due := c.fn 11, g_parts_due := He.glo_ok X G (c.fa 32),
    f__pairs_along := He.fAd K ("_pairs_along", none), fd__pairs_along := Hd.fdAt K ("_pairs_along", none), F__pairs_along := c.fn 12, g__pairs_along := He.glo_ok X G (c.fa 33),
    f_dress_of := He.fAd K ("dress_of", none), fd_dress_of := Hd.fdAt K ("dress_of", none), F_dress_of := c.fn 13, g_dress_of := He.glo_ok X G (c.fa 34),
    f_letters_hold := He.fAd K ("letters_hold", none), fd_letters_hold := Hd.fdAt K ("letters_hold", none), F_letters_hold := c.fn 14, g_letters_hold := He.glo_ok X G (c.fa 35),
    f_tests_hold := He.fAd K ("tests_hold", none), fd_tests_hold := Hd.fdAt K ("tests_hold", none), F_tests_hold := c.fn 15, g_tests_hold := He.glo_ok X G (c.fa 36),
    f_plain_dress := He.fAd K ("plain_dress", none), fd_plain_dress := Hd.fdAt K ("plain_dress", none), F_plain_dress := c.fn 16, g_plain_dress := He.glo_ok X G (c.fa 37),
    f_letters_of := He.fAd K ("letters_of", none), fd_letters_of := Hd.fdAt K ("letters_of", none), F_letters_of := c.fn 17, g_letters_of := He.glo_ok X G (c.fa 38),
    f_text_at := He.fAd K ("text_at", none), fd_text_at := Hd.fdAt K ("text_at", none), F_text_at := c.fn 18, g_text_at := He.glo_ok X G (c.fa 39),
    f__texts_of := He.fAd K ("_texts_of", none), fd__texts_of := Hd.fdAt K ("_texts_of", none), F__texts_of := c.fn 19, g__texts_of := He.glo_ok X G (c.fa 40),
    f_fits_dresses := He.fAd K ("fits_dresses", none), fd_fits_dresses := Hd.fdAt K ("fits_dresses", none), F_fits_dresses := c.fn 20, g_fits_dresses := He.glo_ok X G (c.fa 41),
    f__plain_texts := He.fAd K ("_plain_texts", none), fd__plain_texts := Hd.fdAt K ("_plain_texts", none), F__plain_texts := c.fn 21, g__plain_texts := He.glo_ok X G (c.fa 42),
    f_judges_of := He.fAd K ("judges_of", none), fd_judges_of := Hd.fdAt K ("judges_of", none), F_judges_of := c.fn 22, g_judges_of := He.glo_ok X G (c.fa 43),
    f_has_first := He.fAd K ("has_first", none), fd_has_first := Hd.fdAt K ("has_first", none), F_has_first := c.fn 23, g_has_first := He.glo_ok X G (c.fa 44),
    f_all_asks := He.fAd K ("all_asks", none), fd_all_asks := Hd.fdAt K ("all_asks", none), F_all_asks := c.fn 24, g_all_asks := He.glo_ok X G (c.fa 45),
    f_kinds_of := He.fAd K ("kinds_of", none), fd_kinds_of := Hd.fdAt K ("kinds_of", none), F_kinds_of := c.fn 25, g_kinds_of := He.glo_ok X G (c.fa 46),
    f_part_places := He.fAd K ("part_places", none), fd_part_places := Hd.fdAt K ("part_places", none), F_part_places := c.fn 26, g_part_places := He.glo_ok X G (c.fa 47),
    f_sign_places := He.fAd K ("sign_places", none), fd_sign_places := Hd.fdAt K ("sign_places", none), F_sign_places := c.fn 27, g_sign_places := He.glo_ok X G (c.fa 48),
    f_kinds_by_maker := He.fAd K ("kinds_by_maker", none), fd_kinds_by_maker := Hd.fdAt K ("kinds_by_maker", none), F_kinds_by_maker := c.fn 28, g_kinds_by_maker := He.glo_ok X G (c.fa 49),
    f__kind_of := He.fAd K ("_kind_of", none), fd__kind_of := Hd.fdAt K ("_kind_of", none), F__kind_of := c.fn 29, g__kind_of := He.glo_ok X G (c.fa 50),
    f__refs_to := He.fAd K ("_refs_to", none), fd__refs_to := Hd.fdAt K ("_refs_to", none), F__refs_to := c.fn 30, g__refs_to := He.glo_ok X G (c.fa 51),
    f_all_ways := He.fAd K ("all_ways", none), fd_all_ways := Hd.fdAt K ("all_ways", none), F_all_ways := c.fn 31, g_all_ways := He.glo_ok X G (c.fa 52),
    f_look_formulas := He.fAd K ("look_formulas", none), fd_look_formulas := Hd.fdAt K ("look_formulas", none), F_look_formulas := c.fn 32, g_look_formulas := He.glo_ok X G (c.fa 53),
    f_look_asks := He.fAd K ("look_asks", none), fd_look_asks := Hd.fdAt K ("look_asks", none), F_look_asks := c.fn 33, g_look_asks := He.glo_ok X G (c.fa 54),
    f__first_told := He.fAd K ("_first_told", none), fd__first_told := Hd.fdAt K ("_first_told", none), F__first_told := c.fn 34, g__first_told := He.glo_ok X G (c.fa 55),
    f__look_makers_of := He.fAd K ("_look_makers_of", none), fd__look_makers_of := Hd.fdAt K ("_look_makers_of", none), F__look_makers_of := c.fn 35, g__look_makers_of := He.glo_ok X G (c.fa 56),
    f__mentions_in := He.fAd K ("_mentions_in", none), fd__mentions_in := Hd.fdAt K ("_mentions_in", none), F__mentions_in := c.fn 36, g__mentions_in := He.glo_ok X G (c.fa 57),
    f__look_mention := He.fAd K ("_look_mention", none), fd__look_mention := Hd.fdAt K ("_look_mention", none), F__look_mention := c.fn 37, g__look_mention := He.glo_ok X G (c.fa 58),
    f__fits := He.fAd K ("_fits", none), fd__fits := Hd.fdAt K ("_fits", none), F__fits := c.fn 38, g__fits := He.glo_ok X G (c.fa 59),
    f__is_let := He.fAd K ("_is_let", none), fd__is_let := Hd.fdAt K ("_is_let", none), F__is_let := c.fn 39, g__is_let := He.glo_ok X G (c.fa 60),
    f_look_names := He.fAd K ("look_names", none), fd_look_names := Hd.fdAt K ("look_names", none), F_look_names := c.fn 40, g_look_names := He.glo_ok X G (c.fa 61),
    f__look_list := He.fAd K ("_look_list", none), fd__look_list := Hd.fdAt K ("_look_list", none), F__look_list := c.fn 41, g__look_list := He.glo_ok X G (c.fa 62),
    f_look_mentions := He.fAd K ("look_mentions", none), fd_look_mentions := Hd.fdAt K ("look_mentions", none), F_look_mentions := c.fn 42, g_look_mentions := He.glo_ok X G (c.fa 63),
    f_look_makers := He.fAd K ("look_makers", none), fd_look_makers := Hd.fdAt K ("look_makers", none), F_look_makers := c.fn 43, g_look_makers := He.glo_ok X G (c.fa 64),
    f_look_tests := He.fAd K ("look_tests", none), fd_look_tests := Hd.fdAt K ("look_tests", none), F_look_tests := c.fn 44, g_look_tests := He.glo_ok X G (c.fa 65),
    f__look_name := He.fAd K ("_look_name", none), fd__look_name := Hd.fdAt K ("_look_name", none), F__look_name := c.fn 45, g__look_name := He.glo_ok X G (c.fa 66),
    f_has_only := He.fAd K ("has_only", none), fd_has_only := Hd.fdAt K ("has_only", none), F_has_only := c.fn 46, g_has_only := He.glo_ok X G (c.fa 67),
    f_look_signs := He.fAd K ("look_signs", none), fd_look_signs := Hd.fdAt K ("look_signs", none), F_look_signs := c.fn 47, g_look_signs := He.glo_ok X G (c.fa 68),
    f__words_of := He.fAd K ("_words_of", none), fd__words_of := Hd.fdAt K ("_words_of", none), F__words_of := c.fn 48, g__words_of := He.glo_ok X G (c.fa 69),
    f__letters_of := He.fAd K ("_letters_of", none), fd__letters_of := Hd.fdAt K ("_letters_of", none), F__letters_of := c.fn 49, g__letters_of := He.glo_ok X G (c.fa 70),
    f_Book___init__ := He.fAd K ("Book", some "__init__"), fd_Book___init__ := Hd.fdAt K ("Book", some "__init__"), F_Book___init__ := c.fn 50, mk_Book := He.mkr_ok (c.fa 71),
    f_Book_ways := He.fAd K ("Book", some "ways"), fd_Book_ways := Hd.fdAt K ("Book", some "ways"), F_Book_ways := c.fn 51, m_Book_ways := He.meth_ok (c.fa 72),
    f_Book_in_pairs := He.fAd K ("Book", some "in_pairs"), fd_Book_in_pairs := Hd.fdAt K ("Book", some "in_pairs"), F_Book_in_pairs := c.fn 52, m_Book_in_pairs := He.meth_ok (c.fa 73),
    f__look_all := He.fAd K ("_look_all", none), fd__look_all := Hd.fdAt K ("_look_all", none), F__look_all := c.fn 53, g__look_all := He.glo_ok X G (c.fa 74),
    f__told_by := He.fAd K ("_told_by", none), fd__told_by := Hd.fdAt K ("_told_by", none), F__told_by := c.fn 54, g__told_by := He.glo_ok X G (c.fa 75),
    f__formulas_of := He.fAd K ("_formulas_of", none), fd__formulas_of := Hd.fdAt K ("_formulas_of", none), F__formulas_of := c.fn 55, g__formulas_of := He.glo_ok X G (c.fa 76),
    f_mark_box := He.fAd K ("mark_box", none), fd_mark_box := Hd.fdAt K ("mark_box", none), F_mark_box := c.fn 56, g_mark_box := He.glo_ok X G (c.fa 77),
    f_wrong_at := He.fAd K ("wrong_at", none), fd_wrong_at := Hd.fdAt K ("wrong_at", none), F_wrong_at := c.fn 57, g_wrong_at := He.glo_ok X G (c.fa 78),
    f_stands := He.fAd K ("stands", none), fd_stands := Hd.fdAt K ("stands", none), F_stands := c.fn 58, g_stands := He.glo_ok X G (c.fa 79),
    f__wrong_here := He.fAd K ("_wrong_here", none), fd__wrong_here := Hd.fdAt K ("_wrong_here", none), F__wrong_here := c.fn 59, g__wrong_here := He.glo_ok X G (c.fa 80),
    f__is_number := He.fAd K ("_is_number", none), fd__is_number := Hd.fdAt K ("_is_number", none), F__is_number := c.fn 60, g__is_number := He.glo_ok X G (c.fa 81),
    f__is_cut := He.fAd K ("_is_cut", none), fd__is_cut := Hd.fdAt K ("_is_cut", none), F__is_cut := c.fn 61, g__is_cut := He.glo_ok X G (c.fa 82),
    f__adds_up := He.fAd K ("_adds_up", none), fd__adds_up := Hd.fdAt K ("_adds_up", none), F__adds_up := c.fn 62, g__adds_up := He.glo_ok X G (c.fa 83),
    f__widths_fit := He.fAd K ("_widths_fit", none), fd__widths_fit := Hd.fdAt K ("_widths_fit", none), F__widths_fit := c.fn 63, g__widths_fit := He.glo_ok X G (c.fa 84),
    f__lets := He.fAd K ("_lets", none), fd__lets := Hd.fdAt K ("_lets", none), F__lets := c.fn 64, g__lets := He.glo_ok X G (c.fa 85),
    f_height_of := He.fAd K ("height_of", none), fd_height_of := Hd.fdAt K ("height_of", none), F_height_of := c.fn 65, g_height_of := He.glo_ok X G (c.fa 86),
    f_node_at := He.fAd K ("node_at", none), fd_node_at := Hd.fdAt K ("node_at", none), F_node_at := c.fn 66, g_node_at := He.glo_ok X G (c.fa 87),
    f_nodes_of := He.fAd K ("nodes_of", none), fd_nodes_of := Hd.fdAt K ("nodes_of", none), F_nodes_of := c.fn 67, g_nodes_of := He.glo_ok X G (c.fa 88),
    f_nodes_beneath := He.fAd K ("nodes_beneath", none), fd_nodes_beneath := Hd.fdAt K ("nodes_beneath", none), F_nodes_beneath := c.fn 68, g_nodes_beneath := He.glo_ok X G (c.fa 89),
    f_replaced_at := He.fAd K ("replaced_at", none), fd_replaced_at := Hd.fdAt K ("replaced_at", none), F_replaced_at := c.fn 69, g_replaced_at := He.glo_ok X G (c.fa 90),
    f__way_of := He.fAd K ("_way_of", none), fd__way_of := Hd.fdAt K ("_way_of", none), F__way_of := c.fn 70, g__way_of := He.glo_ok X G (c.fa 91),
    f__parts_below := He.fAd K ("_parts_below", none), fd__parts_below := Hd.fdAt K ("_parts_below", none), F__parts_below := c.fn 71, g__parts_below := He.glo_ok X G (c.fa 92),
    f__law_tape := He.fAd K ("_law_tape", none), fd__law_tape := Hd.fdAt K ("_law_tape", none), F__law_tape := c.fn 72, g__law_tape := He.glo_ok X G (c.fa 93),
    f__law_pick := He.fAd K ("_law_pick", none), fd__law_pick := Hd.fdAt K ("_law_pick", none), F__law_pick := c.fn 73, g__law_pick := He.glo_ok X G (c.fa 94),
    f__law_same := He.fAd K ("_law_same", none), fd__law_same := Hd.fdAt K ("_law_same", none), F__law_same := c.fn 74, g__law_same := He.glo_ok X G (c.fa 95),
    f__law_mark := He.fAd K ("_law_mark", none), fd__law_mark := Hd.fdAt K ("_law_mark", none), F__law_mark := c.fn 75, g__law_mark := He.glo_ok X G (c.fa 96),
    f__law_way := He.fAd K ("_law_way", none), fd__law_way := Hd.fdAt K ("_law_way", none), F__law_way := c.fn 76, g__law_way := He.glo_ok X G (c.fa 97),
    f__law_text := He.fAd K ("_law_text", none), fd__law_text := Hd.fdAt K ("_law_text", none), F__law_text := c.fn 77, g__law_text := He.glo_ok X G (c.fa 98),
    f__law_span := He.fAd K ("_law_span", none), fd__law_span := Hd.fdAt K ("_law_span", none), F__law_span := c.fn 78, g__law_span := He.glo_ok X G (c.fa 99),
    f__law_scene := He.fAd K ("_law_scene", none), fd__law_scene := Hd.fdAt K ("_law_scene", none), F__law_scene := c.fn 79, g__law_scene := He.glo_ok X G (c.fa 100),
    f__law_parting := He.fAd K ("_law_parting", none), fd__law_parting := Hd.fdAt K ("_law_parting", none), F__law_parting := c.fn 80, g__law_parting := He.glo_ok X G (c.fa 101),
    f__law_between := He.fAd K ("_law_between", none), fd__law_between := Hd.fdAt K ("_law_between", none), F__law_between := c.fn 81, g__law_between := He.glo_ok X G (c.fa 102),
    f__law_due := He.fAd K ("_law_due", none), fd__law_due := Hd.fdAt K ("_law_due", none), F__law_due := c.fn 82, g__law_due := He.glo_ok X G (c.fa 103),
    f__law_plain := He.fAd K ("_law_plain", none), fd__law_plain := Hd.fdAt K ("_law_plain", none), F__law_plain := c.fn 83, g__law_plain := He.glo_ok X G (c.fa 104),
    f__law_scene_right := He.fAd K ("_law_scene_right", none), fd__law_scene_right := Hd.fdAt K ("_law_scene_right", none), F__law_scene_right := c.fn 84, g__law_scene_right := He.glo_ok X G (c.fa 105),
    f__law_job_right := He.fAd K ("_law_job_right", none), fd__law_job_right := Hd.fdAt K ("_law_job_right", none), F__law_job_right := c.fn 85, g__law_job_right := He.glo_ok X G (c.fa 106),
    f__law_tall := He.fAd K ("_law_tall", none), fd__law_tall := Hd.fdAt K ("_law_tall", none), F__law_tall := c.fn 86, g__law_tall := He.glo_ok X G (c.fa 107),
    f__law_tall_right := He.fAd K ("_law_tall_right", none), fd__law_tall_right := Hd.fdAt K ("_law_tall_right", none), F__law_tall_right := c.fn 87, g__law_tall_right := He.glo_ok X G (c.fa 108),
    f_law := He.fAd K ("law", none), fd_law := Hd.fdAt K ("law", none), F_law := c.fn 88, g_law := He.glo_ok X G (c.fa 109),
    z_tuple := He.free_ok X G (c.fa 110),
    z_zip := He.free_ok X G (c.fa 111),
    z_all := He.free_ok X G (c.fa 112),
    z_len := He.free_ok X G (c.fa 113),
    z_enumerate := He.free_ok X G (c.fa 114),
    z_set := He.free_ok X G (c.fa 115),
    z_isinstance := He.free_ok X G (c.fa 116),
    z_bool := He.free_ok X G (c.fa 117),
    z_int := He.free_ok X G (c.fa 118),
    z_sum := He.free_ok X G (c.fa 119),
    z_range := He.free_ok X G (c.fa 120),
    z_str := He.free_ok X G (c.fa 121),
    z_list := He.free_ok X G (c.fa 122),
    v_SIGNS := He.int_ok X G (c.fa 123),
    v_ROWS := He.int_ok X G (c.fa 124),
    v_PAIRS := He.int_ok X G (c.fa 125),
    v_NUMBERS := He.int_ok X G (c.fa 126),
    v_START := He.int_ok X G (c.fa 127),
    v_LOTS := He.int_ok X G (c.fa 128),
    v_JUDGES := He.int_ok X G (c.fa 129),
    v_ASKS := He.int_ok X G (c.fa 130)
  }
theorem start {K : PySem.W.Frag} {H : Hp} {a : Addr} {ns : List Int} {E : XK} (hl : ns.length ≤ 63) (hO : L2.Only H) (hS : SqL K H a (ns.map V.int)) : spL K 1 sp_law [.ref a] H (fun v _ => v = .bl true) E := by
  have hr : RoL K H a (ns.map V.int) := by
    rcases hS with (h | ⟨u, h⟩) | h
    · rcases hO a with e | ⟨u, xs, e⟩
      · rw [e] at h; cases h
      · rw [e] at h; cases h
    · exact .inl ⟨u, h⟩
    · exact .inr h
  have hL : ∀ l : List Int, RepL K H (l.map D.int) (l.map V.int) := fun l => by
    induction l with
    | nil => exact .nil
    | cons x l ih => exact .cons (.int x) ih
  refine ⟨[.rol (ns.map D.int)], fun _ => none, fun v _ => v = .bl true, .cons (.rol hr (hL ns)) .nil, fun _ _ e => (by cases e), ⟨rfl, ns, rfl, by omega, fun _ => rfl⟩, fun v H' dv m' _ _ hv hq => ?_⟩
  subst hq
  cases hv
  rfl
theorem law_end {w : World} {K : PySem.W.Frag} {h : Heap} {mg : Str → Option Value} {fa : Addr} (X : K.In h) (G : h.Ns mainGlobals mg) (c : Hd.Says hds K w) (e : mg "law" = some (.ref fa)) : ∃ (K : PySem.W.Frag) (fd : FuncData) (sp : Sp), K.In h ∧ (∀ (s : Shared) (u : Value), BindsTo s fd ⟨[u], []⟩ [("_law_script", u)]) ∧ (∀ (H : Hp) (a : Addr) (ns : List Int), ns.length ≤ 63 → L2.Only H → SqL K H a (ns.map V.int) → sp [.ref a] H (fun v _ => v = .bl true) fun _ _ _ => False) ∧ ∀ base : Heap, K.In base → base.Ns mainGlobals mg → FnOk PySem.Challenge.rw_chooseonce_k24_stretches_and_dresses.prog w K mg base CX0 92 fa fd ["_law_script"] sp := by
  have T : {T : Txt K mg // T.f_law = He.fAd K ("law", none) ∧ T.fd_law = Hd.fdAt K ("law", none)} := ⟨txtOf X G c, rfl, rfl⟩
  obtain ⟨T, e1, e2⟩ := T
  have e3 := e.symm.trans T.g_law
  cases e3
  exact ⟨K, T.fd_law, spL K 1 sp_law, X, fun s u => Hd.bind_one T.F_law (fun _ _ _ _ _ _ _ => rfl) s u, fun H a ns hl hO hS => start hl hO hS, fun base _ _ => law_all T⟩
end K24
open PySem PySem.W PyProof.Rows PySem.Calls
set_option maxHeartbeats 0 in
theorem PySem.Challenge.cw_chooseonce_k24_stretches_and_dresses_holds : PySem.Challenge.rw_chooseonce_k24_stretches_and_dresses.Holds := by
  w_on; o_law
  refine HandSHeadRun.head_any (r := OpenLaw.row PySem.Challenge.rw_chooseonce_k24_stretches_and_dresses) (q := (PySem.W.view (PySem.W.OpenLaw.row PySem.Challenge.rw_chooseonce_k24_stretches_and_dresses).prog [121])) (H := Hd.hook K24.hds K24.hda) (ob := Hd.ob K24.hds K24.hda) (M := 9000) (loose := K24.hdn) (d := HandSHeadRun.topDef (OpenLaw.row PySem.Challenge.rw_chooseonce_k24_stretches_and_dresses).prog 121) (kwd := []) (Hd.ob_eq _ _) (by kernel_rfl) (fun s => by kernel_rfl) K24.hd_run (by kernel_rfl) (by kernel_rfl) (by kernel_rfl) (by rfl) (by first | assumption | decide +kernel) (by decide +kernel) ⟨rfl, rfl, rfl, rfl, rfl, by decide +kernel⟩ ?hw ?hc
  case hw => w_witness2
  refine L2.walk_ofE (l := PySem.Challenge.rw_chooseonce_k24_stretches_and_dresses) (n := 63) (k := 92) (x := "_law_script") (CX := L2.CX0) rfl (by decide) (by kernel_rfl) ⟨rfl, by decide, by decide⟩ ?F (fun _ _ _ _ z => z)
  intro w mg fa h Y G e
  obtain ⟨K, X, c⟩ := Y
  exact K24.law_end X G c ((congrArg mg (show (HandSHeadRun.topDef (OpenLaw.row PySem.Challenge.rw_chooseonce_k24_stretches_and_dresses).prog 121).name = ("law" : PySem.Str) by kernel_rfl)).symm.trans e)
