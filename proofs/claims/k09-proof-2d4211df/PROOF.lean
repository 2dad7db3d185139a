import PyProof.Rows.All
import Wide.All
import OpenK.AllK
import Wide.FinOn
import HandS.ForMost
import HandS.Exc
import HandS.ExcOwn
import HandS.ExcValue
import HandS.IsInst
import PyProof.ReprReads
import PyProof.ReprRoads
import PyProof.ExcRepr
import KE.KExcStr
import HandS.ExcIs
import HandS.Evl
import HandS.TryMany
import HandS.WordsExc
import HandS.Small
import HandS.TupAny
import HandS.Walk
import HandS.Deep
import HandS.Wide
import HandS.Steps
import PyProof.EqAt
import PyProof.EqKinds
import HandS.TupLe
import HandS.Dict
import HandS.More
import HandS.Zip
import PyProof.Rows.SortKeyStr
import KE.KSortTup
import KE.KDictList
import KE.KDictSum
import HandS.DictTup
import HandS.Iter
import HandS.SortOrd
import HandS.SortRule
import KE.KStrOpen
import PyProof.ReprLen
import PyProof.FitsInt
import PyProof.StrLawsRepr
import PySem.Challenge.RW_homeshold_k09_letters_judged
set_option Elab.async false
set_option linter.all false
set_option maxRecDepth 100000
namespace PySem
open Sem (wp)
open Builtin Builtin.Str Builtin.BaseException Builtin.Exceptions
open PySem.W (Looks Frag findIn subIn looks_findIn looks_subIn)
section
variable {prog : Program} {w : World} {K : Frag} {C e t0 : Addr} {h₀ : Heap}
/-- an exception of the class C without arguments -/
def HxExc (C e t0 : Addr) (h : Heap) : Prop := (∃ o vs, h.get? e = some o ∧ o.cls = .ref C ∧ o.data = .fields vs ∧ vs[0]? = some (.ref t0) ∧ o.dict = none) ∧ ∃ o n, h.get? t0 = some o ∧ o.cls = .type "tuple" ∧ o.data = .seq #[] n
theorem HxExc.mono {h h' : Heap} (x : HxExc C e t0 h) (k : ∀ b o, h.get? b = some o → h'.get? b = some o) : HxExc C e t0 h' := by
  obtain ⟨⟨o, vs, h1, h2⟩, o', n, h3, h4⟩ := x
  exact ⟨⟨o, vs, k _ _ h1, h2⟩, o', n, k _ _ h3, h4⟩
/-- the class's name -/
def HxName (K : Frag) (C : Addr) (nm : Str) : Prop := ∃ o cd, K.lookup C = some o ∧ o.data = .cls cd ∧ Str.ofString ((cd.name.toString.cutAt '.').getLastD "") = nm
theorem hx_typeName {M : Model} {A : Around} {E : Value → Shared → Prop} {s : Shared} {nm : Str} {Q : String → Shared → Prop} (X : K.In s.heap) (x : HxExc C e t0 s.heap) (n : HxName K C nm) (hq : ∀ z : String, Str.ofString ((z.cutAt '.').getLastD "") = nm → Q z s) : wpAny M A (typeNameOfWhole (.ref e)) Q E s := by
  obtain ⟨⟨o, vs, h1, h2, _⟩, _⟩ := x
  obtain ⟨oc, cd, hc, hd, hn⟩ := n
  have ty : ∀ {Q : Value → Shared → Prop}, Q (.ref C) s → wpAny M A (typeOf (.ref e)) Q E s := fun q => wpAny_typeOf_ref h1 (by rw [h2]; exact q)
  unfold typeNameOfWhole shownTypeOf
  refine wpAny_bind (wpAny_bind (ty ?_))
  have e1 : ((Value.ref C == Value.type "builtin_function_or_method") = true) = False := by simp
  rw [if_neg (by rw [e1]; exact id)]
  refine wpAny_pure ?_
  unfold typeNameWhole classData
  refine wpAny_bind (wpAny_bind (wpAny_load (X C oc hc) ?_))
  rw [hd]
  exact wpAny_pure (wpAny_pure (hq _ hn))
/-- where the class's repr is the base's -/
structure HxRepr (K : Frag) (C : Addr) (nm : Str) : Prop where
  name : HxName K C nm
  find : findIn K (.ref C) "__repr__" = some (some (.builtin "BaseException.__repr__"))
  sub : subIn K (.ref C) (.type "BaseException") = some true
theorem hx_looks {M : Model} {h : Heap} (x : HxExc C e t0 h) : Looks M h (typeOf (.ref e)) (.ref C) := fun A Q E s k q => by
  obtain ⟨⟨o, vs, ho, hc, _⟩, _⟩ := x
  exact wpAny_typeOf_ref (k _ _ ho) (by rw [hc]; exact q)
theorem hx_tuple (x : HxExc C e t0 h₀) : ReprK prog w [t0] h₀ 1 (.ref t0) "()" := by
  obtain ⟨_, o, n, h1, h2, h3⟩ := x
  exact ReprK.tuple (ts := []) (as := []) (d := 0) h1 h2 h3 (by simp) .nil
theorem bexcArgs_T {M : Model} {A : Around} {E : Value → Shared → Prop} {s : Shared} {items : List Value} {Q : Value × List Value → Shared → Prop} (x : ∃ o vs, s.heap.get? e = some o ∧ o.data = .fields vs ∧ vs[0]? = some (.ref t0)) (ht : s.heap.TupAt t0 items) (hq : Q (.ref t0, items) s) :
    wpAny M A (bexcArgs (.ref e)) Q E s := by
  obtain ⟨o, vs, ho, hd, h0⟩ := x
  obtain ⟨ot, k, hto, _, htd⟩ := ht
  unfold bexcArgs
  refine wpAny_bind (wpAny_field ho hd h0 (wpAny_bind (wpAny_seqItems hto htd ?_)))
  have : items.toArray.toList = items := by simp
  show wpAny M A (pure (Value.ref t0, items.toArray.toList)) Q E s
  rw [this]; exact wpAny_pure hq
/-- the body of the base's repr -/
theorem hx_body {A : Around} {g : List Code} {E : Value → Shared → Prop} {s : Shared} {nm : Str} {base : Nat} {Q : Fin → Shared → Prop} (X : K.In h₀) (x : HxExc C e t0 h₀) (R : HxRepr K C nm) (hb : base + (nm ++ "()").length ≤ sizeLine)
    (hg : A.guards = some g) (hcl : Clear g t0) (hu : A.units + 1 < cLine) (hk : ∀ b o, h₀.get? b = some o → s.heap.get? b = some o)
    (hQ : ∀ h' u tk, (∀ b o, s.heap.get? b = some o → h'.get? b = some o) → Q (.done (.ret (.str (nm ++ "()") u))) { s with heap := h', toks := tk }) :
    wpAny (model prog w) A (Builtin.bexcReprAt base ⟨[.ref e], []⟩) Q E s := by
  have xs : HxExc C e t0 s.heap := x.mono hk
  obtain ⟨⟨o, vs, h1, h2, h3, h4, _⟩, ot, n, g1, g2, g3⟩ := id xs
  have e2 : (nm ++ "()").length = nm.length + 2 := by
    rw [strLen_append]
    rfl
  unfold Builtin.bexcReprAt
  repeat (first | with_reducible refine hx_typeName (fun a o q => hk _ _ (X a o q)) xs R.name (fun z hz => ?_) | wp_step)
  rw [h2]
  obtain ⟨oc, cd, hc, hd, hn⟩ := R.name
  show wpAny _ _ (do let c ← classData C; pure c.name.toString) _ _ _
  unfold classData
  refine wpAny_bind (wpAny_bind (wpAny_load (hk _ _ (X C oc hc)) ?_))
  rw [hd]
  refine wpAny_pure (wpAny_pure ?_)
  dsimp only
  rw [hn]
  refine wpAny_bind (bexcArgs_T (items := []) ⟨o, vs, h1, h3, h4⟩ ⟨ot, n, g1, g2, g3⟩ ?_)
  dsimp only
  refine wpAny_bind (hx_tuple x (base + nm.length) (by have : ("()" : Str).length = 2 := rfl; omega) A g E s _ hg (fun b hb => by rw [List.mem_singleton.mp hb]; exact hcl) (by omega) hk fun h' tk hk' => ?_)
  refine wpAny_bind (wpAny_mkStr (x := nm ++ ("()" : Str)) (wpAny_pure ?_) (by omega))
  exact hQ h' _ _ hk'
theorem hx_by {A : Around} {E : Value → Shared → Prop} {s : Shared} {last : Value → List Value → Sem Value} {Q : Option Value → Shared → Prop}
    (sp : ∀ {A : Around} {E : Value → Shared → Prop} {Q : Option Value → Shared → Prop}, Q (some (.builtin "BaseException.__repr__")) s → wpAny (model prog w) A (specialOf (.ref e) (Str.ofString "__repr__")) Q E s)
    (hc : wpAny (model prog w) A (last (.builtin "BaseException.__repr__") [.ref e]) (fun v => Q (some v)) E s) : wpAny (model prog w) A (callSpecialIfBoundBy? last (.ref e) (Str.ofString "__repr__")) Q E s := by
  simp only [callSpecialIfBoundBy?, bindSpecialIfBound?]
  refine wpAny_holding (wpAny_bind (wpAny_bind (sp ?_)))
  simp only [F.excStr_Exception.repr.bind]
  refine wpAny_bind (wpAny_askSetting (wpAny_ite ?_))
  have fin : wpAny (model prog w) A (last (.builtin "BaseException.__repr__") [.ref e] >>= fun v => pure (some v)) Q E s :=
    wpAny_bind (wpAny_mono hc (fun v s' h' => wpAny_pure h') fun _ _ h' => h')
  split
  · exact wpAny_bind (wpAny_pure (wpAny_pure fin))
  · exact wpAny_tryCatch (wpAny_bind (wpAny_pure (wpAny_pure fin)))
theorem hx_bound {A : Around} {E : Value → Shared → Prop} {s : Shared} {Q : Option Value → Shared → Prop}
    (sp : ∀ {A : Around} {E : Value → Shared → Prop} {Q : Option Value → Shared → Prop}, Q (some (.builtin "BaseException.__repr__")) s → wpAny (model prog w) A (specialOf (.ref e) (Str.ofString "__repr__")) Q E s)
    (hc : wpAny (model prog w) A (call (.builtin "BaseException.__repr__") [.ref e]) (fun v => Q (some v)) E s) : wpAny (model prog w) A (callSpecialIfBound? (.ref e) (Str.ofString "__repr__")) Q E s := by
  simp only [callSpecialIfBound?, bindSpecialIfBound?]
  refine wpAny_holding (wpAny_bind (wpAny_bind (sp ?_)))
  simp only [F.excStr_Exception.repr.bind]
  refine wpAny_bind (wpAny_askSetting (wpAny_ite ?_))
  have fin : wpAny (model prog w) A (call (.builtin "BaseException.__repr__") ([.ref e] ++ []) >>= fun v => pure (some v)) Q E s :=
    wpAny_bind (wpAny_mono hc (fun v s' h' => wpAny_pure h') fun _ _ h' => h')
  split
  · exact wpAny_bind (wpAny_pure (wpAny_pure fin))
  · exact wpAny_tryCatch (wpAny_bind (wpAny_pure (wpAny_pure fin)))
/-- repr of such an exception, within another repr -/
theorem hx_repr {nm : Str} (X : K.In h₀) (x : HxExc C e t0 h₀) (R : HxRepr K C nm) (hne : ∀ b ∈ ([] : List Addr), b ≠ e) : ReprK prog w [e, t0] h₀ 3 (.ref e) (nm ++ "()") := by
  intro base hb A g E s Q hg hcl hu hk0 hQ
  have xs := x.mono hk0
  have hf : Looks (model prog w) s.heap (typeLookup (.ref C) (Str.ofString "__repr__")) (some (.builtin "BaseException.__repr__")) := looks_findIn (fun a o q => hk0 _ _ (X a o q)) R.find
  have hi : Looks (model prog w) s.heap (isInstance (.ref e) (.type "BaseException")) true := (hx_looks xs).andThen (looks_subIn (fun a o q => hk0 _ _ (X a o q)) R.sub)
  refine wpAny_pyReprUnder_ref (by omega) ?_
  unfold pyReprObjUnder pyReprObjBy
  refine wpAny_bind (wpAny_cRoomFor (by omega) ?_)
  have sp : ∀ {A : Around} {E : Value → Shared → Prop} {Q : Option Value → Shared → Prop}, Q (some (.builtin "BaseException.__repr__")) s → wpAny (model prog w) A (specialOf (.ref e) (Str.ofString "__repr__")) Q E s := fun q => by
    unfold specialOf
    exact wpAny_bind ((hx_looks xs).here (hf.here q))
  refine wpAny_bind (sp ?_)
  refine wpAny_bind (hx_by sp ?_)
  show wpAny (model prog w) A (call (.builtin "BaseException.__repr__.under") [.ref e, rawInt base]) _ _ _
  refine wpAny_call (codeAny_call_builtin F.plain_bexc_repr_under F.entry_bexc_repr_under ?_)
  rw [F.check_bexc_repr_under]
  refine wpAny_pure ?_
  unfold Builtin.«BaseException.__repr__.under»
  rw [reprTwin_eq]
  refine wpAny_bind (@PySem.W.check_slot (model prog w) _ _ s "BaseException.__repr__" "BaseException" "__repr__" (.ref e) [] [] _ (by decide +kernel) (by decide +kernel) hi (F.args_bexc_repr _) ?_)
  refine hx_body X x R hb (g := g) hg (hcl t0 (by simp)) (by show A.units + 1 + 1 < cLine; omega) hk0 fun h' u tk hk => ?_
  exact wpAny_bind (wpAny_isInstance (T := "str") (b := true) rfl isSubtype_str_str (wpAny_pure ⟨_, _, rfl, hQ h' tk hk⟩))
/-- repr of such an exception by itself -/
theorem hx_reprTop {nm : Str} {A : Around} {E : Value → Shared → Prop} {s : Shared} {Q : Value → Shared → Prop} (X : K.In s.heap) (x : HxExc C e t0 s.heap) (R : HxRepr K C nm) (hb : (nm ++ "()").length ≤ sizeLine) (hg : A.guards = some []) (hu : A.units + 4 < cLine)
    (hQ : ∀ h' u tk, (∀ b o, s.heap.get? b = some o → h'.get? b = some o) → Q (.str (nm ++ "()") u) { s with heap := h', toks := tk }) : wpAny (model prog w) A (call (.builtin "repr") [.ref e]) Q E s := by
  have hf : Looks (model prog w) s.heap (typeLookup (.ref C) (Str.ofString "__repr__")) (some (.builtin "BaseException.__repr__")) := looks_findIn X R.find
  have hi : Looks (model prog w) s.heap (isInstance (.ref e) (.type "BaseException")) true := (hx_looks x).andThen (looks_subIn X R.sub)
  have sp : ∀ {A : Around} {E : Value → Shared → Prop} {Q : Option Value → Shared → Prop}, Q (some (.builtin "BaseException.__repr__")) s → wpAny (model prog w) A (specialOf (.ref e) (Str.ofString "__repr__")) Q E s := fun q => by
    unfold specialOf
    exact wpAny_bind ((hx_looks x).here (hf.here q))
  refine Calls.call_function_entry F.kind_repr F.plain_repr F.entry_repr (F.args_repr1 _) ?_
  unfold Builtin.«repr»
  refine wpAny_bind (m := oneArg "repr" _) (wpAny_pure ?_)
  refine wpAny_bind (m := cRoomFor _ _) (wpAny_cRoomFor (by show A.units + 1 < cLine; omega) ?_)
  refine wpAny_bind (sp ?_)
  refine wpAny_bind (m := callSpecialIfBound? (.ref e) (Str.ofString "__repr__")) (hx_bound sp ?_)
  refine wpAny_call (codeAny_call_builtin F.excStr_Exception.repr.plain F.entry_bexc_repr ?_)
  refine @PySem.W.check_slot (model prog w) _ _ s "BaseException.__repr__" "BaseException" "__repr__" (.ref e) [] [] _ (by decide +kernel) (by decide +kernel) hi (F.args_bexc_repr _) ?_
  refine hx_body (base := 0) X x R (by rw [Nat.zero_add]; exact hb) (g := []) hg (Clear.nil t0) (by show A.units + 1 + 1 + 1 < cLine; omega) (fun _ _ q => q) fun h' u tk hk => ?_
  exact wpAny_bind (wpAny_isInstance (T := "str") (b := true) rfl isSubtype_str_str (wpAny_pure ⟨_, rfl, hQ h' u tk hk⟩))
end
end PySem
/-! any value of the law's: what it is as data, where it stands, its repr -/
namespace Hu
open PySem PySem.Spec PyProof.Rows L2
/-- data: dct us is {'a': [us], 1: None}, exc an error of the one class -/
inductive U where
  | non | bl (b : Bool) | int (i : Int) | str (z : Str) | tup (us : List U) | lst (us : List U) | dct (us : List U) | exc
/-- an error of the class C as it stands at a, its arguments at t -/
def ExN (C t a : Addr) : HO := .ext fun h => ∃ o vs, h.get? a = some o ∧ o.cls = .ref C ∧ o.data = .fields vs ∧ vs[0]? = some (.ref t) ∧ o.dict = none
mutual
/-- the value v is the data u; all that it stands in is tracked, and isn't w -/
inductive At (w C : Addr) (H : Hp) : V → U → Prop
  | non : At w C H .non .non
  | bl (b : Bool) : At w C H (.bl b) (.bl b)
  | int (i : Int) : At w C H (.int i) (.int i)
  | str (z : Str) : At w C H (.str z) (.str z)
  | tup {a : Addr} {xs : List V} {us : List U} : H a = some (.tup xs) → a ≠ w → AtL w C H xs us → At w C H (.ref a) (.tup us)
  | lst {a : Addr} {xs : List V} {us : List U} : H a = some (.lst xs) → a ≠ w → AtL w C H xs us → At w C H (.ref a) (.lst us)
  | dct {a b : Addr} {xs : List V} {us : List U} : H a = some (.dK [(.inr "a", .ref b), (.inl 1, .non)]) → a ≠ w → H b = some (.lst xs) → b ≠ w → AtL w C H xs us → At w C H (.ref a) (.dct us)
  | exc {a t : Addr} : H a = some (ExN C t a) → a ≠ w → H t = some (.tup []) → t ≠ w → At w C H (.ref a) .exc
inductive AtL (w C : Addr) (H : Hp) : List V → List U → Prop
  | nil : AtL w C H [] []
  | cons {v : V} {u : U} {vs : List V} {us : List U} : At w C H v u → AtL w C H vs us → AtL w C H (v :: vs) (u :: us)
end
section
variable {w C : Addr} {H H' : Hp}
mutual
theorem At.keep (k : ∀ b o, b ≠ w → H b = some o → H' b = some o) : ∀ {u : U} {v : V}, At w C H v u → At w C H' v u
  | _, _, .non => .non
  | _, _, .bl b => .bl b
  | _, _, .int i => .int i
  | _, _, .str z => .str z
  | _, _, .tup h n l => .tup (k _ _ n h) n (AtL.keep k l)
  | _, _, .lst h n l => .lst (k _ _ n h) n (AtL.keep k l)
  | _, _, .dct h n h2 n2 l => .dct (k _ _ n h) n (k _ _ n2 h2) n2 (AtL.keep k l)
  | _, _, .exc h n h2 n2 => .exc (k _ _ n h) n (k _ _ n2 h2) n2
theorem AtL.keep (k : ∀ b o, b ≠ w → H b = some o → H' b = some o) : ∀ {us : List U} {vs : List V}, AtL w C H vs us → AtL w C H' vs us
  | _, _, .nil => .nil
  | _, _, .cons x l => .cons (x.keep k) (AtL.keep k l)
end
theorem key_ne : ([((.inr "a" : Key), V.ref 0)] : List (Key × V)) ≠ [] := fun e => by cases e
mutual
theorem At.one : ∀ {u u' : U} {v : V}, At w C H v u → At w C H v u' → u = u'
  | _, _, _, .non, y => by cases y; rfl
  | _, _, _, .bl b, y => by cases y; rfl
  | _, _, _, .int i, y => by cases y; rfl
  | _, _, _, .str z, y => by cases y; rfl
  | _, _, _, .tup h n l, y => by
    cases y with
    | tup h' _ l' => rw [h] at h'; cases h'; rw [AtL.one l l']
    | lst h' _ _ => rw [h] at h'; cases h'
    | dct h' _ _ _ _ => rw [h] at h'; cases h'
    | exc h' _ _ _ => rw [h] at h'; cases h'
  | _, _, _, .lst h n l, y => by
    cases y with
    | tup h' _ l' => rw [h] at h'; cases h'
    | lst h' _ l' => rw [h] at h'; cases h'; rw [AtL.one l l']
    | dct h' _ _ _ _ => rw [h] at h'; cases h'
    | exc h' _ _ _ => rw [h] at h'; cases h'
  | _, _, _, .dct h n h2 n2 l, y => by
    cases y with
    | tup h' _ l' => rw [h] at h'; cases h'
    | lst h' _ l' => rw [h] at h'; cases h'
    | dct h' _ h2' _ l' =>
      rw [h] at h'
      cases h'
      rw [h2] at h2'
      cases h2'
      rw [AtL.one l l']
    | exc h' _ _ _ => rw [h] at h'; cases h'
  | _, _, _, .exc h n _ _, y => by
    cases y with
    | tup h' _ l' => rw [h] at h'; cases h'
    | lst h' _ l' => rw [h] at h'; cases h'
    | dct h' _ _ _ _ => rw [h] at h'; cases h'
    | exc h' _ _ _ => rfl
theorem AtL.one : ∀ {us us' : List U} {vs : List V}, AtL w C H vs us → AtL w C H vs us' → us = us'
  | _, _, _, .nil, y => by cases y; rfl
  | _, _, _, .cons x l, y => by
    cases y with
    | cons x' l' => rw [At.one x x', AtL.one l l']
end
theorem AtL.length : ∀ {us : List U} {vs : List V}, AtL w C H vs us → vs.length = us.length
  | _, _, .nil => rfl
  | _, _, .cons x l => by rw [List.length_cons, List.length_cons, AtL.length l]
theorem AtL.get : ∀ {us : List U} {vs : List V} {i : Nat} {u : U}, AtL w C H vs us → us[i]? = some u → ∃ v, vs[i]? = some v ∧ At w C H v u
  | _, _, _, _, .nil, e => by simp at e
  | _, _, 0, _, .cons x l, e => by
    have := Option.some.inj e
    subst this
    exact ⟨_, rfl, x⟩
  | _, _, i + 1, _, .cons x l, e => AtL.get (i := i) l e
theorem AtL.append : ∀ {us us' : List U} {vs vs' : List V}, AtL w C H vs us → AtL w C H vs' us' → AtL w C H (vs ++ vs') (us ++ us')
  | _, _, _, _, .nil, y => y
  | _, _, _, _, .cons x l, y => .cons x (AtL.append l y)
theorem AtL.take : ∀ {us : List U} {vs : List V} (n : Nat), AtL w C H vs us → AtL w C H (vs.take n) (us.take n)
  | _, _, 0, _ => .nil
  | _, _, _ + 1, .nil => .nil
  | _, _, n + 1, .cons x l => .cons x (AtL.take n l)
theorem AtL.drop : ∀ {us : List U} {vs : List V} (n : Nat), AtL w C H vs us → AtL w C H (vs.drop n) (us.drop n)
  | _, _, 0, l => l
  | _, _, _ + 1, .nil => .nil
  | _, _, n + 1, .cons x l => AtL.drop n l
end
/-! ### its repr -/
mutual
def shown (nm : Str) : U → Str
  | .non => "None"
  | .bl b => if b then "True" else "False"
  | .int i => toString i
  | .str z => reprText z
  | .tup us => tupleText (shownL nm us)
  | .lst us => listText (shownL nm us)
  | .dct us => dictText [reprText "a" ++ ": " ++ listText (shownL nm us), (toString (1 : Int) : Str) ++ ": " ++ "None"]
  | .exc => nm ++ "()"
def shownL (nm : Str) : List U → List Str
  | [] => []
  | u :: us => shown nm u :: shownL nm us
end
mutual
def dep : U → Nat
  | .tup us | .lst us => depL us + 1
  | .dct us => depL us + 2
  | .exc => 3
  | _ => 0
def depL : List U → Nat
  | [] => 0
  | u :: us => max (dep u) (depL us)
end
mutual
/-- all its integers are small -/
def smallU : U → Prop
  | .int i => i.natAbs.log2 < 1920
  | .tup us | .lst us | .dct us => smallL us
  | _ => True
def smallL : List U → Prop
  | [] => True
  | u :: us => smallU u ∧ smallL us
end
end Hu
namespace Hu
open PySem PySem.Spec PyProof.Rows L2
section
variable {P : Program} {wd : World} {K : PySem.W.Frag} {w C : Addr} {H : Hp} {h₀ : Heap} {nm : Str}
/-- an empty tuple -/
def Emp (h : Heap) (b : Addr) : Prop := ∃ o m, h.get? b = some o ∧ o.cls = .type "tuple" ∧ o.data = .seq #[] m
def Inn (w C : Addr) (H : Hp) (h : Heap) (n : Nat) (bs : List Addr) : Prop := ∀ b ∈ bs, (∃ u, At w C H (.ref b) u ∧ dep u ≤ n) ∨ Emp h b
theorem Inn.mono {n m : Nat} {bs : List Addr} (x : Inn w C H h₀ n bs) (l : n ≤ m) : Inn w C H h₀ m bs := fun b hb => by
  rcases x b hb with ⟨u, a, d⟩ | e
  · exact .inl ⟨u, a, Nat.le_trans d l⟩
  · exact .inr e
theorem Inn.append {n : Nat} {bs cs : List Addr} (x : Inn w C H h₀ n bs) (y : Inn w C H h₀ n cs) : Inn w C H h₀ n (bs ++ cs) := fun b hb =>
  (List.mem_append.mp hb).elim (x b) (y b)
theorem Inn.not_mem {n : Nat} {bs : List Addr} {a : Addr} {u : U} (x : Inn w C H h₀ n bs) (y : At w C H (.ref a) u) (l : n < dep u) (e : ¬ Emp h₀ a) : a ∉ bs := fun hm => by
  rcases x a hm with ⟨u', y', l'⟩ | q
  · have := y.one y'
    subst this
    omega
  · exact e q
theorem Inn.cons {n : Nat} {bs : List Addr} {a : Addr} {u : U} (x : Inn w C H h₀ n bs) (y : At w C H (.ref a) u) (l : n ≤ dep u) : Inn w C H h₀ (dep u) (a :: bs) := fun b hb => by
  rcases List.mem_cons.mp hb with e | hb
  · subst e
    exact .inl ⟨u, y, Nat.le_refl _⟩
  · exact (x.mono l) b hb
theorem shownL_mem {us : List U} {t : Str} (h : t ∈ shownL nm us) : ∃ u ∈ us, t = shown nm u := by
  induction us with
  | nil => simp [shownL] at h
  | cons u us ih =>
    rw [shownL] at h
    rcases List.mem_cons.mp h with e | h
    · exact ⟨u, List.mem_cons_self, e⟩
    · obtain ⟨x, hx, e⟩ := ih h
      exact ⟨x, List.mem_cons_of_mem _ hx, e⟩
/-- the repr of a list of items within a list object at b -/
theorem list_reprs {b : Addr} {xs : List V} {its : List Value} {us : List U} {bs : List Addr} {n d : Nat} (hb : h₀.get? b = some { cls := .type "list", data := .seq its.toArray n }) (hna : b ∉ bs)
    (hk : ReprAllK P wd bs h₀ d its (shownL nm us)) : ReprK P wd (b :: bs) h₀ (d + 1) (.ref b) (listText (shownL nm us)) := by
  cases its with
  | nil =>
    cases us with
    | nil =>
      show ReprK P wd (b :: bs) h₀ (d + 1) (.ref b) (listText [])
      rw [listText_nil]
      exact ReprK.listEmpty hb rfl rfl
    | cons u us => rw [shownL] at hk; cases hk
  | cons x l => exact ReprK.list hb rfl rfl hna (by simpa using hk.length_eq) (fun i y e => hk.item i y (by simpa using e))
theorem rep_tup (ok : HOk P wd H h₀) {a : Addr} {xs : List V} {us : List U} (h : H a = some (.tup xs)) (n : a ≠ w) (l : AtL w C H xs us)
    (rec : ∀ its, Vals xs its → ∃ bs, Inn w C H h₀ (depL us) bs ∧ ReprAllK P wd bs h₀ (depL us) its (shownL nm us)) :
    ∃ bs, Inn w C H h₀ (dep (.tup us)) bs ∧ ReprK P wd bs h₀ (dep (.tup us)) (.ref a) (shown nm (.tup us)) := by
  obtain ⟨_, its, rv, o, h1, h2, m, h3⟩ := ok a _ h
  obtain ⟨bs, hb, hk⟩ := rec its rv
  have y : At w C H (.ref a) (.tup us) := .tup h n l
  have hd : depL us < dep (.tup us) := by simp only [dep]; omega
  by_cases e : its = []
  · subst e
    have hl := rv.length
    have hu := AtL.length l
    have ex : us = [] := List.length_eq_zero_iff.mp (by rw [← hu, hl]; rfl)
    subst ex
    refine ⟨[a], fun b hb => .inl ⟨_, by rw [List.mem_singleton.mp hb]; exact y, Nat.le_refl _⟩, ?_⟩
    simp only [shown, dep]
    exact ReprK.tuple (as := []) h1 h2 h3 (by simp) (by rw [shownL]; exact .nil)
  · have hna : a ∉ bs := hb.not_mem y hd fun ⟨o', m', q1, q2, q3⟩ => by
      rw [h1] at q1
      cases q1
      rw [h3] at q3
      injection q3 with q3 _
      exact e (by simpa using congrArg Array.toList q3)
    refine ⟨a :: bs, hb.cons y (Nat.le_of_lt hd), ?_⟩
    simp only [shown, dep]
    exact ReprK.tuple h1 h2 h3 hna (by simpa using hk)
theorem rep_lst (ok : HOk P wd H h₀) {a : Addr} {xs : List V} {us : List U} (h : H a = some (.lst xs)) (n : a ≠ w) (l : AtL w C H xs us)
    (rec : ∀ its, Vals xs its → ∃ bs, Inn w C H h₀ (depL us) bs ∧ ReprAllK P wd bs h₀ (depL us) its (shownL nm us)) :
    ∃ bs, Inn w C H h₀ (dep (.lst us)) bs ∧ ReprK P wd bs h₀ (dep (.lst us)) (.ref a) (shown nm (.lst us)) := by
  obtain ⟨_, its, m, rv, h1⟩ := ok a _ h
  obtain ⟨bs, hb, hk⟩ := rec its rv
  have y : At w C H (.ref a) (.lst us) := .lst h n l
  have hd : depL us < dep (.lst us) := by simp only [dep]; omega
  have hna : a ∉ bs := hb.not_mem y hd fun ⟨o', m', q1, q2, q3⟩ => by
    rw [h1] at q1
    cases q1
    simp at q2
  refine ⟨a :: bs, hb.cons y (Nat.le_of_lt hd), ?_⟩
  simp only [shown, dep]
  exact list_reprs (xs := []) h1 hna hk
theorem pairs2 {el : List DictEntry} {k1 k2 : Key} {x1 x2 : Value} (g : Pairs (mixKind P wd) el [(k1, x1), (k2, x2)]) : ∃ e1 e2 : DictEntry, el = [e1, e2] ∧ keyIs k1 e1.key = true ∧ e1.val = x1 ∧ keyIs k2 e2.key = true ∧ e2.val = x2 := by
  cases g with
  | cons a1 b1 g =>
    cases g with
    | cons a2 b2 g =>
      cases g
      exact ⟨_, _, rfl, a1, b1, a2, b2⟩
theorem kv2 {k1 k2 : Key} {v1 v2 : V} {vs : List (Key × Value)} (kv : KV [(k1, v1), (k2, v2)] vs) : ∃ x1 x2, vs = [(k1, x1), (k2, x2)] ∧ RelV v1 x1 ∧ RelV v2 x2 := by
  cases kv with
  | @cons _ q1 _ _ r1 kv =>
    cases kv with
    | @cons _ q2 _ _ r2 kv =>
      cases kv
      obtain ⟨a1, b1⟩ := q1
      obtain ⟨a2, b2⟩ := q2
      obtain ⟨e1, r1⟩ := r1
      obtain ⟨e2, r2⟩ := r2
      cases e1
      cases e2
      exact ⟨_, _, rfl, r1, r2⟩
theorem dct_parts (ok : HOk P wd H h₀) {a b : Addr} {xs : List V} {us : List U} (h : H a = some (.dK [(.inr "a", .ref b), (.inl 1, .non)])) (n : a ≠ w) (h2 : H b = some (.lst xs)) (n2 : b ≠ w) (l : AtL w C H xs us)
    (rec : ∀ its, Vals xs its → ∃ bs, Inn w C H h₀ (depL us) bs ∧ ReprAllK P wd bs h₀ (depL us) its (shownL nm us)) :
    ∃ bs o es ep, Inn w C H h₀ (depL us + 1) bs ∧ a ∉ bs ∧ h₀.get? a = some o ∧ o.cls = .type "dict" ∧ o.data = .dict es ep ∧ (a == sysModules) = false ∧
      ReprEntriesK P wd bs h₀ (depL us + 1) es.toList [reprText "a" ++ ": " ++ listText (shownL nm us), (toString (1 : Int) : Str) ++ ": " ++ "None"] := by
  obtain ⟨bs, hB, kb⟩ := rep_lst ok h2 n2 l rec
  have y : At w C H (.ref a) (.dct us) := .dct h n h2 n2 l
  have hda : dep (.lst us) < dep (.dct us) := by simp only [dep]; omega
  obtain ⟨_, hsys, vs, kv, o, es, ep, g1, g2, g3, _, g4, _⟩ := ok a _ h
  have hna : a ∉ bs := hB.not_mem y hda fun ⟨o', m', q1, q2, q3⟩ => by
    rw [g1] at q1
    cases q1
    rw [g3] at q3
    cases q3
  obtain ⟨x1, x2, rfl, r1, r2⟩ := kv2 kv
  cases r1
  cases r2
  obtain ⟨e1, e2, ee, a1, b1, a2, b2⟩ := pairs2 g4
  simp only [shown, dep] at kb hB
  refine ⟨bs, o, es, ep, hB, hna, g1, g2.1, g3, hsys, ?_⟩
  rw [ee]
  rcases keyIs_shape a1 with ⟨i, t, q, _⟩ | ⟨z, t, q, ek⟩
  · cases q
  · cases q
    rcases keyIs_shape a2 with ⟨i, t', q, ek2⟩ | ⟨z, t', q, _⟩
    · cases q
      refine .cons ?_ ?_ (.cons ?_ ?_ .nil)
      · rw [ek]
        exact .of_is (ReprIs.str _ t (by rw [sizeLine_eq]; decide +kernel)) _ _ _
      · rw [b1]
        exact kb
      · rw [ek2]
        exact .of_is (ReprIs.int t' (by decide)) _ _ _
      · rw [b2]
        exact .of_is ReprIs.none _ _ _
    · cases q
theorem rep_dct (ok : HOk P wd H h₀) {a b : Addr} {xs : List V} {us : List U} (h : H a = some (.dK [(.inr "a", .ref b), (.inl 1, .non)])) (n : a ≠ w) (h2 : H b = some (.lst xs)) (n2 : b ≠ w) (l : AtL w C H xs us)
    (rec : ∀ its, Vals xs its → ∃ bs, Inn w C H h₀ (depL us) bs ∧ ReprAllK P wd bs h₀ (depL us) its (shownL nm us)) :
    ∃ bs, Inn w C H h₀ (dep (.dct us)) bs ∧ ReprK P wd bs h₀ (dep (.dct us)) (.ref a) (shown nm (.dct us)) := by
  obtain ⟨bs, o, es, ep, hB, hna, g1, g2, g3, hsys, hE⟩ := dct_parts ok h n h2 n2 l rec
  refine ⟨a :: bs, hB.cons (.dct h n h2 n2 l) (by simp only [dep]; omega), ?_⟩
  simp only [shown, dep]
  exact ReprK.dict (d := depL us + 1) g1 g2 g3 hsys hna hE
theorem exc_at (ok : HOk P wd H h₀) {a t : Addr} (h : H a = some (ExN C t a)) (h2 : H t = some (.tup [])) : HxExc C a t h₀ := by
  obtain ⟨⟨o, vs, q1, q2, q3, q4, q5⟩, _, _⟩ := ok a _ h
  obtain ⟨_, its, rv, o', g1, g2, m, g3⟩ := ok t _ h2
  cases rv
  exact ⟨⟨o, vs, q1, q2, q3, q4, q5⟩, o', m, g1, g2, g3⟩
theorem rep_exc (ok : HOk P wd H h₀) (X : K.In h₀) (R : HxRepr K C nm) {a t : Addr} (h : H a = some (ExN C t a)) (n : a ≠ w) (h2 : H t = some (.tup [])) (n2 : t ≠ w) : ∃ bs, Inn w C H h₀ (dep .exc) bs ∧ ReprK P wd bs h₀ (dep .exc) (.ref a) (shown nm .exc) := by
  have hx := exc_at ok h h2
  refine ⟨[a, t], fun b hb => ?_, ?_⟩
  · rcases List.mem_cons.mp hb with e | hb
    · subst e
      exact .inl ⟨.exc, .exc h n h2 n2, Nat.le_refl _⟩
    · rw [List.mem_singleton.mp hb]
      obtain ⟨_, o, m, q1, q2, q3⟩ := hx
      exact .inr ⟨o, m, q1, q2, q3⟩
  · simp only [shown, dep]
    exact hx_repr X hx R (fun _ h => nomatch h)
theorem rep_cons {u : U} {us : List U} {x : Value} {xs : List Value} (h1 : ∃ bs, Inn w C H h₀ (dep u) bs ∧ ReprK P wd bs h₀ (dep u) x (shown nm u)) (h2 : ∃ bs, Inn w C H h₀ (depL us) bs ∧ ReprAllK P wd bs h₀ (depL us) xs (shownL nm us)) :
    ∃ bs, Inn w C H h₀ (depL (u :: us)) bs ∧ ReprAllK P wd bs h₀ (depL (u :: us)) (x :: xs) (shownL nm (u :: us)) := by
  obtain ⟨b1, i1, k1⟩ := h1
  obtain ⟨b2, i2, k2⟩ := h2
  refine ⟨b1 ++ b2, ?_, ?_⟩
  · simp only [depL]
    exact (i1.mono (Nat.le_max_left _ _)).append (i2.mono (Nat.le_max_right _ _))
  · simp only [depL, shownL]
    exact .cons ((k1.more fun b hb => List.mem_append_left _ hb).level_le (Nat.le_max_left _ _)) (k2.more_le (fun b hb => List.mem_append_right _ hb) (Nat.le_max_right _ _))
theorem small_dct {us : List U} (hz : (shown nm (.dct us)).length ≤ sizeLine) : ∀ t ∈ shownL nm us, t.length ≤ sizeLine := fun t ht => by
  simp only [shown] at hz
  have hz1 := dictText_mem_le (ps := [reprText "a" ++ ": " ++ listText (shownL nm us), (toString (1 : Int) : Str) ++ ": " ++ "None"]) (List.mem_cons_self)
  rw [strLen_append] at hz1
  have := listText_mem_le ht
  omega
def Rp (P : Program) (wd : World) (w C : Addr) (H : Hp) (h₀ : Heap) (nm : Str) (u : U) : Prop := ∀ (v : V) (x : Value), At w C H v u → RelV v x → smallU u → (shown nm u).length ≤ sizeLine → ∃ bs, Inn w C H h₀ (dep u) bs ∧ ReprK P wd bs h₀ (dep u) x (shown nm u)
theorem list_rp : ∀ (us : List U) (vs : List V) (xs : List Value), (∀ u ∈ us, Rp P wd w C H h₀ nm u) → AtL w C H vs us → Vals vs xs → smallL us → (∀ t ∈ shownL nm us, t.length ≤ sizeLine) →
    ∃ bs, Inn w C H h₀ (depL us) bs ∧ ReprAllK P wd bs h₀ (depL us) xs (shownL nm us)
  | [], _, _, _, l, r, _, _ => by
    cases l
    cases r
    exact ⟨[], (fun _ h => nomatch h), by simp only [shownL]; exact .nil⟩
  | u :: us, _, _, ih, l, r, hs, hz => by
    cases l with
    | cons x l =>
      cases r with
      | cons rx rl =>
        simp only [smallL] at hs
        simp only [shownL] at hz
        exact rep_cons (ih u List.mem_cons_self _ _ x rx hs.1 (hz _ List.mem_cons_self)) (list_rp us _ _ (fun y hy => ih y (List.mem_cons_of_mem _ hy)) l rl hs.2 (fun t ht => hz t (List.mem_cons_of_mem _ ht)))
theorem dep_mem {us : List U} {u : U} (h : u ∈ us) : dep u ≤ depL us := by
  induction us with
  | nil => cases h
  | cons x us ih =>
    simp only [depL]
    rcases List.mem_cons.mp h with e | h
    · subst e
      exact Nat.le_max_left _ _
    · exact Nat.le_trans (ih h) (Nat.le_max_right _ _)
theorem rp_all (ok : HOk P wd H h₀) (X : K.In h₀) (R : HxRepr K C nm) : ∀ (n : Nat) (u : U), dep u ≤ n → Rp P wd w C H h₀ nm u := by
  intro n
  induction n with
  | zero =>
    intro u hd v x h r hs hz
    cases h with
    | non => cases r; exact ⟨[], (fun _ h => nomatch h), by simp only [shown]; exact .of_is ReprIs.none _ _ _⟩
    | bl b => cases r; exact ⟨[], (fun _ h => nomatch h), by simp only [shown]; exact .of_is (ReprIs.bool b) _ _ _⟩
    | int i => obtain ⟨t, rfl⟩ := r; exact ⟨[], (fun _ h => nomatch h), by simp only [shown]; exact .of_is (ReprIs.int t (by simpa only [smallU] using hs)) _ _ _⟩
    | str z => obtain ⟨t, rfl⟩ := r; exact ⟨[], (fun _ h => nomatch h), by simp only [shown]; exact .of_is (ReprIs.str z t (by simpa only [shown] using hz)) _ _ _⟩
    | tup => simp only [dep] at hd; omega
    | lst => simp only [dep] at hd; omega
    | dct => simp only [dep] at hd; omega
    | exc => simp only [dep] at hd; omega
  | succ n ih =>
    intro u hd v x h r hs hz
    cases h with
    | non => cases r; exact ⟨[], (fun _ h => nomatch h), by simp only [shown]; exact .of_is ReprIs.none _ _ _⟩
    | bl b => cases r; exact ⟨[], (fun _ h => nomatch h), by simp only [shown]; exact .of_is (ReprIs.bool b) _ _ _⟩
    | int i => obtain ⟨t, rfl⟩ := r; exact ⟨[], (fun _ h => nomatch h), by simp only [shown]; exact .of_is (ReprIs.int t (by simpa only [smallU] using hs)) _ _ _⟩
    | str z => obtain ⟨t, rfl⟩ := r; exact ⟨[], (fun _ h => nomatch h), by simp only [shown]; exact .of_is (ReprIs.str z t (by simpa only [shown] using hz)) _ _ _⟩
    | @tup a xs us h1 n1 l =>
      cases r
      simp only [dep] at hd
      exact rep_tup ok h1 n1 l fun its rv => list_rp us _ _ (fun y hy => ih y (by have := dep_mem hy; omega)) l rv (by simpa only [smallU] using hs) (fun t ht => Nat.le_trans (tupleText_mem_le ht) (by simpa only [shown] using hz))
    | @lst a xs us h1 n1 l =>
      cases r
      simp only [dep] at hd
      exact rep_lst ok h1 n1 l fun its rv => list_rp us _ _ (fun y hy => ih y (by have := dep_mem hy; omega)) l rv (by simpa only [smallU] using hs) (fun t ht => Nat.le_trans (listText_mem_le ht) (by simpa only [shown] using hz))
    | @dct a b xs us h1 n1 h2 n2 l =>
      cases r
      simp only [dep] at hd
      exact rep_dct ok h1 n1 h2 n2 l fun its rv => list_rp us _ _ (fun y hy => ih y (by have := dep_mem hy; omega)) l rv (by simpa only [smallU] using hs) (small_dct hz)
    | exc h1 n1 h2 n2 =>
      cases r
      exact rep_exc ok X R h1 n1 h2 n2
end
end Hu
/-! a def run where the guards around it are known to be none: for what asks for a repr -/
namespace Gd
open PySem PySem.Spec PyProof.Rows L2
/-- one run of a def's body, at one place -/
theorem run_at {CX : CXT} {P : Program} {wd : World} {F : PySem.W.Frag} {mg : Str → Option Value} {base : Heap} {k : Nat} {fa : Addr} {nm qn : Str} {prm : Arguments} {code : List Stmt} {sc : Scope} {d1 d2 d3 d4 d5 d6 d7 : Value} {an od : Option Addr}
    {slots : Array (Option Value)} {N ps : List Str} (at_f : F.lookup fa = some ⟨d7, od, .func (PySem.W.fnOf nm qn prm code sc d1 d2 d3 d4 an d5 d6), slots⟩) (rec : PySem.W.codeIn F d5 qn = true) (sco : FnScope N ps sc)
    {A : Around} {outer : List Env} {s : Shared} {H : Hp} {args : Args} {us : List Value} {vs : List V} {Q : VK} {E : XK} (room : Room (k + 1) A) (ev : Env0 P wd F mg base A outer s H) (bd : BindsTo s (PySem.W.fnOf nm qn prm code sc d1 d2 d3 d4 an d5 d6) args (ps.zip us))
    (rv : Vals vs us) (len : vs.length = ps.length) (body : Room k (A.deeper (envOfC qn sc s.heap.objs.size fa d5)) → ∃ t, PSs (cxOf CX P wd F mg base N qn sc fa d5 A outer s H E) code t ∧ t { nx := fun _ H' => Q .non H', rt := Q } (start N vs) H) :
    codeAny (model P wd) A (.call (.ref fa) args) (CR CX outer P wd H s Q E) s := by
  obtain ⟨t, body1, body2⟩ := body (room.deeper _)
  have inF : F.In s.heap := ev.mod.kin.keeps fun b o q => And.left (ev.bs b o q)
  have kinds : ∀ y ∈ ps.zip us, sc.names.lookup y.1 = some .local ∨ (sc.names.lookup y.1 = some .cell ∧ ((cellsFrom (s.heap.objs.size + 1) sc.names []).lookup y.1).isSome = true) := by
    rintro ⟨n, v⟩ hy
    rcases sco.par n (And.left (List.of_mem_zip hy)) with z | z
    · exact Or.inl z
    · exact Or.inr ⟨z, PySem.W.cellsFrom_some _ _ _ (Or.inl z)⟩
  refine codeAny_call_function room.depth (inF _ _ at_f) rfl sco.co sco.gen rfl (PySem.W.codeRec_of inF rec) (bd _ _ _ _ (wpAny_newFunctionEnv_cells sco.kind kinds fun env he s1 x => ?_))
  subst he
  have noLimit : s.heap.NoLimit := ev.mod.nolimit.keeps fun b o q => And.left (ev.bs b o q)
  refine ⟨noLimit.keeps x.toInCall.keep, codeAny_func (wpAny_mono (body1.run [] s1 (start N vs) H _ (inv_start sco room.hd ev len rv x) body2) (fun fl s' q => ?_) fun _ _ z => z)⟩
  cases fl with
  | ret u => obtain ⟨v, σ', H', J, r, q⟩ := q; exact ⟨v, H', J.os, J.bare, J.base, J.hok, r, q⟩
  | next => obtain ⟨σ', H', J, q⟩ := q; exact ⟨V.non, H', J.os, J.bare, J.base, J.hok, rfl, q⟩
  | brk => exact (Exists.elim q fun _ q => Exists.elim q fun _ q => q.2).elim
  | cont => exact (Exists.elim q fun _ q => Exists.elim q fun _ q => q.2).elim
/-- the end of a law's call: nothing that stood is changed -/
theorem law_end {P : Program} {wd : World} {s₁ s' : Shared} {H : Hp} {r : Result} (only : ∀ b, H b = none ∨ ∃ o xs, H b = some (.frz o (.lst xs))) (hok : HOk P wd H s₁.heap)
    (h : CR CX0 [] P wd H s₁ (fun v _ => v = .bl true) (fun _ _ _ => False) r s') : r = .ok (.ret (.bool true)) ∧ OldK s₁.heap s'.heap ∧ s'.os = s₁.os ∧ AllBare s'.gens := by
  match r, h with
  | .ok (.ret u), ⟨v, H', os, gens, un, ok2, ru, ev⟩ =>
    have ev : v = V.bl true := ev
    subst ev
    cases (show u = Value.bool true from ru)
    have none_in : ∀ b : Addr, b ∉ ([] : List Addr) := fun b => List.not_mem_nil
    refine ⟨rfl, OldK.of_keep fun b o e => ?_, os, gens⟩
    rcases only b with z | ⟨ob, xs, z⟩
    · exact un.keep b o e z (none_in b) (none_in b)
    · have here := (hok b _ z).1
      have there := (ok2 b _ (un.frzs b ob _ z)).1
      rw [e] at here
      cases here
      exact there
theorem law_at {P : Program} {wd : World} {F : PySem.W.Frag} {mg mb : Str → Option Value} {fa a : Addr} {s₁ : Shared} {vs : List Value} {ns : List Int} (inF : F.In s₁.heap) (main : s₁.heap.Ns mainGlobals mg) (bns : s₁.heap.Ns builtinsNs mb) (boot : ∀ x : Str, x ≠ "__name__" → mb x = bootBuiltins x)
    (lim : s₁.heap.NoLimit) (gens : s₁.gens = #[]) (script : s₁.heap.get? a = some { cls := .type "list", data := .seq vs.toArray }) (areI : IntsAre vs ns) (few : ns.length ≤ sizeLine)
    (go : ∀ (base : Heap) (H : Hp), F.In base → base.Ns mainGlobals mg → Env0 P wd F mg base callerA [] s₁ H → SqL F H a (ns.map V.int) → codeAny (model P wd) callerA (.call (.ref fa) ⟨[.ref a], []⟩) (CR CX0 [] P wd H s₁ (fun v _ => v = .bl true) (fun _ _ _ => False)) s₁) :
    codeAny (model P wd) callerA (.call (.ref fa) ⟨[.ref a], []⟩) (fun r s' => r = .ok (.ret (.bool true)) ∧ OldK s₁.heap s'.heap ∧ s'.os = s₁.os ∧ AllBare s'.gens) s₁ := by
  have rel := vals_ints areI
  have size := areI.length
  have main_case : ∀ H : Hp, (∀ b u, H b = some u → b = a ∧ F.lookup a = none ∧ u = .frz { cls := .type "list", data := .seq vs.toArray } (.lst (ns.map V.int))) → SqL F H a (ns.map V.int) →
      codeAny (model P wd) callerA (.call (.ref fa) ⟨[.ref a], []⟩) (fun r s' => r = .ok (.ret (.bool true)) ∧ OldK s₁.heap s'.heap ∧ s'.os = s₁.os ∧ AllBare s'.gens) s₁ := by
    intro H only sq
    have here : ∀ {b : Addr} {o : Obj}, s₁.heap.get? b = some o → (b = a → F.lookup a = none → False) → (hidT s₁.heap H).get? b = some o := fun {b o} e no => by
      refine hidT_get e ?_
      cases q : H b with
      | none => rfl
      | some u => exact (no (only b u q).1 (only b u q).2.1).elim
    have spaces : ∀ {b : Addr} {m : Str → Option Value}, s₁.heap.Ns b m → (hidT s₁.heap H).Ns b m := fun {b m} z => by
      obtain ⟨o, es, ep, e, d, r⟩ := z
      refine ⟨o, es, ep, here e (fun q _ => ?_), d, r⟩
      rw [q, script] at e
      cases e
      cases d
    have inB : F.In (hidT s₁.heap H) := fun b o e => here (inF b o e) fun q z => by
      rw [q, z] at e
      cases e
    have hok : HOk P wd H s₁.heap := fun b u e => by
      obtain ⟨rfl, _, rfl⟩ := only b u e
      exact ⟨script, by rw [List.length_map]; exact few, vs, _, rel, script⟩
    have env : Env0 P wd F mg (hidT s₁.heap H) callerA [] s₁ H :=
      ⟨rfl, ⟨inB, spaces main, ⟨mb, spaces bns, boot⟩, Exists.elim lim fun m z => ⟨m, spaces z.1, z.2⟩⟩, fun b o e => of_hidT e, Nat.le_of_eq (hidT_size _ _), trivial, fun b z => (List.not_mem_nil (show b ∈ ([] : List Addr) from z)).elim, hok, .of_eq gens⟩
    refine codeAny_mono (go _ H inB (spaces main) env sq) fun r s' z => law_end (fun b => ?_) hok z
    cases q : H b with
    | none => exact .inl rfl
    | some u => exact .inr ⟨_, _, congrArg some (only b u q).2.2⟩
  cases q : F.lookup a with
  | some o =>
    have e := (inF a o q).symm.trans script
    cases e
    exact main_case (fun _ => none) (fun _ _ z => by cases z) (.inr ⟨_, vs.toArray, _, q, rfl, rfl, rfl, by rw [List.size_toArray, size]; exact few, by simpa using rel⟩)
  | none =>
    refine main_case (fun b => if b = a then some (.frz { cls := .type "list", data := .seq vs.toArray } (.lst (ns.map V.int))) else none) (fun b u z => ?_) (.inl (.inr ⟨_, if_pos rfl⟩))
    by_cases e : b = a
    · have z2 := (if_pos e).symm.trans z
      exact ⟨e, q, (Option.some.inj z2).symm⟩
    · have z2 := (if_neg e).symm.trans z
      cases z2
/-- what the head leaves, from the law's run at the caller -/
theorem walk_at {l : PySem.W.OpenLaw} {n : Nat} {q : Program} {loose : List Str} {XP : (Str → Option Value) → Heap → Prop} {YP : World → Heap → Prop} {d : DefRec} {F : Params → PySem.W.Frag} (most : l.most = some n) (line : n ≤ sizeLine) (plain : d.params.defaults = [])
    (inF : ∀ (w : World) (h : Heap), YP w h → (F w.params).In h)
    (go : ∀ (w : World) (mg : Str → Option Value) (fa : Addr) (h : Heap), (F w.params).In h → h.Ns mainGlobals mg → mg d.name = some (.ref fa) →
      ∀ (s : Shared) (a : Addr) (ns : List Int) (base : Heap) (H : Hp), (F w.params).In base → base.Ns mainGlobals mg → Env0 l.prog w (F w.params) mg base callerA [] s H → SqL (F w.params) H a (ns.map V.int) →
        codeAny (model l.prog w) callerA (.call (.ref fa) ⟨[.ref a], []⟩) (CR CX0 [] l.prog w H s (fun v _ => v = .bl true) (fun _ _ _ => False)) s) :
    PySem.W.WalkO q loose XP YP l.row.toRowW d [] (fun f vs => PySem.call f vs) :=
  Att.attach_call most plain fun w s₀ s₁ mg mb fa o pm cd doc a vs ns G Y ho hd hcd hmg obj areI len gens =>
    law_at (inF w _ Y) G.T.g G.T.b G.T.builtins G.T.nolimit gens obj areI (Nat.le_trans len line) fun base H => go w mg fa _ (inF w _ Y) G.T.g hmg s₁ a ns base H
end Gd
namespace Hu
open PySem PySem.Spec PyProof.Rows L2
section
variable {X : Cx} {w C : Addr} {nm : Str}
/-- repr(x), any value of the law's, where nothing is shown around -/
theorem call_reprU {k : Nat} (room : Room k X.A) (bare : X.A.guards = some []) (R : HxRepr X.K C nm) :
    CallR X (.builtin "repr") (fun xs H Q => ∃ (v : V) (u : U) (w : Addr), xs = [v] ∧ At w C H v u ∧ smallU u ∧ dep u ≤ 60 ∧ (shown nm u).length ≤ sizeLine ∧ Q (.str (shown nm u)) H) := by
  intro pins s σ H xs us Q I r h
  obtain ⟨v, u, w, rfl, hat, hs, hd, hz, q⟩ := h
  obtain ⟨x, rfl, rx⟩ := vals1 r
  have hu := room.units
  have ok := I.hok
  have X0 := I.kIn
  have fin : ∀ (h' : Heap) (t : Tok) (tk : Nat), (∀ b o, s.heap.get? b = some o → h'.get? b = some o) → EP X pins σ Q (.str (shown nm u) t) { s with heap := h', toks := tk } := fun h' t tk kp =>
    ⟨.str (shown nm u), H, I.un (Un.kept kp) (I.hok.kept kp), ⟨t, rfl⟩, q⟩
  have rp : ∀ (us : List U) (vs : List V) (its : List Value), depL us ≤ 60 → AtL w C H vs us → Vals vs its → smallL us → (∀ t ∈ shownL nm us, t.length ≤ sizeLine) → ∃ bs, Inn w C H s.heap (depL us) bs ∧ ReprAllK X.prog X.w bs s.heap (depL us) its (shownL nm us) :=
    fun us vs its hd l rv hs hz => list_rp us vs its (fun y hy => rp_all ok X0 R 60 y (Nat.le_trans (dep_mem hy) hd)) l rv hs hz
  cases hat with
  | non =>
    cases rx
    simp only [shown] at fin
    exact PySem.P.repr_of_none (fin s.heap _ _ fun _ _ e => e)
  | bl b =>
    cases rx
    simp only [shown] at fin
    exact PySem.P.repr_of_bool (fin s.heap _ _ fun _ _ e => e)
  | int i =>
    obtain ⟨t, rfl⟩ := rx
    simp only [shown] at fin
    exact PySem.P.repr_of_int (by simpa only [smallU] using hs) (fin s.heap _ _ fun _ _ e => e)
  | str z =>
    obtain ⟨t, rfl⟩ := rx
    simp only [shown] at fin hz
    exact PySem.P.repr_of_str (fin s.heap _ _ fun _ _ e => e) hz
  | @tup a xs us h1 n1 l =>
    cases rx
    simp only [dep] at hd
    have hz' : (tupleText (shownL nm us)).length ≤ sizeLine := by simpa only [shown] using hz
    obtain ⟨_, its, rv, o, g1, g2, m, g3⟩ := ok a _ h1
    obtain ⟨bs, hb, hk⟩ := rp us xs its (by omega) l rv (by simpa only [smallU] using hs) (fun t ht => Nat.le_trans (tupleText_mem_le ht) hz')
    have hna : ∃ bs, a ∉ bs ∧ ReprAllK X.prog X.w bs s.heap (depL us) its (shownL nm us) := by
      by_cases e : its = []
      · subst e
        have hl := rv.length
        have ex : us = [] := List.length_eq_zero_iff.mp (by rw [← AtL.length l, hl]; rfl)
        subst ex
        exact ⟨[], by simp, by rw [shownL]; exact .nil⟩
      · refine ⟨bs, hb.not_mem (.tup h1 n1 l) (by simp only [dep]; omega) fun ⟨o', m', q1, q2, q3⟩ => ?_, hk⟩
        rw [g1] at q1
        cases q1
        rw [g3] at q3
        injection q3 with q3 _
        exact e (by simpa using congrArg Array.toList q3)
    obtain ⟨bs, hna, hk⟩ := hna
    simp only [shown] at fin
    exact call_repr_slot (by omega) ⟨o, g1, g2⟩ F.slot_tuple_repr (call_tuple_reprK g1 g2 g3 hna (by simpa using hk) (A := X.A.in1) bare (fun b _ => Clear.nil b) (by show X.A.units + 1 + _ < _; omega) (fun _ _ e => e) (fun h' u tk kp => ⟨_, _, rfl, fin h' u tk kp⟩) hz')
  | @lst a xs us h1 n1 l =>
    cases rx
    simp only [dep] at hd
    have hz' : (listText (shownL nm us)).length ≤ sizeLine := by simpa only [shown] using hz
    obtain ⟨_, its, m, rv, g1⟩ := ok a _ h1
    obtain ⟨bs, hb, hk⟩ := rp us xs its (by omega) l rv (by simpa only [smallU] using hs) (fun t ht => Nat.le_trans (listText_mem_le ht) hz')
    have hna : a ∉ bs := hb.not_mem (.lst h1 n1 l) (by simp only [dep]; omega) fun ⟨o', m', q1, q2, q3⟩ => by
      rw [g1] at q1
      cases q1
      simp at q2
    simp only [shown] at fin
    refine call_repr_slot (by omega) ⟨_, g1, rfl⟩ F.slot_list_repr.toG ?_
    cases its with
    | nil =>
      cases us with
      | nil =>
        simp only [shownL, listText_nil] at fin
        exact call_list_repr_empty ⟨_, g1, rfl⟩ g1 rfl ⟨_, _, rfl, fin s.heap _ _ fun _ _ e => e⟩
      | cons u us => rw [shownL] at hk; cases hk
    | cons y l2 =>
      exact call_list_reprK (A := X.A.in1) g1 rfl rfl hna (by simpa using hk.length_eq) (fun i y e => hk.item i y (by simpa using e)) bare (fun b _ => Clear.nil b) (by show X.A.units + 1 + _ < _; omega) (fun _ _ e => e) (fun h' u tk kp => ⟨_, _, rfl, fin h' u tk kp⟩) hz'
  | @dct a b xs us h1 n1 h2 n2 l =>
    cases rx
    simp only [dep] at hd
    have hz' : (dictText [reprText "a" ++ ": " ++ listText (shownL nm us), (toString (1 : Int) : Str) ++ ": " ++ "None"]).length ≤ sizeLine := by simpa only [shown] using hz
    obtain ⟨bs, o, es, ep, hB, hna, g1, g2, g3, hsys, hE⟩ := dct_parts ok h1 n1 h2 n2 l fun its rv => rp us xs its (by omega) l rv (by simpa only [smallU] using hs) (small_dct hz)
    simp only [shown] at fin
    exact call_repr_slot (by omega) ⟨o, g1, g2⟩ F.slot_dict_repr (call_dict_reprK (A := X.A.in1) g1 g2 g3 hsys hna hE bare (fun b _ => Clear.nil b) (by show X.A.units + 1 + _ < _; omega) (fun _ _ e => e) (fun h' u tk kp => ⟨_, _, rfl, fin h' u tk kp⟩) hz')
  | exc h1 n1 h2 n2 =>
    cases rx
    have hx := exc_at ok h1 h2
    simp only [shown] at fin hz
    exact hx_reprTop X0 hx R hz bare (by omega) fin
end
end Hu
/-! isinstance of any value of the law's, and the error that it may be -/
namespace Hu
open PySem PySem.Spec PyProof.Rows L2
/-- the class of the errors among the values: how isinstance asks them, what repr tells -/
structure Xc (K : PySem.W.Frag) (mg : Str → Option Value) (x : Str) (C : Addr) (nm : Str) : Prop where
  g : mg x = some (.ref C)
  x : PySem.W.excIn K C [.type "ValueError", .type "Exception", .type "BaseException", .type "object"] "ValueError.__new__" = true
  k : PySem.W.keepIn K (.ref C) = true
  c : L2.ExcC K C
  r : HxRepr K C nm
  ki : PySem.W.kitOne K (.ref C) (.type "int") = some false
  kb : PySem.W.kitOne K (.ref C) (.type "bool") = some false
  ks : PySem.W.kitOne K (.ref C) (.type "str") = some false
  kt : PySem.W.kitOne K (.ref C) (.type "tuple") = some false
def tyU : U → String
  | .non => "NoneType"
  | .bl _ => "bool"
  | .int _ => "int"
  | .str _ => "str"
  | .tup _ => "tuple"
  | .lst _ => "list"
  | .dct _ => "dict"
  | .exc => "?"
def isS (S T : String) : Bool := S == T || (S == "bool" && T == "int")
/-- isinstance(u, T), T one of int, bool, str, tuple -/
def isT (u : U) (T : String) : Bool := isS (tyU u) T
theorem kit_is {S T : String} (hS : S ∈ ["NoneType", "bool", "int", "str", "tuple", "list", "dict"]) (hT : T ∈ ["int", "bool", "str", "tuple"]) : kitB S T = some (isS S T) := by
  have : (["NoneType", "bool", "int", "str", "tuple", "list", "dict"].all fun S => ["int", "bool", "str", "tuple"].all fun T => decide (kitB S T = some (isS S T))) = true := by decide +kernel
  exact of_decide_eq_true (List.all_eq_true.mp (List.all_eq_true.mp this S hS) T hT)
theorem ExN.inst {P : Program} {wd : World} {H : Hp} {h : Heap} {C a t : Addr} (ok : HOk P wd H h) (e : H a = some (ExN C t a)) : ∃ o, PySem.W.InstAt h a o C none := by
  obtain ⟨⟨o, vs, h1, h2, h3, _, h5⟩, _, _⟩ := ok a _ e
  refine ⟨o, ?_⟩
  obtain ⟨oc, od, oda, osl⟩ := o
  dsimp only at h2 h3 h5
  subst h2 h3 h5
  exact ⟨h1, rfl, rfl, trivial⟩
section
variable {X : Cx} {w C : Addr} {nm x : Str}
/-- isinstance(v, T) -/
theorem call_isiU (T : String) (E : Xc X.K X.mg x C nm) (hT : T ∈ ["int", "bool", "str", "tuple"]) :
    CallR X (.builtin "isinstance") (fun xs H Q => ∃ (v : V) (u : U) (w : Addr), xs = [v, .ty T] ∧ At w C H v u ∧ Q (.bl (isT u T)) H) := by
  intro pins s σ H xs us Q I r h
  obtain ⟨v, u, w, rfl, hat, q⟩ := h
  have plain : ∀ S, TyX X.K H v (.type S) → kitB S T = some (isT u T) → wpAny (model X.prog X.w) X.A (call (.builtin "isinstance") us) (EP X pins σ Q) X.xe s := fun S ty kb =>
    call_isi pins s σ H _ us Q I r ⟨v, .ty T, .type S, .type T, isT u T, rfl, .ty T, ty, kit_ty kb, q⟩
  cases hat with
  | non => exact plain _ (.base .non) (kit_is (by simp) hT)
  | bl b => exact plain _ (.base (.bl b)) (kit_is (by simp) hT)
  | int i => exact plain _ (.base (.int i)) (kit_is (by simp) hT)
  | str z => exact plain _ (.base (.str z)) (kit_is (by simp) hT)
  | tup h _ _ => exact plain _ (.base (.tup h)) (kit_is (by simp) hT)
  | lst h _ _ => exact plain _ (.base (.lst h)) (kit_is (by simp) hT)
  | dct h _ _ _ _ => exact plain _ (.base (.dK h)) (kit_is (by simp) hT)
  | exc h n _ _ =>
    obtain ⟨u1, u2, rfl, r1, r2⟩ := vals2 r
    cases r1
    cases r2
    obtain ⟨o, J⟩ := ExN.inst I.hok h
    have c := E.c
    have e : PySem.W.kitOne X.K (.ref C) (.type T) = some false ∧ isT .exc T = false := by
      simp only [List.mem_cons, List.not_mem_nil, or_false] at hT
      rcases hT with rfl | rfl | rfl | rfl
      · exact ⟨E.ki, by decide +kernel⟩
      · exact ⟨E.kb, by decide +kernel⟩
      · exact ⟨E.ks, by decide +kernel⟩
      · exact ⟨E.kt, by decide +kernel⟩
    rw [e.2] at q
    exact PySem.W.kia_one (PySem.W.handS_kitx_exc c.hg c.hk c.hs c.hd c.ha c.hn c.ht c.hm) I.kIn J e.1 (fun z => nomatch z) fun tk => ⟨.bl false, H, I.tok tk, rfl, q⟩
/-- an error as a value: X() -/
theorem pe_exc0 {y : Str} {p pos : Pos} (E : Xc X.K X.mg y C nm) (hg : Gl X y) (hdb : (y == ("__debug__" : Str)) = false := by decide) :
    PE X (.Call (.Name y p) [] [] pos) (fun σ H Q => ∀ a t, H a = none → H t = none → a ≠ t → Q (.ref a) (upd (upd H t (.tup [])) a (ExN C t a))) := by
  refine ⟨fun pins s σ H Q I h => ?_⟩
  refine wpAny_Call_Name_kw (ld_glob I hg E.g ?_ hdb)
  refine PySem.W.callWith_K0 I.kIn E.k ?_
  show wpAny _ _ (call (.ref C) []) _ _ _
  obtain ⟨bm, N, nm, qn, bs, hdct, sn, sub, ab, col, dd, k0, k1, k2, k3, k5, mN, hC, hN, hni, T⟩ := exc_obj I.kIn E.x
  refine wpAny_call_exc_subT PySem.F.excBase_ValueError T hC hN hni (fun h' a hm => ?_) (Nat.zero_le _)
  have hn : H a = none := I.hok.gone hm.new
  obtain ⟨t, ht, htn, htt⟩ := hm.there
  have hn2 : H t = none := I.hok.gone htn
  have nat : a ≠ t := fun e => by
    rw [e, htt] at ht
    cases ht
  have na : upd H t (.tup []) a = none := by
    rw [upd_ne nat]
    exact hn
  have ok1 : HOk X.prog X.w (upd H t (.tup [])) h' := I.hok.laidN hm.keeps hn2 ⟨Nat.zero_le _, [], .nil, _, htt, rfl, _, rfl⟩
  have ok2 : HOk X.prog X.w (upd (upd H t (.tup [])) a (ExN C t a)) h' := ok1.laidN (fun _ _ q => q) na ⟨⟨_, _, ht, rfl, rfl, rfl, rfl⟩, ⟨_, ht⟩, fun _ _ ⟨o, vs, q, r⟩ k => ⟨o, vs, k o q, r⟩⟩
  have same : ∀ b o, H b = some o → upd (upd H t (.tup [])) a (ExN C t a) b = some o := fun b o q => by
    rw [upd_ne (ne_of_none q hn), upd_ne (ne_of_none q hn2)]
    exact q
  have I2 : Inv X pins σ (upd (upd H t (.tup [])) a (ExN C t a)) { s with heap := h' } := I.un (t' := s.toks)
    { keep := fun b u q _ _ _ => hm.keeps b u q
      slot := fun b u q _ _ _ => ⟨u.slots, hm.keeps b u q⟩
      free := fun b u q n _ => by
        rw [upd_ne (fun e => by rw [e, hm.new] at q; cases q), upd_ne (fun e => by rw [e, htn] at q; cases q)]
        exact n
      there := fun b u q _ => ⟨u, hm.keeps b u q⟩
      tups := fun b xs q => same b _ q
      frzs := fun b o u q => same b _ q
      tbls := fun b ps q => ⟨#[], by rw [same b _ q]; simp⟩ } ok2
  exact ⟨.ref a, _, I2, rfl, h a t hn hn2 nat⟩
end
end Hu
namespace Hs
open PySem PySem.Spec PyProof.Rows L2
def topS (i : Nat) : Stmt := PySem.Challenge.pw_homeshold_k09_letters_judged.main.body.getD i (.Pass ⟨0, 0, 0, 0⟩)
abbrev sMixed : Stmt := topS 46
abbrev sWell : Stmt := topS 47
abbrev sFilled : Stmt := topS 48
abbrev sDraw : Stmt := topS 49
/-! ### heaps -/
/-- all that was tracked stands as it was, but for what stands at w -/
def Keep (w : Addr) (H H' : Hp) : Prop := ∀ b o, b ≠ w → H b = some o → H' b = some o
theorem Keep.refl (w : Addr) (H : Hp) : Keep w H H := fun _ _ _ h => h
theorem Keep.trans {w : Addr} {H H1 H2 : Hp} (a : Keep w H H1) (b : Keep w H1 H2) : Keep w H H2 := fun c o n h => b c o n (a c o n h)
theorem Keep.of_same {w : Addr} {H H' : Hp} (s : Same H H') : Keep w H H' := fun b o _ h => s b o h
theorem Keep.updw {w : Addr} {H : Hp} {o : HO} : Keep w H (upd H w o) := fun b u n h => by
  rw [upd_ne n]
  exact h
theorem same_upd {H : Hp} {p : Addr} {o : HO} (h : H p = none) : Same H (upd H p o) := fun b x e => by
  rw [upd_ne (ne_of_none e h)]
  exact e
theorem Keep.new {w : Addr} {H : Hp} {p : Addr} {o : HO} (h : H p = none) : Keep w H (upd H p o) := .of_same (same_upd h)
/-- where a well stands: w the well, c its cells -/
structure WA where
  (w c : Addr)
/-- a well: a list of the cells, how many were taken, what is left of a cell, the mix -/
structure Well (H : Hp) (a : WA) : Prop where
  ex : ∃ (cells : List Int) (pos : Nat) (rest mix : Int), H a.w = some (.lst [.ref a.c, .int (pos : Int), .int rest, .int mix]) ∧ H a.c = some (.lst (cells.map V.int)) ∧ a.c ≠ a.w ∧ (cells.length ≤ 63)
/-- what a draw leaves -/
structure Drawn (a : WA) (H H' : Hp) : Prop where
  keep : Keep a.w H H'
  well : Well H' a
variable {a : WA} {H H' H1 H2 : Hp} {p : Addr} {o : HO}
theorem Drawn.refl (h : Well H a) : Drawn a H H := ⟨.refl _ _, h⟩
theorem Drawn.trans (x : Drawn a H H1) (y : Drawn a H1 H2) : Drawn a H H2 := ⟨x.keep.trans y.keep, y.well⟩
theorem Well.same (h : Well H a) (s : Same H H') : Well H' a := by
  obtain ⟨cells, pos, rest, mix, h1, h2, n, l⟩ := h.ex
  exact ⟨cells, pos, rest, mix, s _ _ h1, s _ _ h2, n, l⟩
theorem Drawn.same (x : Drawn a H H1) (y : Same H1 H2) : Drawn a H H2 := ⟨x.keep.trans (.of_same y), x.well.same y⟩
theorem Drawn.new (x : Drawn a H H1) (h : H1 p = none) : Drawn a H (upd H1 p o) := x.same (same_upd h)
theorem Well.at (h : Well H a) : ∃ o, H a.w = some o := by
  obtain ⟨cells, pos, rest, mix, h1, _⟩ := h.ex
  exact ⟨_, h1⟩
theorem Well.ne (h : Well H a) (n : H p = none) : p ≠ a.w ∧ p ≠ a.c := by
  obtain ⟨cells, pos, rest, mix, h1, h2, _⟩ := h.ex
  exact ⟨(ne_of_none h1 n).symm, (ne_of_none h2 n).symm⟩
theorem Drawn.free (e : Drawn a H H') (hw : Well H a) (h : H' p = Option.none) : H p = Option.none := by
  by_cases q : p = a.w
  · subst q
    obtain ⟨o, h1⟩ := e.well.at
    rw [h1] at h
    cases h
  · cases z : H p with
    | none => rfl
    | some o =>
      rw [e.keep p o q z] at h
      cases h
/-- what is new since H is written -/
theorem Drawn.put (x : Drawn a H H1) (hw : Well H a) (n : H p = none) : Drawn a H (upd H1 p o) := by
  obtain ⟨n1, n2⟩ := hw.ne n
  refine ⟨fun b u nb e => ?_, ?_⟩
  · rw [upd_ne (ne_of_none e n)]
    exact x.keep b u nb e
  · obtain ⟨cells, pos, rest, mix, h1, h2, n, l⟩ := x.well.ex
    exact ⟨cells, pos, rest, mix, by rw [upd_ne n1.symm]; exact h1, by rw [upd_ne n2.symm]; exact h2, n, l⟩
theorem Drawn.there (x : Drawn a H H1) (hw : Well H a) {u : HO} (n : p ≠ a.w) (e : H p = some u) : H1 p = some u := x.keep p u n e
/-- the names of the built-ins that the text leaves alone -/
structure Bt (mg : Str → Option Value) : Prop where
  int : mg "int" = none
  len : mg "len" = none
  range : mg "range" = none
  all : mg "all" = none
  isi : mg "isinstance" = none
  tup : mg "tuple" = none
  lst : mg "list" = none
  str : mg "str" = none
  max : mg "max" = none
  boo : mg "bool" = none
  sum : mg "sum" = none
  rep : mg "repr" = none
section
variable {P : Program} {w : World} {K : PySem.W.Frag} {mg : Str → Option Value} {base : Heap}
/-! ### the draws -/
def spMixed : Sp := fun vs H Q _ => ∃ n : Int, vs = [.int n] ∧ ∀ r : Int, Q (.int r) H
theorem scMixed : FnScope ["number"] ["number"] (defScope sMixed) := ⟨rfl, rfl, rfl, by decide +kernel, rfl, by decide +kernel, by decide +kernel⟩
theorem fmod_lt {a b : Int} (h : 0 < b) : 0 ≤ a.fmod b ∧ a.fmod b < b := by
  rw [Int.fmod_eq_emod_of_nonneg _ (Int.le_of_lt h)]
  exact ⟨Int.emod_nonneg _ (by omega), Int.emod_lt_of_pos _ h⟩
theorem nz {j : Int} (h : decide (j = 0) = false) : j ≠ 0 := of_decide_eq_false h
theorem ok_mixed {f : Addr} {fd : FuncData} (F : Fun K "_law_mixed" "_law_mixed" sMixed f fd) (B : Bt mg) : FnOk P w K mg base CX0 1 f fd ["number"] spMixed := by
  refine F.ok scMixed (fun vs H Q E h => ?_) (fun cdv A outer s H vs Q E hr h => ?_)
  · obtain ⟨n, rfl, _⟩ := h
    rfl
  · obtain ⟨n, rfl, k⟩ := h
    have hI := B.int
    refine ⟨_, pss_cons (ps_set (i := 0) scMixed.nd rfl (.inl rfl) (pe_op op_modN (pe_callTy call_int1 (by rfl) hI boot_int (pa_cons (pe_op op_add (pe_op op_mul (pv 0) pe_int) pe_int) pa_nil)) pe_int))
      (pss_cons (ps_set (i := 0) scMixed.nd rfl (.inl rfl) (pe_op op_modN (pe_callTy call_int1 (by rfl) hI boot_int (pa_cons (pe_op op_add (pe_op op_mul (pv 0) (pe_op op_add (pe_op op_fdivN (pv 0) pe_int) pe_int)) pe_int) pa_nil)) pe_int))
      (pss_one (ps_ret (pe_op op_add (pe_op op_mul (pv 0) pe_int) (pe_op op_modN (pe_callTy call_int1 (by rfl) hI boot_int (pa_cons (pe_op op_add (pe_op op_mul (pv 0) (pe_op op_add (pe_op op_fdivN (pv 0) pe_int) pe_int)) pe_int) pa_nil)) pe_int))))), ?_⟩
    refine ⟨_, rfl, _, _, rfl, rfl, .inr (by decide), _, _, rfl, rfl, .inl ⟨_, rfl, _, _, rfl, rfl, nz rfl, ?_⟩⟩
    have b1 := fmod_lt (a := n * 48271 + 11) (b := 2147483647) (by decide)
    refine ⟨_, rfl, _, rfl, _, _, rfl, rfl, ⟨by decide, by decide⟩, _, _, rfl, rfl, _, _, rfl, rfl, .inl ⟨by omega, by omega⟩, _, _, rfl, rfl, .inl ⟨_, rfl, _, _, rfl, rfl, nz rfl, ?_⟩⟩
    have b2 := fmod_lt (a := (n * 48271 + 11).fmod 2147483647 * (((n * 48271 + 11).fmod 2147483647).fdiv 1009 + 69621) + 7919) (b := 2147483647) (by decide)
    refine ⟨_, rfl, _, _, rfl, rfl, .inl ⟨by omega, by omega⟩, _, rfl, _, rfl, _, _, rfl, rfl, ⟨by decide, by decide⟩, _, _, rfl, rfl, _, _, rfl, rfl, .inl ⟨by omega, by omega⟩, _, _, rfl, rfl, .inl ⟨_, rfl, _, _, rfl, rfl, nz rfl, ?_⟩⟩
    exact ⟨_, _, rfl, rfl, k _⟩
/-- a def of the text, found by its name -/
structure Df (K : PySem.W.Frag) (mg : Str → Option Value) (x : Str) (st : Stmt) (ps : List Str) (f : Addr) (fd : FuncData) : Prop where
  F : Fun K x x st f fd
  b : Binds K fd ps []
  g : mg x = some (.ref f)
def spFilled : Sp := fun vs H Q _ => ∃ wl : WA, vs = [.ref wl.w] ∧ Well H wl ∧ ∀ (r : Int) (H' : Hp), Drawn wl H H' → Q (.int r) H'
theorem scFilled : FnScope ["well", "cell"] ["well"] (defScope sFilled) := ⟨rfl, rfl, rfl, by decide +kernel, rfl, by decide +kernel, by decide +kernel⟩
theorem ok_filled {f fM : Addr} {fd fdM : FuncData} (F : Fun K "_law_filled" "_law_filled" sFilled f fd) (B : Bt mg) (DM : Df K mg "_law_mixed" sMixed ["number"] fM fdM) : FnOk P w K mg base CX0 2 f fd ["well"] spFilled := by
  have GM : FnOk P w K mg base CX0 1 fM fdM ["number"] spMixed := ok_mixed DM.F B
  refine F.ok scFilled (fun vs H Q E h => ?_) (fun cdv A outer s H vs Q E hr h => ?_)
  · obtain ⟨n, rfl, _⟩ := h
    rfl
  · obtain ⟨wl, rfl, W, k⟩ := h
    have hI := B.int
    have hL := B.len
    refine ⟨_, pss_cons (ps_asg (pe_op op_add (pe_ix ix_list (pv 0) pe_int (fun _ _ => rfl)) pe_int) (pg_sub (pv 0) pe_int set_list))
      (pss_cons (ps_if (pt_cmpR op_le (pe_ix ix_list (pv 0) pe_int (fun _ _ => rfl)) (pe_callB call_len_seq (by rfl) hL PySem.boot_len (pa_cons (pe_ix ix_list (pv 0) pe_int (fun _ _ => rfl)) pa_nil)) (nomark _))
        (pss_cons (ps_set (i := 1) scFilled.nd rfl (.inl rfl) (pe_ix ix_list (pe_ix ix_list (pv 0) pe_int (fun _ _ => rfl)) (pe_op op_sub (pe_ix ix_list (pv 0) pe_int (fun _ _ => rfl)) pe_int) (fun _ _ => rfl)))
          (pss_cons (ps_asg (pe_op op_modN (pe_callTy call_int1 (by rfl) hI boot_int (pa_cons (pe_op op_add (pe_op op_add (pe_op op_mul (pe_ix ix_list (pv 0) pe_int (fun _ _ => rfl)) pe_int) (pv 1)) pe_int) pa_nil)) pe_int) (pg_sub (pv 0) pe_int set_list))
            (pss_cons (ps_if (pt_cmpR op_ge (pv 1) (pe_op op_pow pe_int pe_int) (nomark _)) (pss_one (ps_ret (pv 1))) pss_nil)
              (pss_one (ps_ret (pe_call GM hr (by rfl) DM.g DM.F.kp DM.b .nil pass0 (pa_cons (pe_op op_add (pv 1) (pe_op op_mul pe_int (pe_ix ix_list (pv 0) pe_int (fun _ _ => rfl)))) pa_nil))))))) pss_nil)
      (pss_one (ps_ret (pe_call GM hr (by rfl) DM.g DM.F.kp DM.b .nil pass0 (pa_cons (pe_op op_add (pe_ix ix_list (pv 0) pe_int (fun _ _ => rfl)) (pe_op op_mul pe_int (pe_ix ix_list (pv 0) pe_int (fun _ _ => rfl)))) pa_nil))))), ?_⟩
    obtain ⟨wl, c⟩ := wl
    obtain ⟨cells, pos, rest, mix, h1, h2, n, l⟩ := W.ex
    dsimp only at h1 h2 n
    refine ⟨_, rfl, wl, _, _, _, rfl, rfl, SqL.of h1, atI_nat (j := 1) rfl, _, _, rfl, rfl, ?_⟩
    refine ⟨_, rfl, wl, _, _, _, rfl, rfl, h1, rfl, ?_⟩
    have u1 := upd_same (H := H) (a := wl) (o := .lst [.ref c, .int ((pos : Int) + 1), .int rest, .int mix])
    have u2 : upd H wl (.lst [.ref c, .int ((pos : Int) + 1), .int rest, .int mix]) c = some (.lst (cells.map V.int)) := by
      rw [upd_ne n]
      exact h2
    refine ⟨_, rfl, wl, _, _, _, rfl, rfl, SqL.of u1, atI_nat (j := 1) rfl, _, rfl, wl, _, _, _, rfl, rfl, SqL.of u1, atI_nat (j := 0) rfl, c, _, rfl, .inl (SqL.of u2), _, _, rfl, rfl, _, rfl, ?_⟩
    refine ite2 (fun q => ?_) (fun q => ?_)
    · have q1 : (pos : Int) + 1 ≤ ((cells.map V.int).length : Int) := of_decide_eq_true q
      rw [List.length_map] at q1
      have q2 : pos < cells.length := by omega
      have e1 : (cells.map V.int)[pos]? = some (.int cells[pos]) := by
        rw [List.getElem?_map, List.getElem?_eq_getElem q2]
        rfl
      refine ⟨_, rfl, wl, _, _, _, rfl, rfl, SqL.of u1, atI_nat (j := 0) rfl, _, rfl, wl, _, _, _, rfl, rfl, SqL.of u1, atI_nat (j := 1) rfl, _, _, rfl, rfl, c, _, _, _, rfl, rfl, SqL.of u2, at_of (by omega) e1, ?_⟩
      refine ⟨_, rfl, wl, _, _, _, rfl, rfl, SqL.of u1, atI_nat (j := 3) rfl, _, _, rfl, rfl, .inr (by decide), _, rfl, _, _, rfl, rfl, _, _, rfl, rfl, .inl ⟨_, rfl, _, _, rfl, rfl, nz rfl, ?_⟩⟩
      refine ⟨_, rfl, wl, _, _, _, rfl, rfl, u1, rfl, ?_⟩
      have D : ∀ z : Int, Drawn ⟨wl, c⟩ H (upd (upd H wl (.lst [.ref c, .int ((pos : Int) + 1), .int rest, .int mix])) wl (.lst [.ref c, .int ((pos : Int) + 1), .int rest, .int z])) := fun z => by
        rw [upd_upd]
        refine ⟨.updw, ⟨cells, pos + 1, rest, z, ?_, ?_, n, l⟩⟩
        · exact upd_same
        · rw [upd_ne n]
          exact h2
      refine ⟨_, rfl, _, _, rfl, rfl, ⟨by decide, by decide, by decide⟩, _, _, rfl, rfl, _, rfl, ite2 (fun q => ?_) (fun q => ?_)⟩
      · exact ⟨_, rfl, k _ _ (D _)⟩
      · refine ⟨_, rfl, _, rfl, wl, _, _, _, rfl, rfl, SqL.of upd_same, atI_nat (j := 1) rfl, _, _, rfl, rfl, .inl (by decide), _, _, rfl, rfl, ?_⟩
        exact ⟨_, rfl, fun r => k _ _ (D _)⟩
    · have D : Drawn ⟨wl, c⟩ H (upd H wl (.lst [.ref c, .int ((pos : Int) + 1), .int rest, .int mix])) := ⟨.updw, ⟨cells, pos + 1, rest, mix, upd_same, u2, n, l⟩⟩
      refine ⟨_, rfl, wl, _, _, _, rfl, rfl, SqL.of u1, atI_nat (j := 3) rfl, _, rfl, wl, _, _, _, rfl, rfl, SqL.of u1, atI_nat (j := 1) rfl, _, _, rfl, rfl, .inl (by decide), _, _, rfl, rfl, ?_⟩
      exact ⟨_, rfl, fun r => k _ _ D⟩
def spDraw : Sp := fun vs H Q _ => ∃ (wl : WA) (m : Int), vs = [.ref wl.w, .int m] ∧ Well H wl ∧ 0 < m ∧ m < 2 ^ 62 ∧ ∀ (d : Int) (H' : Hp), 0 ≤ d → d < m → Drawn wl H H' → Q (.int d) H'
theorem scDraw : FnScope ["well", "many", "told"] ["well", "many"] (defScope sDraw) := ⟨rfl, rfl, rfl, by decide +kernel, rfl, by decide +kernel, by decide +kernel⟩
theorem ok_draw {f fM fF : Addr} {fd fdM fdF : FuncData} (F : Fun K "_law_draw" "_law_draw" sDraw f fd) (B : Bt mg) (DM : Df K mg "_law_mixed" sMixed ["number"] fM fdM) (DF : Df K mg "_law_filled" sFilled ["well"] fF fdF) : FnOk P w K mg base CX0 3 f fd ["well", "many"] spDraw := by
  have GF : FnOk P w K mg base CX0 2 fF fdF ["well"] spFilled := ok_filled DF.F B DM
  refine F.ok scDraw (fun vs H Q E h => ?_) (fun cdv A outer s H vs Q E hr h => ?_)
  · obtain ⟨n, m, rfl, _⟩ := h
    rfl
  · obtain ⟨wl, m, rfl, W, m0, m1, k⟩ := h
    have hI := B.int
    refine ⟨_, Evl.pss_cut (ps_if (pt_cmpR op_eq (pe_ix ix_list (pv 0) pe_int (fun _ _ => rfl)) pe_int (nomark _)) (pss_one (ps_asg (pe_call GF hr (by rfl) DF.g DF.F.kp DF.b .nil pass0 (pa_cons (pv 0) pa_nil)) (pg_sub (pv 0) pe_int set_list))) pss_nil)
      (pss_cons (ps_set (i := 2) scDraw.nd rfl (.inl rfl) (pe_op op_modN (pe_callTy call_int1 (by rfl) hI boot_int (pa_cons (pe_ix ix_list (pv 0) pe_int (fun _ _ => rfl)) pa_nil)) (pv 1)))
      (pss_cons (ps_asg (pe_op op_fdivW (pe_callTy call_int1 (by rfl) hI boot_int (pa_cons (pe_ix ix_list (pv 0) pe_int (fun _ _ => rfl)) pa_nil)) (pv 1)) (pg_sub (pv 0) pe_int set_list))
      (pss_one (ps_ret (pv 2))))), ?_⟩
    refine ⟨fun σ' H' => σ' = [some (.ref wl.w), some (.int m), none] ∧ Drawn wl H H', ?_, ?_⟩
    · obtain ⟨cells, pos, rest, mix, h1, h2, n, l⟩ := W.ex
      refine ⟨_, rfl, wl.w, _, _, _, rfl, rfl, SqL.of h1, atI_nat (j := 2) rfl, rfl, _, rfl, ite2 (fun q => ?_) (fun q => ⟨rfl, .refl W⟩)⟩
      refine ⟨_, rfl, wl, rfl, W, fun r H1 D => ?_⟩
      obtain ⟨cells, pos, rest, mix, h1, h2, n, l⟩ := D.well.ex
      refine ⟨_, rfl, wl.w, _, _, _, rfl, rfl, h1, rfl, rfl, D.keep.trans .updw, cells, pos, r, mix, upd_same, ?_, n, l⟩
      rw [upd_ne n]
      exact h2
    · rintro σ' H1 ⟨rfl, D⟩
      obtain ⟨cells, pos, rest, mix, h1, h2, n, l⟩ := D.well.ex
      have b1 := fmod_lt (a := rest) m0
      refine ⟨_, rfl, wl.w, _, _, _, rfl, rfl, SqL.of h1, atI_nat (j := 2) rfl, .inl ⟨_, rfl, _, rfl, _, _, rfl, rfl, (by show m ≠ 0; omega), ?_⟩⟩
      refine ⟨_, rfl, wl.w, _, _, _, rfl, rfl, SqL.of h1, atI_nat (j := 2) rfl, .inl ⟨_, rfl, _, rfl, _, _, rfl, rfl, wide_div m0 (b := 62) (by omega) (by decide) (by decide), ?_⟩⟩
      refine ⟨_, rfl, wl.w, _, _, _, rfl, rfl, h1, rfl, ?_⟩
      refine ⟨_, rfl, k _ _ b1.1 b1.2 ⟨D.keep.trans .updw, cells, pos, _, mix, upd_same, ?_, n, l⟩⟩
      rw [upd_ne n]
      exact h2
end
end Hs
namespace Hs
open PySem PySem.Spec PyProof.Rows L2
abbrev sIsInt : Stmt := topS 9
abbrev sFromOne : Stmt := topS 11
abbrev sPair : Stmt := topS 12
abbrev sIsSigns : Stmt := topS 13
abbrev sAscending : Stmt := topS 14
abbrev sHome : Stmt := topS 15
abbrev sHand : Stmt := topS 16
abbrev sName : Stmt := topS 17
abbrev sText : Stmt := topS 999
abbrev sPiece : Stmt := topS 18
abbrev sBlockId : Stmt := topS 19
abbrev sRow : Stmt := topS 20
abbrev sStamp : Stmt := topS 21
abbrev sHead : Stmt := topS 999
abbrev sMembers : Stmt := topS 22
abbrev sMajority : Stmt := topS 999
abbrev sFew : Stmt := topS 999
abbrev sChopped : Stmt := topS 999
abbrev sJoined : Stmt := topS 999
abbrev lNumber : Stmt := topS 50
abbrev sSigns : Stmt := topS 51
abbrev sString : Stmt := topS 52
abbrev lName : Stmt := topS 53
abbrev lAny : Stmt := topS 55
abbrev lNodes : Stmt := topS 56
abbrev lChanged : Stmt := topS 57
abbrev lSpoilt : Stmt := topS 58
abbrev lId : Stmt := topS 59
abbrev lStamp : Stmt := topS 60
abbrev lRow : Stmt := topS 61
abbrev lMembers : Stmt := topS 62
abbrev lCount : Stmt := topS 68
abbrev lLong : Stmt := topS 69
abbrev lRising : Stmt := topS 70
abbrev lNameFits : Stmt := topS 71
abbrev lHandFits : Stmt := topS 72
abbrev lSignsFit : Stmt := topS 73
abbrev lIdFits : Stmt := topS 74
abbrev lStampFits : Stmt := topS 75
abbrev lRowFits : Stmt := topS 76
abbrev lMembersFit : Stmt := topS 77
abbrev lThing : Stmt := topS 94
abbrev lFlagsDue : Stmt := topS 999
abbrev lFlagsTold : Stmt := topS 999
abbrev lCounted : Stmt := topS 999
abbrev lMembersHold : Stmt := topS 999
abbrev lTextRefused : Stmt := topS 999
abbrev lPiecesRefused : Stmt := topS 999
abbrev lPiecesFit : Stmt := topS 999
abbrev lLaw : Stmt := topS 106
/-- an own error class without an __init__, over ValueError -/
structure Ec (K : PySem.W.Frag) (mg : Str → Option Value) (x : Str) (C : Addr) : Prop where
  g : mg x = some (.ref C)
  x : PySem.W.excIn K C [.type "ValueError", .type "Exception", .type "BaseException", .type "object"] "ValueError.__new__" = true
  k : PySem.W.keepIn K (.ref C) = true
  b : PySem.W.subIn K (.ref C) (.type "BaseException") = some true
  t : PySem.W.typeIn K (.ref C) = some (.type "type")
  e : PySem.W.exmOne K (.ref C) (.ref C) = some true
section
variable {X : Cx} {C : Addr} {bmB : List Value} {B newId initId : String}
/-- X() -/
theorem pmk_own0 {x : Str} {p pos : Pos} (F : ExcBaseFacts B newId initId bmB) (q : PySem.W.excIn X.K C bmB newId = true) (gC : X.mg x = some (.ref C)) (kC : PySem.W.keepIn X.K (.ref C) = true) (r : Raises X (.ref C)) (hg : Gl X x)
    (hdb : (x == ("__debug__" : Str)) = false := by decide) : PMk X (.Call (.Name x p) [] [] pos) (fun _ H Q => Q (.ref C) none H) := by
  intro pins s σ H Q I h
  refine wpAny_Call_Name_kw (ld_glob I hg gC ?_ hdb)
  refine PySem.W.callWith_K0 I.kIn kC ?_
  show wpAny _ _ (call (.ref C) []) _ _ _
  obtain ⟨bm, N, nm, qn, bs, hdct, sn, sub, ab, col, dd, k0, k1, k2, k3, k5, mN, hC, hN, hni, T⟩ := exc_obj I.kIn q
  refine wpAny_call_exc_subT F T hC hN hni (fun h' e hm => ?_) (Nat.zero_le _)
  exact mk_of I hm r h (I.hok.gone hm.new)
end
/-! ### signs -/
def okc (c : Nat) : Bool := decide (32 ≤ c) && decide (c ≤ 126)
def okz (z : Str) : Bool := (TL.tl z).all okc
theorem lt1 (a b : Nat) : decide (([a] : List Nat) < [b]) = decide (a < b) := by
  by_cases h : a < b
  · rw [decide_eq_true h]
    exact decide_eq_true (List.cons_lt_cons_iff.mpr (.inl h))
  · rw [decide_eq_false h]
    refine decide_eq_false fun q => ?_
    rcases List.cons_lt_cons_iff.mp q with q | ⟨_, q⟩
    · exact h q
    · exact absurd q (List.not_lt_nil _)
theorem not_lt1 (a b : Nat) : (!decide (([b] : List Nat) < [a])) = decide (a ≤ b) := by
  rw [lt1]
  by_cases h : b < a
  · rw [decide_eq_true h, decide_eq_false (by omega)]
    rfl
  · rw [decide_eq_false h, decide_eq_true (by omega)]
    rfl
def bit : Nat := 1000000
theorem bit_line : bit < sizeLine := by
  rw [sizeLine_eq]
  decide
theorem boot_str : bootBuiltins "str" = some (.type "str") := by decide +kernel
theorem boot_tuple' : bootBuiltins "tuple" = some (.type "tuple") := by decide +kernel
theorem boot_isi : bootBuiltins "isinstance" = some (.builtin "isinstance") := by decide +kernel
theorem boot_all' : bootBuiltins "all" = some (.builtin "all") := by decide +kernel
theorem kit_ss : kitB "str" "str" = some true := by decide +kernel
theorem codes_get {z : Str} {i c : Nat} (h : z.cps[i]? = some c) : (TL.tl z)[i]? = some c := by
  show z.cps.toList[i]? = some c
  rw [Array.getElem?_toList]
  exact h
section
variable {P : Program} {w : World} {K : PySem.W.Frag} {mg : Str → Option Value} {base : Heap}
/-! ### the law's signs -/
def signsZ : Str := (" !\"#$&'()*+,-./0123456789:;<=>?@ABCDEFGHIJKLMNOPQRSTUVWXYZ[\\]^_`" : Str) ++ ("abcdefghijklmnopqrstuvwxyz{|}~" : Str)
def okS (c : Nat) : Bool := okc c && decide (c ≠ 37)
theorem signs_len : (TL.tl signsZ).length = 94 := by decide +kernel
theorem signs_ok : (TL.tl signsZ).all okS = true := by decide +kernel
theorem scSigns : FnScope ["signs"] [] (defScope sSigns) := ⟨rfl, rfl, rfl, by decide +kernel, rfl, by decide +kernel, by decide +kernel⟩
def spSigns : Sp := fun vs H Q _ => vs = [] ∧ Q (.str signsZ) H
theorem ok_signs {f : Addr} {fd : FuncData} (F : Fun K "_law_signs" "_law_signs" sSigns f fd) : FnOk P w K mg base CX0 1 f fd [] spSigns := by
  refine F.ok scSigns (fun vs H Q E h => ?_) (fun cdv A outer s H vs Q E hr h => ?_)
  · rw [h.1]
    rfl
  · obtain ⟨rfl, k⟩ := h
    refine ⟨_, pss_cons (ps_set (i := 0) scSigns.nd rfl (.inl rfl) pe_str) (pss_one (ps_ret (pe_op op_add_str (pv 0) pe_str))), ?_⟩
    exact ⟨_, rfl, _, _, rfl, rfl, (by rw [sizeLine_eq]; decide +kernel), k⟩
/-- a text of signs but the percent sign -/
def lawz (z : Str) : Prop := ∀ c ∈ TL.tl z, okS c = true
theorem lawz.ok {z : Str} (h : lawz z) : okz z = true := List.all_eq_true.mpr fun c hc => by
  have := h c hc
  unfold okS at this
  rw [Bool.and_eq_true] at this
  exact this.1
theorem sgn_tl (c : Nat) : TL.tl (⟨#[c]⟩ : Str) = [c] := rfl
theorem join_tl (zs : List Str) : TL.tl (Txt.join ("" : Str) zs) = (zs.map TL.tl).flatten := by
  rw [TL.join_eq, TL.tl_join]
  have e : TL.tl ("" : Str) = [] := rfl
  rw [e]
  generalize zs.map TL.tl = l
  induction l with
  | nil => rfl
  | cons p r ih =>
    cases r with
    | nil => simp [TL.joinL]
    | cons q r =>
      show p ++ ([] ++ TL.joinL [] (q :: r)) = _
      rw [ih]
      rfl
def spString : Sp := fun vs H Q _ => ∃ (wl : WA) (m : Int), vs = [.ref wl.w, .int m] ∧ Well H wl ∧ m ≤ 1000 ∧ -1000 ≤ m ∧ ∀ (z : Str) (H' : Hp), z.length = m.toNat → lawz z → Drawn wl H H' → Q (.str z) H'
theorem scString : FnScope ["well", "many", "signs", "k"] ["well", "many"] (defScope sString) := ⟨rfl, rfl, rfl, by decide +kernel, rfl, by decide +kernel, by decide +kernel⟩
/-- the defs that draw -/
structure Dr (P : Program) (w : World) (K : PySem.W.Frag) (mg : Str → Option Value) (base : Heap) (fM fF fD fG fT : Addr) (dM dF dD dG dT : FuncData) : Prop where
  M : Df K mg "_law_mixed" sMixed ["number"] fM dM
  F : Df K mg "_law_filled" sFilled ["well"] fF dF
  D : Df K mg "_law_draw" sDraw ["well", "many"] fD dD
  G : Df K mg "_law_signs" sSigns [] fG dG
  T : Df K mg "_law_string" sString ["well", "many"] fT dT
  B : Bt mg
theorem cell_strs {D : Addr} {H : Hp} {zs : List Str} (h : H D = some (.lst (zs.map V.str))) : SqL K H D (zs.map V.str) := SqL.of h
theorem ok_string {fM fF fD fG fT : Addr} {dM dF dD dG dT : FuncData} (R : Dr P w K mg base fM fF fD fG fT dM dF dD dG dT) : FnOk P w K mg base CX0 4 fT dT ["well", "many"] spString := by
  have GD : FnOk P w K mg base CX0 3 fD dD ["well", "many"] spDraw := ok_draw R.D.F R.B R.M R.F
  have GG : FnOk P w K mg base CX0 3 fG dG [] spSigns := (ok_signs R.G.F).mono (by decide)
  refine R.T.F.ok scString (fun vs H Q E h => ?_) (fun cdv A outer s H vs Q E hr h => ?_)
  · obtain ⟨n, m, rfl, _⟩ := h
    rfl
  · obtain ⟨wl, m, rfl, W, m1, m2, k⟩ := h
    have hR := R.B.range
    refine ⟨_, pss_cons (ps_set (i := 2) scString.nd rfl (.inr rfl) (pe_call0 GG hr (by rfl) R.G.g R.G.F.kp R.G.b .nil pass0))
      (pss_one (ps_ret (pe_join pe_str (pe_lc (own := [("k", 3)]) (g := gName 3) (tt := tYes) rfl scString.nd (pi_range1 (by rfl) hR (pa_cons (pv 1) pa_nil)) (blkOk_by (N := ["well", "many", "signs", "k"]) (sc := defScope sString) (by decide +kernel))
        (fun _ _ _ _ _ => pg_name (i := 3) scString.nd rfl (Or.inl rfl)) (fun _ _ _ _ _ => pts_nil)
        (fun _ _ _ _ _ => pe_ix ix_str (pv 2) (pe_call GD hr (by rfl) R.D.g R.D.F.kp R.D.b .nil pass0 (pa_cons (pv 0) (pa_cons pe_int pa_nil))) (fun _ _ => rfl)))))), ?_⟩
    refine ⟨rfl, ⟨_, rfl⟩, _, rfl, m, rfl, by omega, by omega, fun D hD => ?_⟩
    refine lc_range (lo := 0) (n := m.toNat) (fun i H' => Drawn wl H H' ∧ ∃ zs : List Str, H' D = some (.lst (zs.map V.str)) ∧ zs.length = i ∧ ∀ z ∈ zs, ∃ c, z = ⟨#[c]⟩ ∧ okS c = true)
      ⟨(Drawn.refl W).new hD, [], upd_same, rfl, fun z hz => by cases hz⟩ ?_ ?_
    · rintro i H1 hi ⟨D1, zs, hz, hl, hc⟩
      have nD := (W.ne hD).1
      refine ⟨rfl, _, rfl, _, rfl, wl, 94, rfl, D1.well, by decide, by decide, fun d H2 d0 d1 D2 => ?_⟩
      have hd : d.toNat < (TL.tl signsZ).length := by
        rw [signs_len]
        omega
      have ho : okS (TL.tl signsZ)[d.toNat] = true := List.all_eq_true.mp signs_ok _ (List.getElem_mem hd)
      refine ⟨signsZ, d, (TL.tl signsZ)[d.toNat], rfl, rfl, ?_, ?_, zs.map V.str, D2.keep D _ nD hz, ?_, ?_⟩
      · rw [TL.len_tl, signs_len, sizeLine_eq]
        decide
      · have e : d = ((d.toNat : Nat) : Int) := by omega
        have hg : (TL.tl signsZ)[d.toNat]? = some (TL.tl signsZ)[d.toNat] := List.getElem?_eq_getElem hd
        have := atI_nat hg
        rw [← e] at this
        exact this
      · rw [List.length_map]
        have := bit_line
        unfold bit at this
        omega
      · refine ⟨(D1.trans D2).put W hD, zs ++ [⟨#[(TL.tl signsZ)[d.toNat]]⟩], ?_, ?_, ?_⟩
        · rw [upd_same, List.map_append]
          rfl
        · rw [List.length_append, hl]
          rfl
        · intro z hz
          rcases List.mem_append.mp hz with hz | hz
          · exact hc z hz
          · exact ⟨_, List.mem_singleton.mp hz, ho⟩
    · rintro H1 ⟨D1, zs, hz, hl, hc⟩
      have hs : ∀ l : List Str, (∀ z ∈ l, ∃ c, z = ⟨#[c]⟩ ∧ okS c = true) → (l.map (·.length)).sum = l.length ∧ ((l.map TL.tl).flatten).length = l.length ∧ ∀ c ∈ (l.map TL.tl).flatten, okS c = true := by
        intro l
        induction l with
        | nil => exact fun _ => ⟨rfl, rfl, fun c hc => by cases hc⟩
        | cons a r ih =>
          intro h
          obtain ⟨i1, i2, i3⟩ := ih fun z hz => h z (List.mem_cons_of_mem _ hz)
          obtain ⟨c, ec, oc⟩ := h a List.mem_cons_self
          subst ec
          refine ⟨?_, ?_, ?_⟩
          · rw [List.map_cons, List.sum_cons, i1, List.length_cons]
            show 1 + r.length = r.length + 1
            omega
          · show (TL.tl (⟨#[c]⟩ : Str) ++ (r.map TL.tl).flatten).length = _
            rw [sgn_tl, List.length_append, i2, List.length_cons]
            show 1 + r.length = r.length + 1
            omega
          · intro b hb
            have hb' : b ∈ TL.tl (⟨#[c]⟩ : Str) ++ (r.map TL.tl).flatten := hb
            rcases List.mem_append.mp hb' with hb | hb
            · rw [sgn_tl] at hb
              rw [List.mem_singleton.mp hb]
              exact oc
            · exact i3 b hb
      obtain ⟨h1, h2, h3⟩ := hs zs hc
      refine ⟨_, D, zs, rfl, rfl, .inl (SqL.of hz), ?_, k _ _ ?_ ?_ D1⟩
      · show (zs.map (·.length)).sum + zs.length * 0 ≤ 16777216
        omega
      · rw [TL.len_tl, join_tl, h2, hl]
      · intro c hc
        rw [join_tl] at hc
        exact h3 c hc
/-! ### the well -/
def spWell (K : PySem.W.Frag) : Sp := fun vs H Q _ => ∃ (a : Addr) (ns : List Int), vs = [.ref a] ∧ SqL K H a (ns.map V.int) ∧ ∀ (wl : WA) (H' : Hp), Same H H' → Well H' wl → Q (.ref wl.w) H'
theorem scWell : FnScope ["script", "cell"] ["script"] (defScope sWell) := ⟨rfl, rfl, rfl, by decide +kernel, rfl, by decide +kernel, by decide +kernel⟩
theorem ok_well {f : Addr} {fd : FuncData} (F : Fun K "_law_well" "_law_well" sWell f fd) (B : Bt mg) : FnOk P w K mg base CX0 1 f fd ["script"] (spWell K) := by
  refine F.ok scWell (fun vs H Q E h => ?_) (fun cdv A outer s H vs Q E hr h => ?_)
  · obtain ⟨n, m, rfl, _⟩ := h
    rfl
  · obtain ⟨a, ns, rfl, hS, k⟩ := h
    have hI := B.int
    refine ⟨_, pss_one (ps_ret (pe_lst (pa_cons (pe_lc (own := [("cell", 1)]) (g := gName 1) (tt := tYes) rfl scWell.nd (pi_list (pe_slice sl_list (pv 0) po_none (po_some pe_int))) (blkOk_by (N := ["script", "cell"]) (sc := defScope sWell) (by decide +kernel))
        (fun _ _ _ _ _ => pg_name (i := 1) scWell.nd rfl (Or.inl rfl)) (fun _ _ _ _ _ => pts_nil) (fun _ _ _ _ _ => pe_callTy call_int1 (by rfl) hI boot_int (pa_cons (pv 1) pa_nil)))
      (pa_cons pe_int (pa_cons pe_int (pa_cons pe_int pa_nil)))))), ?_⟩
    refine ⟨_, rfl, _, rfl, a, _, rfl, hS, fun p hp => ?_⟩
    have ec : cutV (ns.map V.int) none (some 63) = (ns.take 63).map V.int := by
      unfold cutV
      rw [HT.sIx_none, show HT.sIx (ns.map V.int).length (ns.map V.int).length (some 63) = min 63 (ns.map V.int).length from HT.sIx_nat _ _ 63]
      show List.take (min 63 (ns.map V.int).length - 0) (List.drop 0 (ns.map V.int)) = _
      rw [List.drop_zero, Nat.sub_zero, List.map_take, List.take_eq_take_iff]
      omega
    rw [ec]
    have l63 : (ns.take 63).length ≤ 63 := by
      rw [List.length_take]
      omega
    clear ec
    generalize ns.take 63 = cs at l63
    have s1 : Same H (upd H p (.lst (cs.map V.int))) := same_upd hp
    refine ⟨p, rfl, ⟨_, SqL.of upd_same⟩, fun D hD => ?_⟩
    have nDp : p ≠ D := ne_of_none upd_same hD
    refine lc_list (K := K) (a := p) (xs := cs.map V.int) (fun i H' => Same H H' ∧ H' p = some (.lst (cs.map V.int)) ∧ H' D = some (.lst ((cs.take i).map V.int)))
      ⟨s1.trans (same_upd hD), by rw [upd_ne nDp, upd_same], upd_same⟩ (fun i H' _ p => SqL.of p.2.1) ?_ ?_
    · rintro i x H1 hi ⟨sm, h1, h2⟩
      rw [List.getElem?_map] at hi
      cases e : cs[i]? with
      | none =>
        rw [e] at hi
        cases hi
      | some n =>
        rw [e] at hi
        have ex := Option.some.inj hi
        subst ex
        have hl := (List.getElem?_eq_some_iff.mp e).1
        refine ⟨rfl, _, rfl, .inl ⟨_, rfl, _, h2, ?_, fun b o hb => ?_, ?_, ?_⟩⟩
        · rw [List.length_map, List.length_take]
          have := bit_line
          unfold bit at this
          omega
        · rw [upd_ne (ne_of_none hb (s1.free hD))]
          exact sm _ _ hb
        · rw [upd_ne nDp]
          exact h1
        · rw [upd_same, List.take_add_one, e, List.map_append]
          rfl
    · rintro H1 ⟨sm, h1, h2⟩
      rw [List.length_map, List.take_length] at h2
      refine ⟨by show 4 ≤ sizeLine; decide, fun q hq => ?_⟩
      have nDq : D ≠ q := ne_of_none h2 hq
      refine k ⟨q, D⟩ _ (sm.trans (same_upd hq)) ⟨cs, 0, 0, 1, ?_, ?_, nDq, l63⟩
      · exact upd_same
      · rw [upd_ne nDq]
        exact h2
end
end Hs
/-! what is true of any value: read as values -/
namespace Hu
open PySem
mutual
/-- how long it is when shown, at most -/
def wt : U → Nat
  | .non => 4
  | .bl _ => 5
  | .int _ => 80
  | .str z => 2 * z.length + 2
  | .tup us => wtL us + 3
  | .lst us => wtL us + 2
  | .dct us => wtL us + 30
  | .exc => 30
def wtL : List U → Nat
  | [] => 0
  | u :: us => wt u + 2 + wtL us
end
mutual
/-- its signs are a text's or line feeds, its integers small -/
def clean : U → Prop
  | .int i => i.natAbs < 2 ^ 65
  | .str z => ∀ c ∈ TL.tl z, Hs.okS c = true ∨ c = 10
  | .tup us | .lst us | .dct us => cleanL us
  | _ => True
def cleanL : List U → Prop
  | [] => True
  | u :: us => clean u ∧ cleanL us
end
structure Fine (u : U) : Prop where
  w : wt u ≤ 1000000
  c : clean u
theorem wt_pos : ∀ u : U, 1 ≤ wt u := fun u => by cases u <;> simp only [wt] <;> omega
theorem wt_mem : ∀ {us : List U} {u : U}, u ∈ us → wt u ≤ wtL us
  | _ :: us, _, .head _ => by simp only [wtL]; omega
  | _ :: us, _, .tail _ h => by have := wt_mem h; simp only [wtL]; omega
theorem wt_len : ∀ us : List U, 2 * us.length ≤ wtL us
  | [] => Nat.zero_le _
  | u :: us => by have := wt_len us; simp only [wtL, List.length_cons]; omega
theorem clean_mem : ∀ {us : List U} {u : U}, cleanL us → u ∈ us → clean u
  | _ :: _, _, h, .head _ => h.1
  | _ :: _, _, h, .tail _ q => clean_mem h.2 q
theorem Fine.tup {us : List U} (h : Fine (.tup us)) : ∀ u ∈ us, Fine u := fun u hu => ⟨by have := h.w; have := wt_mem hu; simp only [wt] at *; omega, clean_mem (by simpa only [clean] using h.c) hu⟩
theorem Fine.len {us : List U} (h : Fine (.tup us)) : us.length ≤ 500000 := by
  have := h.w
  have := wt_len us
  simp only [wt] at *
  omega
theorem Fine.str {z : Str} (h : Fine (.str z)) : z.length ≤ 500000 := by
  have := h.w
  simp only [wt] at *
  omega
theorem isT_int {u : U} (h : (isT u "int" && !isT u "bool") = true) : ∃ i, u = .int i := by
  cases u with
  | int i => exact ⟨i, rfl⟩
  | _ => simp [isT, isS, tyU] at h
theorem isT_str {u : U} (h : isT u "str" = true) : ∃ z, u = .str z := by
  cases u with
  | str z => exact ⟨z, rfl⟩
  | _ => simp [isT, isS, tyU] at h
theorem isT_tup {u : U} (h : isT u "tuple" = true) : ∃ us, u = .tup us := by
  cases u with
  | tup us => exact ⟨us, rfl⟩
  | _ => simp [isT, isS, tyU] at h
end Hu
namespace Hs
open PySem PySem.Spec PyProof.Rows L2 Hu
section
variable {K : PySem.W.Frag} {σ : L2.St} {H H' : Hp} {ta tb tc te tl : TE} {r r' : R2} {x y z v : V} {w C : Addr} {u : U} {us : List U} {xs : List V}
open Evl
theorem ex_at (e : Ex H H') (h : At w C H v u) : At w C H' v u := h.keep fun b o _ q => e b o q
theorem ex_atl (e : Ex H H') (h : AtL w C H xs us) : AtL w C H' xs us := h.keep fun b o _ q => e b o q
theorem ev_chain {a b : Bool} (ha : Ev ta σ H x) (hb : Ev tb σ H y) (hc : Ev tc σ H z) (h1 : RV r x y H (.bl a)) (h2 : a = true → RV r' y z H (.bl b)) : Ev (tChain r r' ta tb tc) σ H (.bl (a && b)) := fun H1 e Q q =>
  ha H1 e _ fun H2 e2 => hb H2 (e.trans e2) _ fun H3 e3 => h1 H3 ((e.trans e2).trans e3) _ fun H4 e4 => ⟨a, rfl, by
    cases a with
    | false => exact q H4 ((e2.trans e3).trans e4)
    | true => exact hc H4 (((e.trans e2).trans e3).trans e4) _ fun H5 e5 => h2 rfl H5 ((((e.trans e2).trans e3).trans e4).trans e5) _ fun H6 e6 => q H6 ((((e2.trans e3).trans e4).trans e5).trans e6)⟩
theorem rv_le {i j : Int} : RV (rI0 fun i j => .bl (decide (i ≤ j))) (.int i) (.int j) H (.bl (decide (i ≤ j))) := rv_I0
abbrev rIsi (C : Addr) (T : String) : List V → Hp → VK → Prop := fun xs H Q => ∃ (v : V) (u : U) (w : Addr), xs = [v, .ty T] ∧ At w C H v u ∧ Q (.bl (isT u T)) H
theorem ev_isi {T : String} (h : Ev te σ H v) (hat : At w C H v u) : Ev (tCB (rIsi C T) (tCons te (tCons (tC (.ty T)) tNil))) σ H (.bl (isT u T)) :=
  ev_cb (ea_cons h (ea_cons ev_c ea_nil)) fun H1 e Q q => ⟨v, u, w, rfl, ex_at e hat, q H1 (Ex.refl H1)⟩
abbrev rLenQ (K : PySem.W.Frag) : List V → Hp → VK → Prop := fun xs H Q => ∃ p ys, xs = [.ref p] ∧ (SqL K H p ys ∨ SqT K H p ys) ∧ Q (.int ys.length) H
theorem ev_lenT {a : Addr} (h : Ev te σ H (.ref a)) (hx : H a = some (.tup xs)) : Ev (tCB (rLenQ K) (tCons te tNil)) σ H (.int (xs.length : Int)) :=
  ev_cb (ea_cons h ea_nil) fun H1 e Q q => ⟨a, xs, rfl, .inr (st_of (e _ _ hx)), q H1 (Ex.refl H1)⟩
abbrev rLenZ : List V → Hp → VK → Prop := fun xs H Q => ∃ z : Str, xs = [.str z] ∧ z.length ≤ sizeLine ∧ Q (.int z.length) H
theorem ev_lenS {z : Str} (h : Ev te σ H (.str z)) (hz : z.length ≤ sizeLine) : Ev (tCB rLenZ (tCons te tNil)) σ H (.int (z.length : Int)) :=
  ev_cb (ea_cons h ea_nil) fun H1 e Q q => ⟨z, rfl, hz, q H1 (Ex.refl H1)⟩
theorem ev_ixT {a : Addr} {j : Nat} (h : Ev te σ H (.ref a)) (hx : H a = some (.tup xs)) (hj : xs[j]? = some v) : Ev (tOp (rIxT K) te (tC (.int (j : Int)))) σ H v :=
  ev_op h ev_c (rv_ixT (st_of hx) (atI_nat hj))
theorem et_yes : EvT tYes σ H true := fun H1 _ Q q => q H1 (Ex.refl H1)
theorem len_fine {n : Nat} (h : n ≤ 1000000) : n ≤ sizeLine := Nat.le_trans h (Nat.le_of_lt bit_line)
/-- all([f(x) for x in a tuple]) -/
theorem ev_allT {a : Addr} {j : Nat} {vs : List Nat} {g : U → Bool} (h : Ev tl σ H (.ref a)) (hx : H a = some (.tup xs)) (hz : us.length ≤ 500000) (hl : AtL w C H xs us) (hw : ∀ x, wipe ((wipe σ vs).set j (some x)) vs = wipe σ vs)
    (he : ∀ (x : V) (u : U), u ∈ us → At w C H x u → Ev te ((wipe σ vs).set j (some x)) H (.bl (g u))) :
    Ev (tCB (rAll K) (tCons (tLc (iTup K tl) (gName j) tYes te vs) tNil)) σ H (.bl (us.all g)) := fun H0 e Q q => h H0 e _ fun H1 e1 => ⟨a, rfl, ⟨xs, st_of ((e.trans e1) _ _ hx)⟩, fun Dl hD =>
  lc_tup (xs := xs) (fun i H' => Ex H1 H' ∧ H' Dl = some (.lst ((us.take i).map fun u => V.bl (g u)))) ⟨Ex.new hD, upd_same⟩ (fun i H' _ p => st_of (((e.trans e1).trans p.1) _ _ hx)) (fun i x H2 hi p => by
    obtain ⟨p1, p2⟩ := p
    have hlen := AtL.length hl
    have hu : i < us.length := by
      have := (List.getElem?_eq_some_iff.mp hi).1
      omega
    obtain ⟨x', hx', hax⟩ := AtL.get hl (List.getElem?_eq_getElem hu)
    rw [hi] at hx'
    cases hx'
    refine ⟨hw x, he x us[i] (List.getElem_mem hu) hax H2 ((e.trans e1).trans p1) _ fun H3 e3 => ⟨_, e3 _ _ p2, ?_, fun q o hq => ?_, ?_⟩⟩
    · rw [List.length_map, List.length_take]
      have := bit_line
      unfold bit at this
      omega
    · rw [upd_ne (ne_of_none hq hD)]
      exact e3 _ _ (p1 _ _ hq)
    · rw [upd_same, List.take_add_one, List.getElem?_eq_getElem hu, List.map_append]
      rfl) (fun H' p => ⟨Dl, us.map g, rfl, sq_of (by
        rw [p.2, AtL.length hl, List.take_length, List.map_map]
        rfl), by
        have e2 : (us.map g).all id = us.all g := by
          rw [List.all_map]
          rfl
        rw [e2]
        exact q _ (e1.trans p.1)⟩)⟩
/-- all([f(c) for c in a string]) -/
theorem ev_allS {z : Str} {j : Nat} {vs : List Nat} {g : Nat → Bool} (h : Ev tl σ H (.str z)) (hz : z.length ≤ 500000) (hw : ∀ x, wipe ((wipe σ vs).set j (some x)) vs = wipe σ vs)
    (he : ∀ c ∈ TL.tl z, Ev te ((wipe σ vs).set j (some (.str ⟨#[c]⟩))) H (.bl (g c))) :
    Ev (tCB (rAll K) (tCons (tLc (iStr tl) (gName j) tYes te vs) tNil)) σ H (.bl ((TL.tl z).all g)) := fun H0 e Q q => h H0 e _ fun H1 e1 => ⟨z, rfl, fun Dl hD =>
  lc_it walk_str (fun i H' => Ex H1 H' ∧ H' Dl = some (.lst (((TL.tl z).take i).map fun u => V.bl (g u)))) ⟨Ex.new hD, upd_same⟩ (fun _ _ _ _ => True.intro) (fun i x H2 H2' hi p y => by
    obtain ⟨p1, p2⟩ := p
    obtain ⟨rfl, c, hc, rfl⟩ := y
    have hc' := codes_get hc
    have hl : i < (TL.tl z).length := (List.getElem?_eq_some_iff.mp hc').1
    refine ⟨hw _, he c (List.mem_of_getElem? hc') H2' ((e.trans e1).trans p1) _ fun H3 e3 => ⟨_, e3 _ _ p2, ?_, fun q o hq => ?_, ?_⟩⟩
    · rw [List.length_map, List.length_take]
      have := bit_line
      unfold bit at this
      have hq := TL.len_tl z
      omega
    · rw [upd_ne (ne_of_none hq hD)]
      exact e3 _ _ (p1 _ _ hq)
    · rw [upd_same, List.take_add_one, hc', List.map_append]
      rfl) (fun H' p => ⟨Dl, (TL.tl z).map g, rfl, sq_of (by
        rw [p.2, show z.cps.size = (TL.tl z).length from (TL.len_tl z).symm, List.take_length, List.map_map]
        rfl), by
        have e2 : ((TL.tl z).map g).all id = (TL.tl z).all g := by
          rw [List.all_map]
          rfl
        rw [e2]
        exact q _ (e1.trans p.1)⟩)⟩
end
/-! ### judges: a flag of any value, nothing is changed -/
def spJ (C : Addr) (g : U → Bool) : Sp := fun vs H Q _ => ∃ (v : V) (u : U) (w : Addr), vs = [v] ∧ At w C H v u ∧ Fine u ∧ ∀ H', Same H H' → Q (.bl (g u)) H'
structure Jd (P : Program) (w : World) (K : PySem.W.Frag) (mg : Str → Option Value) (base : Heap) (C : Addr) (k : Nat) (x : Str) (p : Str) (f : Addr) (fd : FuncData) (g : U → Bool) : Prop where
  ok : FnOk P w K mg base CX0 k f fd [p] (spJ C g)
  g : mg x = some (.ref f)
  kp : PySem.W.keepIn K (.ref f) = true
  b : Binds K fd [p] []
section
variable {P : Program} {wd : World} {K : PySem.W.Frag} {mg : Str → Option Value} {base : Heap} {C : Addr}
theorem Jd.imp {x p : Str} {k : Nat} {f : Addr} {fd : FuncData} {g g' : U → Bool} (J : Jd P wd K mg base C k x p f fd g) (h : ∀ u, Fine u → g u = g' u) : Jd P wd K mg base C k x p f fd g' :=
  ⟨J.ok.imp fun vs H Q E ⟨v, u, w, e, a, fi, q⟩ => ⟨v, u, w, e, a, fi, fun H' s => by rw [h u fi]; exact q H' s⟩, J.g, J.kp, J.b⟩
theorem spv_J {g : U → Bool} {H : Hp} {v : V} {u : U} {w : Addr} (hat : At w C H v u) (fi : Fine u) : Evl.SpV (spJ C g) [v] H (.bl (g u)) := fun H1 e Q q E => ⟨v, u, w, rfl, ex_at e hat, fi, q⟩
theorem ev_J {g : U → Bool} {H : Hp} {v : V} {u : U} {w : Addr} {σ : L2.St} {te : TE} {E : XK} (h : Evl.Ev te σ H v) (hat : At w C H v u) (fi : Fine u) : Evl.Ev (tCall (spJ C g) [] E (tCons te tNil)) σ H (.bl (g u)) :=
  Evl.ev_call (Evl.ea_cons h Evl.ea_nil) (spv_J hat fi)
theorem lenJ {g : U → Bool} {p : Str} : ∀ vs H Q E, spJ C g vs H Q E → vs.length = [p].length := fun vs H Q E h => by
  obtain ⟨v, u, w, rfl, _⟩ := h
  rfl
end
section
variable {X : Cx} {C : Addr} {CX : CXT} {E : XK}
theorem pe_J {x p : Str} {k j : Nat} {f : Addr} {fd : FuncData} {g : U → Bool} {e : Expr} {te : TE} {ps pos : Pos} (J : Jd X.prog X.w X.K X.mg X.base C k x p f fd g) (hr : Room j X.A) (h : k ≤ j) (hg : Gl X x) (hx : Passes CX0 X E) (he : PE X e te) (hdb : (x == ("__debug__" : Str)) = false := by decide)
    (hst : starEach [e] X.env = (false, eval e X.env) :: starEach [] X.env := by rfl) (hpl : (backTo pos (starEach [] X.env)).any (·.1) = false := by rfl) :
    PE X (.Call (.Name x ps) [e] [] pos) (tCall (spJ C g) [] E (tCons te tNil)) :=
  pe_call J.ok (hr.mono h) hg J.g J.kp J.b .nil hx (pa_cons he pa_nil hst) hdb hst hpl
end
end Hs
/-! the program's flags of any value -/
namespace Hs
open PySem PySem.Spec PyProof.Rows L2 Hu Evl
/-- an error's class: without an __eq__ of its own, no tuple's -/
structure Eqx (K : PySem.W.Frag) (C : Addr) : Prop where
  m : PySem.W.mroIn K C (.type "object") = some true
  e : PySem.W.findIn K (.ref C) "__eq__" = some (some (.builtin "object.__eq__"))
  t : PySem.W.subIn K (.ref C) (.type "tuple") = some false
/-- what the text leaves to the built-ins, and its errors -/
structure Bs (K : PySem.W.Frag) (mg : Str → Option Value) (C : Addr) : Prop where
  B : Bt mg
  E : Xc K mg "NoTable" C "NoTable"
  q : Eqx K C
/-- the numbers that the text names -/
structure Cn (mg : Str → Option Value) : Prop where
  homes : ∃ t, mg "MOST_HOMES" = some (.int 9 t)
  hands : ∃ t, mg "MOST_HANDS" = some (.int 99 t)
  pieces : ∃ t, mg "MOST_PIECES" = some (.int 12 t)
  signs : ∃ t, mg "PIECE_SIGNS" = some (.int 8 t)
  names : ∃ t, mg "NAME_SIGNS" = some (.int 8 t)
theorem boot_bool' : bootBuiltins "bool" = some (.type "bool") := by decide +kernel
theorem boot_int' : bootBuiltins "int" = some (.type "int") := by decide +kernel
section
variable {X : Cx} {C : Addr} {e : Expr} {te : TE} {p p2 pos : Pos}
theorem pe_isiX {T : String} {T' : Str} (S : Bs X.K X.mg C) (hg : Gl X "isinstance") (hgT : Gl X T') (hT : X.mg T' = none) (bT : bootBuiltins T' = some (.type T)) (hm : T ∈ ["int", "bool", "str", "tuple"]) (he : PE X e te) (hn : T' ≠ "__name__") (hd : (T' == ("__debug__" : Str)) = false)
    (hst : starEach [e] X.env = (false, eval e X.env) :: starEach [] X.env := by rfl) (hst2 : starEach [e, .Name T' p2] X.env = (false, eval e X.env) :: starEach [.Name T' p2] X.env := by rfl) (hpl : (backTo pos (starEach [.Name T' p2] X.env)).any (·.1) = false := by rfl)
    (hst3 : starEach [.Name T' p2] X.env = (false, eval (.Name T' p2) X.env) :: starEach [] X.env := by rfl) :
    PE X (.Call (.Name "isinstance" p) [e, .Name T' p2] [] pos) (tCB (rIsi C T) (tCons te (tCons (tC (.ty T)) tNil))) :=
  pe_callB (call_isiU T S.E hm) hg S.B.isi boot_isi (pa_cons he (pa_cons (pe_bltn hgT hT bT (show RelV (.ty T) (.type T) from rfl) hn hd) pa_nil hst3) hst2) (by decide) (by decide) hst2 hpl
end
def iv (u : U) (p : Int → Bool) : Bool := match u with | .int i => p i | _ => false
def sv (u : U) (p : Str → Bool) : Bool := match u with | .str z => p z | _ => false
def tv (u : U) (p : List U → Bool) : Bool := match u with | .tup us => p us | _ => false
def gInt (u : U) : Bool := iv u fun _ => true
def gFrom (u : U) : Bool := iv u fun i => decide (1 ≤ i)
def gHome (u : U) : Bool := iv u fun i => decide (0 ≤ i) && decide (i < 9)
def gHand (u : U) : Bool := iv u fun i => decide (1 ≤ i) && decide (i ≤ 99)
def gPair (u : U) : Bool := tv u fun us => decide (us.length = 2)
def gSigns (u : U) : Bool := sv u okz
def lowc (c : Nat) : Bool := decide (97 ≤ c) && decide (c ≤ 122)
def gNam (u : U) : Bool := sv u fun z => (decide (1 ≤ z.length) && decide (z.length ≤ 8)) && (TL.tl z).all lowc
def gText (u : U) : Bool := sv u fun z => okz z && decide (z.length ≤ 96)
def gPiece (u : U) : Bool := sv u fun z => okz z && (decide (1 ≤ z.length) && decide (z.length ≤ 8))
def two (us : List U) (p : U → U → Bool) : Bool := match us with | [a, b] => p a b | _ => false
def gId (u : U) : Bool := tv u fun us => two us fun a b => gHand a && gFrom b
def gRow (u : U) : Bool := match u with | .non => true | .tup us => decide (us.length ≤ 12) && us.all gId | _ => false
def gStamp (u : U) : Bool := tv u fun us => two us fun a b => iv a fun i => iv b fun j => (decide (i = 0) && decide (j = 0)) || (decide (1 ≤ i) && (decide (1 ≤ j) && decide (j ≤ 99)))
def gHead (u : U) : Bool := tv u fun us => two us fun a b => gStamp a && gRow b
def intU (u : U) : Int := match u with | .int i => i | _ => 0
def ascI (ns : List Int) : Bool := (List.range (ns.length - 1)).all fun k => decide (ns.getD k 0 < ns.getD (k + 1) 0)
def gMembers (u : U) : Bool := tv u fun us => ((decide (1 ≤ us.length) && decide (us.length ≤ 9)) && us.all gHome) && ascI (us.map intU)
section
variable {P : Program} {wd : World} {K : PySem.W.Frag} {mg : Str → Option Value} {base : Heap} {C : Addr}
theorem scIsInt : FnScope ["thing"] ["thing"] (defScope sIsInt) := ⟨rfl, rfl, rfl, by decide +kernel, rfl, by decide +kernel, by decide +kernel⟩
theorem gInt_is (u : U) : (isT u "int" && !isT u "bool") = gInt u := by
  cases u <;> simp [isT, isS, tyU, gInt, iv]
theorem jd_int {f : Addr} {fd : FuncData} (D : Df K mg "is_integer" sIsInt ["thing"] f fd) (S : Bs K mg C) : Jd P wd K mg base C 1 "is_integer" "thing" f fd gInt := by
  refine ⟨D.F.ok scIsInt lenJ (fun cdv A outer s H vs Q E hr h => ?_), D.g, D.F.kp, D.b⟩
  obtain ⟨v, u, w, rfl, hat, fi, k⟩ := h
  refine ⟨_, pss_one (ps_ret (pe_and (pe_isiX S (by rfl) (by rfl) S.B.int boot_int' (by decide) (pv 0) (by decide) (by decide)) (pe_one (pe_not (pe_isiX S (by rfl) (by rfl) S.B.boo boot_bool' (by decide) (pv 0) (by decide) (by decide)))))), ?_⟩
  refine s_ret (ev_andV (ev_isi (ev_var rfl) hat) fun _ => ev_notV (ev_isi (ev_var rfl) hat)) fun H1 e => ?_
  rw [gInt_is]
  exact k H1 e
theorem scFrom : FnScope ["thing"] ["thing"] (defScope sFromOne) := ⟨rfl, rfl, rfl, by decide +kernel, rfl, by decide +kernel, by decide +kernel⟩
theorem gInt_int {u : U} (h : gInt u = true) : ∃ i, u = .int i := by
  cases u with
  | int i => exact ⟨i, rfl⟩
  | _ => cases h
theorem at_int {w : Addr} {H : Hp} {v : V} {i : Int} (h : At w C H v (.int i)) : v = .int i := by
  cases h
  rfl
theorem at_str {w : Addr} {H : Hp} {v : V} {z : Str} (h : At w C H v (.str z)) : v = .str z := by
  cases h
  rfl
theorem at_tup {w : Addr} {H : Hp} {v : V} {us : List U} (h : At w C H v (.tup us)) : ∃ a xs, v = .ref a ∧ H a = some (.tup xs) ∧ a ≠ w ∧ AtL w C H xs us := by
  cases h with
  | tup h n l => exact ⟨_, _, rfl, h, n, l⟩
/-- one more test of an integer -/
theorem iv_and (u : U) (p : Int → Bool) : (gInt u && iv u p) = iv u p := by
  cases u <;> rfl
theorem jd_from {f fI : Addr} {fd fdI : FuncData} (D : Df K mg "is_from_one" sFromOne ["thing"] f fd) (S : Bs K mg C) (J : Jd P wd K mg base C 1 "is_integer" "thing" fI fdI gInt) : Jd P wd K mg base C 2 "is_from_one" "thing" f fd gFrom := by
  refine ⟨D.F.ok scFrom lenJ (fun cdv A outer s H vs Q E hr h => ?_), D.g, D.F.kp, D.b⟩
  obtain ⟨v, u, w, rfl, hat, fi, k⟩ := h
  refine ⟨_, pss_one (ps_ret (pe_and (pe_J J hr (by decide) (by rfl) pass0 (pv 0)) (pe_one (pe_cmpR op_ge (pv 0) pe_int (nomark _))))), ?_⟩
  refine s_ret (ev_andV (b := gFrom u) (ev_J (ev_var rfl) hat fi) fun q => ?_) fun H1 e => ?_
  · obtain ⟨i, rfl⟩ := gInt_int q
    cases at_int hat
    exact ev_op (ev_var rfl) ev_c rv_I0
  · unfold gFrom
    rw [iv_and]
    exact k H1 e
theorem scHome : FnScope ["thing"] ["thing"] (defScope sHome) := ⟨rfl, rfl, rfl, by decide +kernel, rfl, by decide +kernel, by decide +kernel⟩
theorem jd_home {f fI : Addr} {fd fdI : FuncData} (D : Df K mg "is_home" sHome ["thing"] f fd) (S : Bs K mg C) (N : Cn mg) (J : Jd P wd K mg base C 1 "is_integer" "thing" fI fdI gInt) : Jd P wd K mg base C 2 "is_home" "thing" f fd gHome := by
  refine ⟨D.F.ok scHome lenJ (fun cdv A outer s H vs Q E hr h => ?_), D.g, D.F.kp, D.b⟩
  obtain ⟨v, u, w, rfl, hat, fi, k⟩ := h
  obtain ⟨t, h9⟩ := N.homes
  refine ⟨_, pss_one (ps_ret (pe_and (pe_J J hr (by decide) (by rfl) pass0 (pv 0)) (pe_one (pe_chain op_le op_lt pe_int (pv 0) (pe_glob (v := .int 9) rfl h9 ⟨_, rfl⟩))))), ?_⟩
  refine s_ret (ev_andV (b := gHome u) (ev_J (ev_var rfl) hat fi) fun q => ?_) fun H1 e => ?_
  · obtain ⟨i, rfl⟩ := gInt_int q
    cases at_int hat
    exact ev_chain ev_c (ev_var rfl) ev_c rv_I0 fun _ => rv_I0
  · unfold gHome
    rw [iv_and]
    exact k H1 e
theorem scHand : FnScope ["thing"] ["thing"] (defScope sHand) := ⟨rfl, rfl, rfl, by decide +kernel, rfl, by decide +kernel, by decide +kernel⟩
theorem jd_hand {f fI : Addr} {fd fdI : FuncData} (D : Df K mg "is_hand" sHand ["thing"] f fd) (S : Bs K mg C) (N : Cn mg) (J : Jd P wd K mg base C 1 "is_integer" "thing" fI fdI gInt) : Jd P wd K mg base C 2 "is_hand" "thing" f fd gHand := by
  refine ⟨D.F.ok scHand lenJ (fun cdv A outer s H vs Q E hr h => ?_), D.g, D.F.kp, D.b⟩
  obtain ⟨v, u, w, rfl, hat, fi, k⟩ := h
  obtain ⟨t, h9⟩ := N.hands
  refine ⟨_, pss_one (ps_ret (pe_and (pe_J J hr (by decide) (by rfl) pass0 (pv 0)) (pe_one (pe_chain op_le op_le pe_int (pv 0) (pe_glob (v := .int 99) rfl h9 ⟨_, rfl⟩))))), ?_⟩
  refine s_ret (ev_andV (b := gHand u) (ev_J (ev_var rfl) hat fi) fun q => ?_) fun H1 e => ?_
  · obtain ⟨i, rfl⟩ := gInt_int q
    cases at_int hat
    exact ev_chain ev_c (ev_var rfl) ev_c rv_I0 fun _ => rv_I0
  · unfold gHand
    rw [iv_and]
    exact k H1 e
theorem scPair : FnScope ["thing"] ["thing"] (defScope sPair) := ⟨rfl, rfl, rfl, by decide +kernel, rfl, by decide +kernel, by decide +kernel⟩
theorem tv_and (u : U) (p : List U → Bool) : (isT u "tuple" && tv u p) = tv u p := by
  cases u <;> simp [isT, isS, tyU, tv]
theorem sv_and (u : U) (p : Str → Bool) : (isT u "str" && sv u p) = sv u p := by
  cases u <;> simp [isT, isS, tyU, sv]
theorem dec_eq {n m : Nat} : decide (V.int (n : Int) = V.int (m : Int)) = decide (n = m) := by
  by_cases h : n = m
  · rw [decide_eq_true h, h, decide_eq_true rfl]
  · rw [decide_eq_false h, decide_eq_false]
    intro e
    have := V.int.inj e
    omega
theorem jd_pair {f : Addr} {fd : FuncData} (D : Df K mg "is_pair" sPair ["thing"] f fd) (S : Bs K mg C) : Jd P wd K mg base C 1 "is_pair" "thing" f fd gPair := by
  refine ⟨D.F.ok scPair lenJ (fun cdv A outer s H vs Q E hr h => ?_), D.g, D.F.kp, D.b⟩
  obtain ⟨v, u, w, rfl, hat, fi, k⟩ := h
  refine ⟨_, pss_one (ps_ret (pe_and (pe_isiX S (by rfl) (by rfl) S.B.tup boot_tuple' (by decide) (pv 0) (by decide) (by decide)) (pe_one (pe_cmpR op_eq (pe_callB call_len_seq (by rfl) S.B.len PySem.boot_len (pa_cons (pv 0) pa_nil)) pe_int (nomark _))))), ?_⟩
  refine s_ret (ev_andV (b := gPair u) (ev_isi (ev_var rfl) hat) fun q => ?_) fun H1 e => ?_
  · obtain ⟨us, rfl⟩ := isT_tup q
    obtain ⟨a, xs, rfl, ha, _, hl⟩ := at_tup hat
    have := ev_op (r := rEq) (σ := [some (V.ref a)]) (ev_lenT (K := K) (te := tVar 0) (ev_var rfl) ha) (ev_c (v := .int 2)) (rv_eq rfl)
    rw [show (2 : Int) = ((2 : Nat) : Int) from rfl, dec_eq, AtL.length hl] at this
    exact this
  · unfold gPair
    rw [tv_and]
    exact k H1 e
theorem scSig : FnScope ["thing", "sign"] ["thing"] (defScope sIsSigns) := ⟨rfl, rfl, rfl, by decide +kernel, rfl, by decide +kernel, by decide +kernel⟩
abbrev rLeS : R2 := fun x y H Q => ∃ i j : Str, x = .str i ∧ y = .str j ∧ Q (.bl (!decide (j.cps.toList < i.cps.toList))) H
theorem rv_leS {a b : Nat} {H : Hp} : RV rLeS (.str ⟨#[a]⟩) (.str ⟨#[b]⟩) H (.bl (decide (a ≤ b))) := fun H1 _ Q q => ⟨_, _, rfl, rfl, by
  show Q (.bl (!decide (([b] : List Nat) < [a]))) H1
  rw [not_lt1]
  exact q H1 (Ex.refl H1)⟩
theorem jd_signs {f : Addr} {fd : FuncData} (D : Df K mg "is_signs" sIsSigns ["thing"] f fd) (S : Bs K mg C) : Jd P wd K mg base C 1 "is_signs" "thing" f fd gSigns := by
  refine ⟨D.F.ok scSig lenJ (fun cdv A outer s H vs Q E hr h => ?_), D.g, D.F.kp, D.b⟩
  obtain ⟨v, u, w, rfl, hat, fi, k⟩ := h
  refine ⟨_, pss_one (ps_ret (pe_and (pe_isiX S (by rfl) (by rfl) S.B.str boot_str (by decide) (pv 0) (by decide) (by decide))
    (pe_one (pe_callB (cr_all rfl) (by rfl) S.B.all boot_all' (pa_cons (pe_lc (own := [("sign", 1)]) (g := gName 1) (tt := tYes) rfl scSig.nd (pi_str (pv 0)) (blkOk_by (N := ["thing", "sign"]) (sc := defScope sIsSigns) (by decide +kernel))
      (fun _ _ _ _ _ => pg_name (i := 1) scSig.nd rfl (Or.inl rfl)) (fun _ _ _ _ _ => pts_nil) (fun _ _ _ _ _ => pe_chain op_le_str op_le_str pe_str (pv 1) pe_str)) pa_nil))))), ?_⟩
  refine s_ret (ev_andV (b := gSigns u) (ev_isi (ev_var rfl) hat) fun q => ?_) fun H1 e => ?_
  · obtain ⟨z, rfl⟩ := isT_str q
    cases at_str hat
    exact ev_allS (ev_var rfl) fi.str (fun _ => rfl) fun c _ => ev_chain ev_c (ev_var rfl) ev_c rv_leS fun _ => rv_leS
  · unfold gSigns
    rw [sv_and]
    exact k H1 e
end
end Hs
namespace Hs
open PySem PySem.Spec PyProof.Rows L2 Hu Evl
section
variable {P : Program} {wd : World} {K : PySem.W.Frag} {mg : Str → Option Value} {base : Heap} {C : Addr}
theorem dec_le {n m : Nat} : decide ((n : Int) ≤ (m : Int)) = decide (n ≤ m) := by
  by_cases h : n ≤ m
  · rw [decide_eq_true h, decide_eq_true (by omega)]
  · rw [decide_eq_false h, decide_eq_false (by omega)]
theorem dec_lt {n m : Nat} : decide ((n : Int) < (m : Int)) = decide (n < m) := by
  by_cases h : n < m
  · rw [decide_eq_true h, decide_eq_true (by omega)]
  · rw [decide_eq_false h, decide_eq_false (by omega)]
theorem _root_.Hu.Fine.line {z : Str} (h : Fine (.str z)) : z.length ≤ sizeLine := len_fine (by have := h.str; omega)
theorem gSigns_str {u : U} (h : gSigns u = true) : ∃ z, u = .str z := by
  cases u with
  | str z => exact ⟨z, rfl⟩
  | _ => cases h
def lenIn (lo hi : Nat) (u : U) : Bool := sv u fun z => decide (lo ≤ z.length) && decide (z.length ≤ hi)
theorem scIsPiece : FnScope ["thing"] ["thing"] (defScope sPiece) := ⟨rfl, rfl, rfl, by decide +kernel, rfl, by decide +kernel, by decide +kernel⟩
theorem jd_piece {f fI : Addr} {fd fdI : FuncData} (D : Df K mg "is_piece" sPiece ["thing"] f fd) (S : Bs K mg C) (N : Cn mg) (J : Jd P wd K mg base C 1 "is_signs" "thing" fI fdI gSigns) : Jd P wd K mg base C 2 "is_piece" "thing" f fd gPiece := by
  refine ⟨D.F.ok scIsPiece lenJ (fun cdv A outer s H vs Q E hr h => ?_), D.g, D.F.kp, D.b⟩
  obtain ⟨v, u, w, rfl, hat, fi, k⟩ := h
  obtain ⟨t, h9⟩ := N.signs
  refine ⟨_, pss_one (ps_ret (pe_and (pe_J J hr (by decide) (by rfl) pass0 (pv 0)) (pe_one (pe_chain op_le op_le pe_int (pe_callB call_len_str (by rfl) S.B.len PySem.boot_len (pa_cons (pv 0) pa_nil)) (pe_glob (v := .int 8) rfl h9 ⟨_, rfl⟩))))), ?_⟩
  refine s_ret (ev_andV (b := lenIn 1 8 u) (ev_J (ev_var rfl) hat fi) fun q => ?_) fun H1 e => ?_
  · obtain ⟨z, rfl⟩ := gSigns_str q
    cases at_str hat
    exact ev_is (ev_chain ev_c (ev_lenS (ev_var rfl) fi.line) ev_c rv_I0 fun _ => rv_I0) (by rw [show (8 : Int) = ((8 : Nat) : Int) from rfl, show (1 : Int) = ((1 : Nat) : Int) from rfl, dec_le, dec_le]; rfl)
  · have e2 : (gSigns u && lenIn 1 8 u) = gPiece u := by cases u <;> rfl
    rw [e2]
    exact k H1 e
theorem scIsName : FnScope ["thing", "sign"] ["thing"] (defScope sName) := ⟨rfl, rfl, rfl, by decide +kernel, rfl, by decide +kernel, by decide +kernel⟩
theorem jd_name {f : Addr} {fd : FuncData} (D : Df K mg "is_name" sName ["thing"] f fd) (S : Bs K mg C) (N : Cn mg) : Jd P wd K mg base C 2 "is_name" "thing" f fd gNam := by
  refine ⟨D.F.ok scIsName lenJ (fun cdv A outer s H vs Q E hr h => ?_), D.g, D.F.kp, D.b⟩
  obtain ⟨v, u, w, rfl, hat, fi, k⟩ := h
  obtain ⟨t, h8⟩ := N.names
  refine ⟨_, pss_cons (ps_if (PW.pt (pw_or (pt_not (pt_val (pe_isiX S (by rfl) (by rfl) S.B.str boot_str (by decide) (pv 0) (by decide) (by decide))))
      (pw_or1 (pt_not (pt_chain op_le op_le pe_int (pe_callB call_len_str (by rfl) S.B.len PySem.boot_len (pa_cons (pv 0) pa_nil)) (pe_glob (v := .int 8) rfl h8 ⟨_, rfl⟩))))))
      (pss_one (ps_ret pe_bl)) pss_nil)
    (pss_one (ps_ret (pe_callB (cr_all rfl) (by rfl) S.B.all boot_all' (pa_cons (pe_lc (own := [("sign", 1)]) (g := gName 1) (tt := tYes) rfl scIsName.nd (pi_str (pv 0)) (blkOk_by (N := ["thing", "sign"]) (sc := defScope sName) (by decide +kernel))
      (fun _ _ _ _ _ => pg_name (i := 1) scIsName.nd rfl (Or.inl rfl)) (fun _ _ _ _ _ => pts_nil) (fun _ _ _ _ _ => pe_chain op_le_str op_le_str pe_str (pv 1) pe_str)) pa_nil)))), ?_⟩
  refine s_if (b := !isT u "str" || !lenIn 1 8 u) (et_or (et_not (et_B (ev_isi (ev_var rfl) hat))) fun q => ?_) (fun q H1 e => ?_) (fun q H1 e => ?_)
  · rw [Bool.not_eq_false'] at q
    obtain ⟨z, rfl⟩ := isT_str q
    cases at_str hat
    exact et_not (et_test (ev_is (ev_chain ev_c (ev_lenS (ev_var rfl) fi.line) ev_c rv_I0 fun _ => rv_I0) (by rw [show (8 : Int) = ((8 : Nat) : Int) from rfl, show (1 : Int) = ((1 : Nat) : Int) from rfl, dec_le, dec_le]; rfl)))
  · refine s_ret ev_c fun H2 e2 => ?_
    have e3 : gNam u = false := by
      cases u with
      | str z =>
        simp [isT, isS, tyU] at q
        show (lenIn 1 8 (.str z) && _) = false
        rw [q]
        rfl
      | _ => rfl
    rw [← e3]
    exact k H2 (e.trans e2)
  · rw [Bool.or_eq_false_iff, Bool.not_eq_false', Bool.not_eq_false'] at q
    obtain ⟨z, rfl⟩ := isT_str q.1
    cases at_str hat
    refine s_ret (ev_allS (g := lowc) (ev_var rfl) fi.str (fun _ => rfl) fun c _ => ev_chain ev_c (ev_var rfl) ev_c rv_leS fun _ => rv_leS) fun H2 e2 => ?_
    have e3 : gNam (.str z) = (TL.tl z).all lowc := by
      show (lenIn 1 8 (.str z) && _) = _
      rw [q.2]
      rfl
    rw [← e3]
    exact k H2 (e.trans e2)
theorem two_of {us : List U} (h : us.length = 2) : ∃ a b, us = [a, b] := by
  match us, h with
  | [a, b], _ => exact ⟨a, b, rfl⟩
theorem atl_two {w : Addr} {H : Hp} {xs : List V} {a b : U} (h : AtL w C H xs [a, b]) : ∃ x y, xs = [x, y] ∧ At w C H x a ∧ At w C H y b := by
  cases h with
  | cons h1 h => cases h with
    | cons h2 h => cases h with
      | nil => exact ⟨_, _, rfl, h1, h2⟩
theorem gPair_two {u : U} (h : gPair u = true) : ∃ a b, u = .tup [a, b] := by
  cases u with
  | tup us =>
    obtain ⟨a, b, rfl⟩ := two_of (of_decide_eq_true h)
    exact ⟨a, b, rfl⟩
  | _ => cases h
theorem pair_at {w : Addr} {H : Hp} {v : V} {a b : U} (h : At w C H v (.tup [a, b])) : ∃ p x y, v = .ref p ∧ H p = some (.tup [x, y]) ∧ At w C H x a ∧ At w C H y b := by
  obtain ⟨p, xs, rfl, hp, _, hl⟩ := at_tup h
  obtain ⟨x, y, rfl, h1, h2⟩ := atl_two hl
  exact ⟨p, x, y, rfl, hp, h1, h2⟩
theorem pair_and (u : U) (p : U → U → Bool) : (gPair u && tv u fun us => two us p) = tv u fun us => two us p := by
  cases u with
  | tup us =>
    match us with
    | [] => rfl
    | [a] => rfl
    | [a, b] => rfl
    | a :: b :: c :: r => simp [gPair, tv, two]
  | _ => rfl
theorem _root_.Hu.Fine.fst {a b : U} (h : Fine (.tup [a, b])) : Fine a := h.tup a (by simp)
theorem _root_.Hu.Fine.snd {a b : U} (h : Fine (.tup [a, b])) : Fine b := h.tup b (by simp)
theorem scId : FnScope ["thing"] ["thing"] (defScope sBlockId) := ⟨rfl, rfl, rfl, by decide +kernel, rfl, by decide +kernel, by decide +kernel⟩
theorem jd_id {f f1 f2 f3 : Addr} {fd d1 d2 d3 : FuncData} (D : Df K mg "is_block_id" sBlockId ["thing"] f fd) (S : Bs K mg C) (JP : Jd P wd K mg base C 1 "is_pair" "thing" f1 d1 gPair) (JH : Jd P wd K mg base C 2 "is_hand" "thing" f2 d2 gHand) (JF : Jd P wd K mg base C 2 "is_from_one" "thing" f3 d3 gFrom) :
    Jd P wd K mg base C 3 "is_block_id" "thing" f fd gId := by
  refine ⟨D.F.ok scId lenJ (fun cdv A outer s H vs Q E hr h => ?_), D.g, D.F.kp, D.b⟩
  obtain ⟨v, u, w, rfl, hat, fi, k⟩ := h
  refine ⟨_, pss_one (ps_ret (pe_and (pe_J JP hr (by decide) (by rfl) pass0 (pv 0)) (pe_and (pe_J JH hr (by decide) (by rfl) pass0 (pe_ix ix_tup (pv 0) pe_int (fun _ _ => rfl))) (pe_one (pe_J JF hr (by decide) (by rfl) pass0 (pe_ix ix_tup (pv 0) pe_int (fun _ _ => rfl))))))), ?_⟩
  refine s_ret (ev_andV (b := gId u) (ev_J (ev_var rfl) hat fi) fun q => ?_) fun H1 e => ?_
  · obtain ⟨a, b, rfl⟩ := gPair_two q
    obtain ⟨p, x, y, rfl, hp, ha, hb⟩ := pair_at hat
    exact ev_andV (ev_J (ev_ixT (j := 0) (ev_var rfl) hp rfl) ha fi.fst) fun _ => ev_J (ev_ixT (j := 1) (ev_var rfl) hp rfl) hb fi.snd
  · unfold gId
    rw [pair_and]
    exact k H1 e
theorem scRow : FnScope ["thing", "item"] ["thing"] (defScope sRow) := ⟨rfl, rfl, rfl, by decide +kernel, rfl, by decide +kernel, by decide +kernel⟩
theorem ev_isN {σ : L2.St} {H : Hp} {te : TE} {v : V} (h : Ev te σ H v) : Ev (tOp rIsN te (tC .non)) σ H (.bl (decide (v = .non))) := ev_op h ev_c fun H1 _ Q q => ⟨rfl, q H1 (Ex.refl H1)⟩
def isNon (u : U) : Bool := match u with | .non => true | _ => false
theorem at_non {w : Addr} {H : Hp} {v : V} {u : U} (h : At w C H v u) : decide (v = .non) = isNon u := by
  cases h <;> rfl
def lenT (hi : Nat) (u : U) : Bool := tv u fun us => decide (us.length ≤ hi)
theorem ev_lenTU {w : Addr} {σ : L2.St} {H : Hp} {te : TE} {a : Addr} {xs : List V} {us : List U} (h : Ev te σ H (.ref a)) (hx : H a = some (.tup xs)) (hl : AtL w C H xs us) : Ev (tCB (rLenQ K) (tCons te tNil)) σ H (.int (us.length : Int)) :=
  ev_is (ev_lenT h hx) (by rw [AtL.length hl])
theorem not_le' {n m : Nat} : decide ((m : Int) < (n : Int)) = !decide (n ≤ m) := by
  by_cases h : n ≤ m
  · rw [decide_eq_true h, decide_eq_false (by omega)]
    rfl
  · rw [decide_eq_false h, decide_eq_true (by omega)]
    rfl
theorem jd_row {f f1 : Addr} {fd d1 : FuncData} (D : Df K mg "is_row" sRow ["thing"] f fd) (S : Bs K mg C) (N : Cn mg) (J : Jd P wd K mg base C 3 "is_block_id" "thing" f1 d1 gId) :
    Jd P wd K mg base C 4 "is_row" "thing" f fd gRow := by
  refine ⟨D.F.ok scRow lenJ (fun cdv A outer s H vs Q E hr h => ?_), D.g, D.F.kp, D.b⟩
  obtain ⟨v, u, w, rfl, hat, fi, k⟩ := h
  obtain ⟨t, h12⟩ := N.pieces
  refine ⟨_, pss_cons (ps_if (pt_cmpR op_isN1 (pv 0) pe_non (nomark _)) (pss_one (ps_ret pe_bl)) pss_nil)
    (pss_cons (ps_if (PW.pt (pw_or (pt_not (pt_val (pe_isiX S (by rfl) (by rfl) S.B.tup boot_tuple' (by decide) (pv 0) (by decide) (by decide))))
      (pw_or1 (pt_cmpR op_gt (pe_callB call_len_seq (by rfl) S.B.len PySem.boot_len (pa_cons (pv 0) pa_nil)) (pe_glob (v := .int 12) rfl h12 ⟨_, rfl⟩) (nomark _)))))
      (pss_one (ps_ret pe_bl)) pss_nil)
    (pss_one (ps_ret (pe_callB (cr_all rfl) (by rfl) S.B.all boot_all' (pa_cons (pe_lc (own := [("item", 1)]) (g := gName 1) (tt := tYes) rfl scRow.nd (pi_tup (pv 0)) (blkOk_by (N := ["thing", "item"]) (sc := defScope sRow) (by decide +kernel))
      (fun _ _ _ _ _ => pg_name (i := 1) scRow.nd rfl (Or.inl rfl)) (fun _ _ _ _ _ => pts_nil) (fun _ _ _ _ _ => pe_J J hr (by decide) (by rfl) pass0 (pv 1))) pa_nil))))), ?_⟩
  refine s_if (b := isNon u) (et_test (ev_is (ev_isN (ev_var rfl)) (by rw [at_non hat]))) (fun q H1 e => ?_) (fun q H1 e => ?_)
  · refine s_ret ev_c fun H2 e2 => ?_
    have := k H2 (e.trans e2)
    cases u with
    | non => exact this
    | _ => cases q
  · have hat1 := ex_at e hat
    refine s_if (b := !isT u "tuple" || !lenT 12 u) (et_or (et_not (et_B (ev_isi (ev_var rfl) hat1))) fun q => ?_) (fun q H2 e2 => ?_) (fun q H2 e2 => ?_)
    · rw [Bool.not_eq_false'] at q
      obtain ⟨us, rfl⟩ := isT_tup q
      obtain ⟨a, xs, rfl, ha, _, hl⟩ := at_tup hat1
      exact et_test (ev_is (ev_op (ev_lenTU (K := K) (ev_var rfl) ha hl) ev_c rv_I0) (by rw [show (12 : Int) = ((12 : Nat) : Int) from rfl, not_le']; rfl))
    · refine s_ret ev_c fun H3 e3 => ?_
      have e4 : gRow u = false := by
        cases u with
        | tup us =>
          simp [isT, isS, tyU] at q
          show (lenT 12 (.tup us) && _) = false
          rw [q]
          rfl
        | non => cases (show true = false from by assumption)
        | _ => rfl
      rw [← e4]
      exact k H3 ((e.trans e2).trans e3)
    · rw [Bool.or_eq_false_iff, Bool.not_eq_false', Bool.not_eq_false'] at q
      obtain ⟨us, rfl⟩ := isT_tup q.1
      obtain ⟨a, xs, rfl, ha, _, hl⟩ := at_tup (ex_at e2 hat1)
      refine s_ret (ev_allT (g := gId) (ev_var rfl) ha fi.len hl (fun _ => rfl) fun x u hu hx => ev_J (ev_var rfl) hx (fi.tup u hu)) fun H3 e3 => ?_
      have e4 : gRow (.tup us) = us.all gId := by
        show (lenT 12 (.tup us) && _) = _
        rw [q.2]
        rfl
      rw [← e4]
      exact k H3 ((e.trans e2).trans e3)
end
end Hs
namespace Hs
open PySem PySem.Spec PyProof.Rows L2 Hu Evl
section
variable {P : Program} {wd : World} {K : PySem.W.Frag} {mg : Str → Option Value} {base : Heap} {C : Addr}
theorem scStamp : FnScope ["thing"] ["thing"] (defScope sStamp) := ⟨rfl, rfl, rfl, by decide +kernel, rfl, by decide +kernel, by decide +kernel⟩
theorem shp2 (i j : Int) : SeqAt.shaped (.tuple [.int i, .int j]) = true := by
  show ((PyData.tuple [.int i, .int j]).canLay0 && decide ((PyData.tuple [.int i, .int j]).depth ≤ 64)) = true
  simp [PyData.canLay0, PyData.canLayAll0, PyData.depth, PyData.depthAll]
theorem eqv2 (i j k l : Int) : PyData.eqv (.tuple [.int i, .int j]) (.tuple [.int k, .int l]) = (decide (i = k) && decide (j = l)) := by
  simp only [PyData.eqv, PyData.eqvAll, Bool.and_true]
  congr 1
theorem dp2 {H : Hp} {p : Addr} {i j : Int} (h : H p = some (.tup [.int i, .int j])) : Dp K H (.ref p) (.tuple [.int i, .int j]) := .tup (st_of h) (.cons (.int i) (.cons (.int j) .nil))
theorem rv_eq2 {H : Hp} {p q : Addr} {i j k l : Int} (hp : H p = some (.tup [.int i, .int j])) (hq : H q = some (.tup [.int k, .int l])) : RV (rEqD K) (.ref p) (.ref q) H (.bl (decide (i = k) && decide (j = l))) := fun H1 e Q f =>
  ⟨_, _, dp2 (e _ _ hp), dp2 (e _ _ hq), shp2 _ _, shp2 _ _, by rw [eqv2]; exact f H1 (Ex.refl H1)⟩
theorem room_hu {k : Nat} {A : Around} (r : Room k A) : A.units + 64 < cLine := r.units
/-- a pair of integers -/
def ints2 (u : U) : Bool := tv u fun us => two us fun a b => gInt a && gInt b
theorem ints2_two {u : U} (h : ints2 u = true) : ∃ i j, u = .tup [.int i, .int j] := by
  cases u with
  | tup us =>
    match us, h with
    | [a, b], h =>
      have h1 : (gInt a && gInt b) = true := h
      rw [Bool.and_eq_true] at h1
      obtain ⟨i, rfl⟩ := gInt_int h1.1
      obtain ⟨j, rfl⟩ := gInt_int h1.2
      exact ⟨i, j, rfl⟩
  | _ => cases h
theorem jd_stamp {f f1 f2 f3 f4 : Addr} {fd d1 d2 d3 d4 : FuncData} (D : Df K mg "is_stamp" sStamp ["thing"] f fd) (S : Bs K mg C) (JP : Jd P wd K mg base C 1 "is_pair" "thing" f1 d1 gPair) (JI : Jd P wd K mg base C 1 "is_integer" "thing" f2 d2 gInt)
    (JF : Jd P wd K mg base C 2 "is_from_one" "thing" f3 d3 gFrom) (JH : Jd P wd K mg base C 2 "is_hand" "thing" f4 d4 gHand) : Jd P wd K mg base C 3 "is_stamp" "thing" f fd gStamp := by
  refine ⟨D.F.ok scStamp lenJ (fun cdv A outer s H vs Q E hr h => ?_), D.g, D.F.kp, D.b⟩
  obtain ⟨v, u, w, rfl, hat, fi, k⟩ := h
  refine ⟨_, pss_cons (ps_if (PW.pt (pw_or (pt_not (pt_val (pe_J JP hr (by decide) (by rfl) pass0 (pv 0)))) (pw_or (pt_not (pt_val (pe_J JI hr (by decide) (by rfl) pass0 (pe_ix ix_tup (pv 0) pe_int (fun _ _ => rfl)))))
      (pw_or1 (pt_not (pt_val (pe_J JI hr (by decide) (by rfl) pass0 (pe_ix ix_tup (pv 0) pe_int (fun _ _ => rfl)))))))))
      (pss_one (ps_ret pe_bl)) pss_nil)
    (pss_one (ps_ret (pe_or (pe_cmpR (op_eqD (room_hu hr)) (pv 0) (pe_tup (pa_cons pe_int (pa_cons pe_int pa_nil))) (nomark _)) (pe_one (pe_and (pe_J JF hr (by decide) (by rfl) pass0 (pe_ix ix_tup (pv 0) pe_int (fun _ _ => rfl)))
      (pe_one (pe_J JH hr (by decide) (by rfl) pass0 (pe_ix ix_tup (pv 0) pe_int (fun _ _ => rfl))))))))), ?_⟩
  have e0 : (!gPair u || (!(tv u fun us => two us fun a b => gInt a) || !ints2 u)) = !ints2 u := by
    cases u with
    | tup us =>
      match us with
      | [] => rfl
      | [a] => rfl
      | [a, b] =>
        show (!true || (!gInt a || !(gInt a && gInt b))) = !(gInt a && gInt b)
        cases gInt a <;> cases gInt b <;> rfl
      | a :: b :: c :: r => simp [gPair, tv, two, ints2]
    | _ => rfl
  refine s_if (b := !gPair u || (!(tv u fun us => two us fun a b => gInt a) || !ints2 u)) (et_or (et_not (et_B (ev_J (ev_var rfl) hat fi))) fun q => ?_) (fun q H1 e => ?_) (fun q H1 e => ?_)
  · rw [Bool.not_eq_false'] at q
    obtain ⟨a, b, rfl⟩ := gPair_two q
    obtain ⟨p, x, y, rfl, hp, ha, hb⟩ := pair_at hat
    refine et_or (et_not (et_B (ev_J (g := gInt) (u := a) (ev_ixT (j := 0) (ev_var rfl) hp rfl) ha fi.fst))) fun q2 => et_is (et_not (et_B (ev_J (g := gInt) (u := b) (ev_ixT (j := 1) (ev_var rfl) hp rfl) hb fi.snd))) ?_
    have q3 : (!gInt a) = false := q2
    rw [Bool.not_eq_false'] at q3
    show (!gInt b) = !(gInt a && gInt b)
    rw [q3]
    rfl
  · refine s_ret ev_c fun H2 e2 => ?_
    rw [e0] at q
    have e4 : gStamp u = false := by
      cases u with
      | tup us =>
        match us with
        | [] => rfl
        | [a] => rfl
        | [a, b] =>
          have q' : (!(gInt a && gInt b)) = true := q
          show (iv a fun i => iv b fun j => _) = false
          cases a <;> try rfl
          cases b <;> first | rfl | cases q'
        | a :: b :: c :: r => rfl
      | _ => rfl
    rw [← e4]
    exact k H2 (e.trans e2)
  · rw [e0, Bool.not_eq_false'] at q
    obtain ⟨i, j, rfl⟩ := ints2_two q
    obtain ⟨p, x, y, rfl, hp, ha, hb⟩ := pair_at (ex_at e hat)
    have hx := at_int ha
    have hy := at_int hb
    subst hx hy
    refine s_ret (ev_orV (ev_opU (ev_var rfl) (eu_tup (ea_cons ev_c (ea_cons ev_c ea_nil)) (by decide)) fun q H1 hq e1 => rv_eq2 (e1 _ _ hp) hq) fun _ => ev_andV (ev_J (ev_ixT (j := 0) (ev_var rfl) hp rfl) ha fi.fst) fun _ => ev_J (ev_ixT (j := 1) (ev_var rfl) hp rfl) hb fi.snd) fun H2 e2 => ?_
    exact k H2 (e.trans e2)
/-! ### rising -/
def spAsc : Sp := fun vs H Q _ => ∃ (a : Addr) (ns : List Int), vs = [.ref a] ∧ H a = some (.tup (ns.map V.int)) ∧ 1 ≤ ns.length ∧ ns.length ≤ 1000 ∧ ∀ H', Same H H' → Q (.bl (ascI ns)) H'
theorem scAsc : FnScope ["things", "k"] ["things"] (defScope sAscending) := ⟨rfl, rfl, rfl, by decide +kernel, rfl, by decide +kernel, by decide +kernel⟩
theorem scRising : FnScope ["things", "k"] ["things"] (defScope lRising) := ⟨rfl, rfl, rfl, by decide +kernel, rfl, by decide +kernel, by decide +kernel⟩
theorem given_all (n : Nat) (v : Nat → V) : given n (fun _ => true) v = (List.range n).map v := by
  unfold given
  rw [List.filter_eq_self.mpr fun _ _ => rfl]
theorem getD_at {ns : List Int} {i : Nat} (h : i < ns.length) : (ns.map V.int)[i]? = some (.int (ns.getD i 0)) := by
  rw [List.getElem?_map, List.getD_eq_getElem?_getD, List.getElem?_eq_getElem h]
  rfl
theorem ev_cb1 {r : List V → Hp → VK → Prop} {σ : L2.St} {H : Hp} {te : TE} {xs : List V} {z : V} (h : EvL te σ H xs) (hr : ∀ p H1, H1 p = some (.lst xs) → Ex H H1 → ∀ Q : VK, (∀ H2, Ex H1 H2 → Q z H2) → r [.ref p] H1 Q) : Ev (tCB r (tCons te tNil)) σ H z :=
  fun H0 e Q q => h H0 e _ fun p H1 hp e1 h1 => hr p H1 h1 (e.trans e1) Q fun H2 e2 => q H2 (e1.trans e2)
theorem asc_reads {σ : L2.St} {H : Hp} {a : Addr} {ns : List Int} (h0 : σ = [some (.ref a), none]) (ha : H a = some (.tup (ns.map V.int))) (h1 : 1 ≤ ns.length) (h2 : ns.length ≤ 1000) :
    Ev (tCB (rAll K) (tCons (tLc (iRng1 (tCons (tOp (rI0 fun i j => .int (i - j)) (tCB (rLenQ K) (tCons (tVar 0) tNil)) (tC (.int 1))) tNil)) (gName 1) tYes (tOp (rI0 fun i j => .bl (decide (i < j))) (tOp (rIxT K) (tVar 0) (tVar 1)) (tOp (rIxT K) (tVar 0) (tOp (rI0 fun i j => .int (i + j)) (tVar 1) (tC (.int 1))))) [1]) tNil)) σ H (.bl (ascI ns)) := by
  subst h0
  have hl : (ns.map V.int).length = ns.length := List.length_map ..
  have hn : (((ns.map V.int).length : Nat) : Int) - 1 = ((ns.length - 1 : Nat) : Int) := by
    rw [hl]
    omega
  have main : EvL (tLc (iRng1 (tCons (tOp (rI0 fun i j => .int (i - j)) (tCB (rLenQ K) (tCons (tVar 0) tNil)) (tC (.int 1))) tNil)) (gName 1) tYes (tOp (rI0 fun i j => .bl (decide (i < j))) (tOp (rIxT K) (tVar 0) (tVar 1)) (tOp (rIxT K) (tVar 0) (tOp (rI0 fun i j => .int (i + j)) (tVar 1) (tC (.int 1))))) [1]) [some (.ref a), none] H
      (given ((((ns.map V.int).length : Nat) : Int) - 1).toNat (fun _ => true) fun k => .bl (decide (ns.getD k 0 < ns.getD (k + 1) 0))) :=
    el_lcR1 (σ := [some (.ref a), none]) (j := 1) (vs := [1]) (n := (((ns.map V.int).length : Nat) : Int) - 1) (fun _ => true) (fun k => .bl (decide (ns.getD k 0 < ns.getD (k + 1) 0))) (ea_cons (ev_op (ev_lenT (ev_var rfl) ha) ev_c rv_I0) ea_nil) (by omega) (fun _ => rfl) (fun _ _ _ _ => et_yes) (fun i H2 e2 hi _ => by
      have hi' : i + 1 < ns.length := by omega
      have i1 : atI (ns.map V.int) (i : Int) = some (.int (ns.getD i 0)) := atI_nat (getD_at (by omega))
      have i2 : atI (ns.map V.int) ((i : Int) + 1) = some (.int (ns.getD (i + 1) 0)) := atI_nat (j := i + 1) (getD_at hi')
      exact ev_op (ev_op (ev_var rfl) (ev_var rfl) (rv_ixT (st_of (e2 _ _ ha)) i1)) (ev_op (ev_var rfl) (ev_op (ev_var rfl) ev_c rv_I0) (rv_ixT (st_of (e2 _ _ ha)) i2)) rv_I0)
  refine ev_cb1 main fun p H2 h2 e2 Q q => ⟨p, (List.range (ns.length - 1)).map fun k => decide (ns.getD k 0 < ns.getD (k + 1) 0), rfl, sq_of ?_, ?_⟩
  · rw [h2, hn, given_all, Int.toNat_natCast, List.map_map]
    rfl
  · have e : ((List.range (ns.length - 1)).map fun k => decide (ns.getD k 0 < ns.getD (k + 1) 0)).all id = ascI ns := by
      rw [List.all_map]
      rfl
    rw [e]
    exact q H2 (Ex.refl H2)
theorem ok_asc {f : Addr} {fd : FuncData} (F : Fun K "is_ascending" "is_ascending" sAscending f fd) (B : Bt mg) : FnOk P wd K mg base CX0 1 f fd ["things"] spAsc := by
  refine F.ok scAsc (fun vs H Q E h => ?_) (fun cdv A outer s H vs Q E hr h => ?_)
  · obtain ⟨n, m, rfl, _⟩ := h
    rfl
  · obtain ⟨a, ns, rfl, ha, h1, h2, k⟩ := h
    refine ⟨_, pss_one (ps_ret (pe_callB (cr_all rfl) (by rfl) B.all boot_all' (pa_cons (pe_lc (own := [("k", 1)]) (g := gName 1) (tt := tYes) rfl scAsc.nd (pi_range1 (by rfl) B.range (pa_cons (pe_op op_sub (pe_callB call_len_seq (by rfl) B.len PySem.boot_len (pa_cons (pv 0) pa_nil)) pe_int) pa_nil)) (blkOk_by (N := ["things", "k"]) (sc := defScope sAscending) (by decide +kernel))
      (fun _ _ _ _ _ => pg_name (i := 1) scAsc.nd rfl (Or.inl rfl)) (fun _ _ _ _ _ => pts_nil) (fun _ _ _ _ _ => pe_cmpR op_lt (pe_ix (show IxR _ (rIxT K) from ix_tup) (pv 0) (pv 1) (fun _ _ => rfl)) (pe_ix (show IxR _ (rIxT K) from ix_tup) (pv 0) (pe_op op_add (pv 1) pe_int) (fun _ _ => rfl)) (nomark _))) pa_nil))), ?_⟩
    exact s_ret (asc_reads rfl ha h1 h2) k
theorem ok_rising {f : Addr} {fd : FuncData} (F : Fun K "_law_rising" "_law_rising" lRising f fd) (B : Bt mg) : FnOk P wd K mg base CX0 1 f fd ["things"] spAsc := by
  refine F.ok scRising (fun vs H Q E h => ?_) (fun cdv A outer s H vs Q E hr h => ?_)
  · obtain ⟨n, m, rfl, _⟩ := h
    rfl
  · obtain ⟨a, ns, rfl, ha, h1, h2, k⟩ := h
    refine ⟨_, pss_one (ps_ret (pe_callB (cr_all rfl) (by rfl) B.all boot_all' (pa_cons (pe_lc (own := [("k", 1)]) (g := gName 1) (tt := tYes) rfl scRising.nd (pi_range1 (by rfl) B.range (pa_cons (pe_op op_sub (pe_callB call_len_seq (by rfl) B.len PySem.boot_len (pa_cons (pv 0) pa_nil)) pe_int) pa_nil)) (blkOk_by (N := ["things", "k"]) (sc := defScope lRising) (by decide +kernel))
      (fun _ _ _ _ _ => pg_name (i := 1) scRising.nd rfl (Or.inl rfl)) (fun _ _ _ _ _ => pts_nil) (fun _ _ _ _ _ => pe_cmpR op_lt (pe_ix (show IxR _ (rIxT K) from ix_tup) (pv 0) (pv 1) (fun _ _ => rfl)) (pe_ix (show IxR _ (rIxT K) from ix_tup) (pv 0) (pe_op op_add (pv 1) pe_int) (fun _ _ => rfl)) (nomark _))) pa_nil))), ?_⟩
    exact s_ret (asc_reads rfl ha h1 h2) k
/-! ### members -/
theorem ints_of {w : Addr} {H : Hp} : ∀ {us : List U} {xs : List V}, AtL w C H xs us → us.all gInt = true → xs = (us.map intU).map V.int
  | _, _, .nil, _ => rfl
  | u :: us, _, .cons h l, q => by
    rw [List.all_cons, Bool.and_eq_true] at q
    obtain ⟨i, rfl⟩ := gInt_int q.1
    rw [ints_of l q.2, at_int h]
    rfl
theorem home_int {u : U} (h : gHome u = true) : gInt u = true := by
  cases u with
  | int i => rfl
  | _ => cases h
theorem homes_ints {us : List U} (h : us.all gHome = true) : us.all gInt = true := List.all_eq_true.mpr fun u hu => home_int (List.all_eq_true.mp h u hu)
theorem scMembers : FnScope ["thing", "item"] ["thing"] (defScope sMembers) := ⟨rfl, rfl, rfl, by decide +kernel, rfl, by decide +kernel, by decide +kernel⟩
def lenB (lo hi : Nat) (u : U) : Bool := tv u fun us => decide (lo ≤ us.length) && decide (us.length ≤ hi)
theorem spv_asc {H : Hp} {a : Addr} {ns : List Int} (ha : H a = some (.tup (ns.map V.int))) (h1 : 1 ≤ ns.length) (h2 : ns.length ≤ 1000) : SpV spAsc [.ref a] H (.bl (ascI ns)) := fun H1 e Q q E => ⟨a, ns, rfl, e _ _ ha, h1, h2, q⟩
theorem jd_members {f f1 f2 : Addr} {fd d1 d2 : FuncData} (D : Df K mg "is_members" sMembers ["thing"] f fd) (S : Bs K mg C) (N : Cn mg) (J : Jd P wd K mg base C 2 "is_home" "thing" f1 d1 gHome) (DA : Df K mg "is_ascending" sAscending ["things"] f2 d2) :
    Jd P wd K mg base C 4 "is_members" "thing" f fd gMembers := by
  refine ⟨D.F.ok scMembers lenJ (fun cdv A outer s H vs Q E hr h => ?_), D.g, D.F.kp, D.b⟩
  obtain ⟨v, u, w, rfl, hat, fi, k⟩ := h
  obtain ⟨t, h9⟩ := N.homes
  have GA : FnOk P wd K mg base CX0 3 f2 d2 ["things"] spAsc := (ok_asc DA.F S.B).mono (by decide)
  refine ⟨_, pss_cons (ps_if (PW.pt (pw_or (pt_not (pt_val (pe_isiX S (by rfl) (by rfl) S.B.tup boot_tuple' (by decide) (pv 0) (by decide) (by decide))))
      (pw_or1 (pt_not (pt_chain op_le op_le pe_int (pe_callB call_len_seq (by rfl) S.B.len PySem.boot_len (pa_cons (pv 0) pa_nil)) (pe_glob (v := .int 9) rfl h9 ⟨_, rfl⟩))))))
      (pss_one (ps_ret pe_bl)) pss_nil)
    (pss_one (ps_ret (pe_and (pe_callB (cr_all rfl) (by rfl) S.B.all boot_all' (pa_cons (pe_lc (own := [("item", 1)]) (g := gName 1) (tt := tYes) rfl scMembers.nd (pi_tup (pv 0)) (blkOk_by (N := ["thing", "item"]) (sc := defScope sMembers) (by decide +kernel))
      (fun _ _ _ _ _ => pg_name (i := 1) scMembers.nd rfl (Or.inl rfl)) (fun _ _ _ _ _ => pts_nil) (fun _ _ _ _ _ => pe_J J hr (by decide) (by rfl) pass0 (pv 1))) pa_nil))
      (pe_one (pe_call GA hr (by rfl) DA.g DA.F.kp DA.b .nil pass0 (pa_cons (pv 0) pa_nil)))))), ?_⟩
  refine s_if (b := !isT u "tuple" || !lenB 1 9 u) (et_or (et_not (et_B (ev_isi (ev_var rfl) hat))) fun q => ?_) (fun q H1 e => ?_) (fun q H1 e => ?_)
  · rw [Bool.not_eq_false'] at q
    obtain ⟨us, rfl⟩ := isT_tup q
    obtain ⟨a, xs, rfl, ha, _, hl⟩ := at_tup hat
    exact et_not (et_test (ev_is (ev_chain ev_c (ev_lenTU (K := K) (ev_var rfl) ha hl) ev_c rv_I0 fun _ => rv_I0) (by rw [show (9 : Int) = ((9 : Nat) : Int) from rfl, show (1 : Int) = ((1 : Nat) : Int) from rfl, dec_le, dec_le]; rfl)))
  · refine s_ret ev_c fun H2 e2 => ?_
    have e3 : gMembers u = false := by
      cases u with
      | tup us =>
        simp [isT, isS, tyU] at q
        show ((lenB 1 9 (.tup us) && _) && _) = false
        rw [q]
        rfl
      | _ => rfl
    rw [← e3]
    exact k H2 (e.trans e2)
  · rw [Bool.or_eq_false_iff, Bool.not_eq_false', Bool.not_eq_false'] at q
    obtain ⟨us, rfl⟩ := isT_tup q.1
    obtain ⟨a, xs, rfl, ha, _, hl⟩ := at_tup (ex_at e hat)
    have hb : (decide (1 ≤ us.length) && decide (us.length ≤ 9)) = true := q.2
    rw [Bool.and_eq_true] at hb
    have b1 : 1 ≤ us.length := of_decide_eq_true hb.1
    have b2 : us.length ≤ 9 := of_decide_eq_true hb.2
    refine s_ret (ev_andV (b := ascI (us.map intU)) (ev_allT (g := gHome) (ev_var rfl) ha fi.len hl (fun _ => rfl) fun x u hu hx => ev_J (ev_var rfl) hx (fi.tup u hu)) fun q2 => ?_) fun H2 e2 => ?_
    · have hx := ints_of hl (homes_ints q2)
      rw [hx] at ha
      exact ev_call (ea_cons (ev_var rfl) ea_nil) (spv_asc ha (by rw [List.length_map]; exact b1) (by rw [List.length_map]; omega))
    · have e3 : gMembers (.tup us) = (us.all gHome && ascI (us.map intU)) := by
        show ((lenB 1 9 (.tup us) && us.all gHome) && _) = _
        rw [q.2]
        rfl
      rw [← e3]
      exact k H2 (e.trans e2)
end
end Hs
/-! tuples of integers and texts: which is less -/
namespace Hk
open PySem PySem.Spec PyProof.Rows L2
/-- two keys of one kind -/
def kin : L2.Key → L2.Key → Bool
  | .inl _, .inl _ => true
  | .inr _, .inr _ => true
  | _, _ => false
def kEq : L2.Key → L2.Key → Bool
  | .inl i, .inl j => i == j
  | .inr x, .inr y => x == y
  | _, _ => false
def kLt : L2.Key → L2.Key → Bool
  | .inl i, .inl j => decide (i < j)
  | .inr x, .inr y => decide (x.cps.toList < y.cps.toList)
  | _, _ => false
/-- by the first pair that differs -/
def ltK : List L2.Key → List L2.Key → Bool
  | [], [] => false
  | [], _ :: _ => true
  | _ :: _, [] => false
  | k :: ks, l :: ls => if kEq k l = true then ltK ks ls else kLt k l
def kinds : List L2.Key → List L2.Key → Bool
  | k :: ks, l :: ls => kin k l && kinds ks ls
  | _, _ => true
theorem kEq_iff {k l : L2.Key} : kEq k l = true ↔ k = l := by
  cases k with
  | inl i => cases l with
    | inl j => simp [kEq]
    | inr y => simp [kEq]
  | inr x => cases l with
    | inl j => simp [kEq]
    | inr y => simp [kEq]
def d0 : L2.Key := .inl 0
theorem lexAt_is : ∀ (ks ls : List L2.Key) (i : Nat) (e r : Nat → Bool), (∀ j, e (i + j) = kEq (ks.getD j d0) (ls.getD j d0)) → (∀ j, r (i + j) = kLt (ks.getD j d0) (ls.getD j d0)) →
    Ob.lexAt e r (decide (ks.length < ls.length)) i (min ks.length ls.length) = ltK ks ls
  | [], [], i, e, r, _, _ => rfl
  | [], _ :: _, i, e, r, _, _ => by
    show Ob.lexAt e r _ i 0 = true
    rw [Ob.lexAt_zero]
    simp
  | _ :: _, [], i, e, r, _, _ => by
    show Ob.lexAt e r _ i 0 = false
    rw [Ob.lexAt_zero]
    simp
  | k :: ks, l :: ls, i, e, r, he, hr => by
    have h0 := he 0
    have h1 := hr 0
    rw [Nat.add_zero] at h0 h1
    have ih := lexAt_is ks ls (i + 1) e r (fun j => by
      have := he (j + 1)
      rw [show i + 1 + j = i + (j + 1) from by omega, this]
      rfl) (fun j => by
      have := hr (j + 1)
      rw [show i + 1 + j = i + (j + 1) from by omega, this]
      rfl)
    have el : decide ((k :: ks).length < (l :: ls).length) = decide (ks.length < ls.length) := by
      rw [List.length_cons, List.length_cons]
      by_cases q : ks.length < ls.length
      · rw [decide_eq_true q, decide_eq_true (by omega)]
      · rw [decide_eq_false q, decide_eq_false (by omega)]
    have em : min (k :: ks).length (l :: ls).length = min ks.length ls.length + 1 := by
      rw [List.length_cons, List.length_cons]
      omega
    rw [el, em, Ob.lexAt_succ, ih, h0, h1]
    rfl
section
variable {X : Cx}
def rLtK (K : PySem.W.Frag) : R2 := fun x y H Q => ∃ (a b : Addr) (ks ls : List L2.Key), x = .ref a ∧ y = .ref b ∧ SqT K H a (ks.map kV) ∧ SqT K H b (ls.map kV) ∧ kinds ks ls = true ∧ Q (.bl (ltK ks ls)) H
theorem rel_at : ∀ {ks : List L2.Key} {us : List Value}, Vals (ks.map kV) us → ∀ j (h : j < us.length), RelV (kV (ks.getD j d0)) us[j]
  | [], us, r, j, h => by
    cases r
    exact absurd h (Nat.not_lt_zero _)
  | k :: ks, us, r, j, h => by
    rw [List.map_cons] at r
    cases r with
    | cons r1 r2 =>
      cases j with
      | zero => exact r1
      | succ j => exact rel_at r2 j (Nat.lt_of_succ_lt_succ h)
theorem kinds_at : ∀ {ks ls : List L2.Key}, kinds ks ls = true → ∀ j, j < ks.length → j < ls.length → kin (ks.getD j d0) (ls.getD j d0) = true
  | [], _, _, j, h, _ => absurd h (Nat.not_lt_zero _)
  | _ :: _, [], _, j, _, h => absurd h (Nat.not_lt_zero _)
  | k :: ks, l :: ls, q, j, h1, h2 => by
    unfold kinds at q
    rw [Bool.and_eq_true] at q
    cases j with
    | zero => exact q.1
    | succ j => exact kinds_at q.2 j (Nat.lt_of_succ_lt_succ h1) (Nat.lt_of_succ_lt_succ h2)
theorem op_ltK (hu : X.A.units < cLine) : OpR X (compareOp .Lt) (rLtK X.K) := by
  intro pins s σ H x y v u Q I rx ry h
  obtain ⟨a, b, ks, ls, rfl, rfl, ha, hb, hk, q⟩ := h
  cases rx
  cases ry
  obtain ⟨xs, r1, p1, _⟩ := I.tuple ha
  obtain ⟨ys, r2, p2, _⟩ := I.tuple hb
  have l1 : xs.toArray.size = ks.length := by
    have := r1.length
    rw [List.length_map] at this
    rw [List.size_toArray, this]
  have l2 : ys.toArray.size = ls.length := by
    have := r2.length
    rw [List.length_map] at this
    rw [List.size_toArray, this]
  have main := Ob.RcOp.tuples_lt (A := X.A) (s := s) (e := fun j => kEq (ks.getD j d0) (ls.getD j d0)) (r := fun j => kLt (ks.getD j d0) (ls.getD j d0)) p1 p2 hu (fun j h1 h2 => by
    have v1 := rel_at r1 j (by simpa using h1)
    have v2 := rel_at r2 j (by simpa using h2)
    have kk := kinds_at hk j (l1 ▸ h1) (l2 ▸ h2)
    have g1 : xs.toArray[j] = xs[j]'(by simpa using h1) := by simp
    have g2 : ys.toArray[j] = ys[j]'(by simpa using h2) := by simp
    rw [g1, g2]
    generalize ks.getD j d0 = k at v1 kk ⊢
    generalize ls.getD j d0 = l at v2 kk ⊢
    cases k with
    | inl i => cases l with
      | inl j =>
        obtain ⟨t, e1⟩ := v1
        obtain ⟨t', e2⟩ := v2
        rw [e1, e2]
        exact SeqAt.EqAt.int_int _ _ _ _
      | inr y => cases kk
    | inr z => cases l with
      | inl j => cases kk
      | inr y =>
        obtain ⟨t, e1⟩ := v1
        obtain ⟨t', e2⟩ := v2
        rw [e1, e2]
        exact SeqAt.EqAt.str_str _ _ _ _) (fun j h1 h2 _ => by
    have v1 := rel_at r1 j (by simpa using h1)
    have v2 := rel_at r2 j (by simpa using h2)
    have kk := kinds_at hk j (l1 ▸ h1) (l2 ▸ h2)
    have g1 : xs.toArray[j] = xs[j]'(by simpa using h1) := by simp
    have g2 : ys.toArray[j] = ys[j]'(by simpa using h2) := by simp
    rw [g1, g2]
    generalize ks.getD j d0 = k at v1 kk ⊢
    generalize ls.getD j d0 = l at v2 kk ⊢
    cases k with
    | inl i => cases l with
      | inl j =>
        obtain ⟨t, e1⟩ := v1
        obtain ⟨t', e2⟩ := v2
        rw [e1, e2]
        exact Ob.RcOp.lt_int _ _ _ _
      | inr y => cases kk
    | inr z => cases l with
      | inl j => cases kk
      | inr y =>
        obtain ⟨t, e1⟩ := v1
        obtain ⟨t', e2⟩ := v2
        rw [e1, e2]
        exact fun prog w E Q h => PyProof.Rows.lt_str h)
  rw [l1, l2, lexAt_is ks ls 0 _ _ (fun j => by rw [Nat.zero_add]) (fun j => by rw [Nat.zero_add])] at main
  exact main X.prog X.w X.xe (EP X pins σ Q) ⟨.bl (ltK ks ls), H, I, rfl, q⟩
end
/-! ### a strict order -/
theorem strLt_irrefl (a : List Nat) : ¬ a < a := List.lt_irrefl a
theorem kLt_irrefl (k : L2.Key) : kLt k k = false := by
  cases k with
  | inl i => simp [kLt]
  | inr x => exact decide_eq_false (List.lt_irrefl _)
end Hk
namespace PySem.SeqAt
open PySem PySem.Spec PyProof.Rows
theorem dict_eq_declines_tuple (l b : Addr) (es : Array DictEntry) (items2 : Array Value) (n n2 : Nat) (dd dd2 : Option Addr) (sl sl2 : Array (Option Value)) :
    Meets (Builtin.«dict.__eq__» ⟨[.ref l, .ref b], []⟩) (fun _ R s => s.heap.get? l = some { cls := .type "dict", dict := dd, data := .dict es n, slots := sl } ∧ s.heap.get? b = some { cls := .type "tuple", dict := dd2, data := .seq items2 n2, slots := sl2 } ∧ R (.ok (.ret .notImplemented)) s) :=
  .of_wp fun prog w A R s h => by obtain ⟨hp, g, d, tk, os⟩ := s; obtain ⟨hl, hb, h⟩ := h; have f1 := F.sub_tuple_dict; wp_walk using wpAny_loadPart' hl, wpAny_loadPart' hb; exact ⟨_, rfl, h⟩
theorem tuple_eq_declines_dict (l b : Addr) (items : Array Value) (es : Array DictEntry) (n n2 : Nat) (dd dd2 : Option Addr) (sl sl2 : Array (Option Value)) :
    Meets (Builtin.«tuple.__eq__» ⟨[.ref l, .ref b], []⟩) (fun _ R s => s.heap.get? l = some { cls := .type "tuple", dict := dd, data := .seq items n, slots := sl } ∧ s.heap.get? b = some { cls := .type "dict", dict := dd2, data := .dict es n2, slots := sl2 } ∧ R (.ok (.ret .notImplemented)) s) :=
  .of_wp fun prog w A R s h => by obtain ⟨hp, g, d, tk, os⟩ := s; obtain ⟨hl, hb, h⟩ := h; have f1 := F.sub_dict_tuple; wp_walk using wpAny_loadPart' hl, wpAny_loadPart' hb; exact ⟨_, rfl, h⟩
theorem dict_eq_declines_int (l : Addr) (es : Array DictEntry) (n : Nat) (dd : Option Addr) (sl : Array (Option Value)) (b : Int) (u : Tok) :
    Meets (Builtin.«dict.__eq__» ⟨[.ref l, .int b u], []⟩) (fun _ R s => s.heap.get? l = some { cls := .type "dict", dict := dd, data := .dict es n, slots := sl } ∧ R (.ok (.ret .notImplemented)) s) :=
  .of_wp fun prog w A R s h => by obtain ⟨hp, g, d, tk, os⟩ := s; obtain ⟨hl, h⟩ := h; have f1 := F.sub_int_dict; wp_walk using wpAny_loadPart' hl; exact ⟨_, rfl, h⟩
theorem int_eq_declines_dict (b : Int) (u : Tok) (l : Addr) (es : Array DictEntry) (n : Nat) (dd : Option Addr) (sl : Array (Option Value)) :
    Meets (Builtin.«int.__eq__» ⟨[.int b u, .ref l], []⟩) (fun _ R s => s.heap.get? l = some { cls := .type "dict", dict := dd, data := .dict es n, slots := sl } ∧ R (.ok (.ret .notImplemented)) s) :=
  .of_wp fun prog w A R s h => by obtain ⟨hp, g, d, tk, os⟩ := s; obtain ⟨hl, h⟩ := h; wp_walk using wpAny_loadPart' hl, wpAny_load hl; exact ⟨_, rfl, h⟩
section
variable {A : Around} {s : Shared}
theorem RcAt.dict_int {l : Addr} {es : Array DictEntry} {n : Nat} {dd : Option Addr} {sl : Array (Option Value)} (b : Int) (u : Tok) (ho : s.heap.get? l = some { cls := .type "dict", dict := dd, data := .dict es n, slots := sl }) (hu : A.units < cLine) : RcAt A s (.ref l) (.int b u) false := fun prog w E Q h =>
  rc_eq_decline_or (k := false) ⟨_, ho, rfl⟩ (typeIs_int s b u) (by decide) F.sub_int_dict F.slot_dict_eq F.slot_int_eq_refl
    (fun _ hq => call_meets F.slot_dict_eq ⟨_, ho, rfl⟩ F.entry_dict_eq (F.args_dict_eq_2 _ _) (dict_eq_declines_int l es n dd sl b u) ⟨ho, hq⟩)
    (fun _ hq => call_meets F.slot_int_eq_refl (typeIs_int s b u) F.entry_int_eq (F.args_int_eq_2 _ _) (int_eq_declines_dict b u l es n dd sl) ⟨ho, hq⟩)
    (fun _ hq => wpAny_of_eq (rfl : isSame (.ref l) (.int b u) = pure false) hq) (.inr hu) h
theorem EqAt.dict_int {l : Addr} {es : Array DictEntry} {n : Nat} {dd : Option Addr} {sl : Array (Option Value)} (b : Int) (u : Tok) (ho : s.heap.get? l = some { cls := .type "dict", dict := dd, data := .dict es n, slots := sl }) (hu : A.units < cLine) : EqAt A s (.ref l) (.int b u) false := fun prog w E Q h => by
  unfold eqBool
  refine wpAny_holding ?_
  refine wpAny_ite_split (fun hab => absurd (eq_of_beq hab) nofun) (fun _ => ?_)
  exact wpAny_bind (RcAt.dict_int b u ho hu prog w E _ (wpAny_truthy_bool h))
theorem RcAt.dict_tuple {l b : Addr} {es : Array DictEntry} {n : Nat} {dd : Option Addr} {sl : Array (Option Value)} {items2 : Array Value} (ho : s.heap.get? l = some { cls := .type "dict", dict := dd, data := .dict es n, slots := sl }) (hb : s.heap.IsTuple b items2) (hu : A.units < cLine) : RcAt A s (.ref l) (.ref b) false := by
  obtain ⟨⟨cls2, dd2, data2, sl2⟩, ho2, hc2, n2, hd2⟩ := id hb
  simp only at hc2 hd2
  subst hc2 hd2
  have hne : l ≠ b := fun e => by
    subst e
    have e1 := congrArg (Option.map Obj.data) (ho.symm.trans ho2)
    cases e1
  exact fun prog w E Q h => rc_eq_decline_or (k := false) ⟨_, ho, rfl⟩ ⟨_, ho2, rfl⟩ (by decide) F.sub_tuple_dict F.slot_dict_eq F.slot_tuple_eq_refl
    (fun _ hq => call_meets F.slot_dict_eq ⟨_, ho, rfl⟩ F.entry_dict_eq (F.args_dict_eq_2 _ _) (dict_eq_declines_tuple l b es items2 n n2 dd dd2 sl sl2) ⟨ho, ho2, hq⟩)
    (fun _ hq => call_meets F.slot_tuple_eq_refl ⟨_, ho2, rfl⟩ F.entry_tuple_eq (F.args_tuple_eq_2 _ _) (tuple_eq_declines_dict b l items2 es n2 n dd2 dd sl2 sl) ⟨ho2, ho, hq⟩)
    (fun _ hq => wpAny_isSame_ref_other hne ho ho2 (by simp) hq) (.inr hu) h
theorem EqAt.dict_tuple {l b : Addr} {es : Array DictEntry} {n : Nat} {dd : Option Addr} {sl : Array (Option Value)} {items2 : Array Value} (ho : s.heap.get? l = some { cls := .type "dict", dict := dd, data := .dict es n, slots := sl }) (hb : s.heap.IsTuple b items2) (hu : A.units < cLine) : EqAt A s (.ref l) (.ref b) false := by
  have hne : l ≠ b := fun e => by
    obtain ⟨o2, ho2, hc2, n2, hd2⟩ := hb
    subst e
    have e1 := congrArg (Option.map Obj.data) (ho.symm.trans ho2)
    have e2 : some (Data.dict es n) = some o2.data := e1
    rw [hd2] at e2
    cases e2
  exact .of_refs hne (RcAt.dict_tuple ho hb hu)
end
end PySem.SeqAt
namespace HX
open PySem PySem.Spec PyProof.Rows PySem.SeqAt
section
variable {prog : Program} {w : World} {A : Around} {E : Value → Shared → Prop} {s : Shared} {K : PySem.W.Frag} {x C : Addr} {ox : Obj} {od : Option Obj}
/-- what compares with an instance without an __eq__ of its own -/
theorem entry_other {M : Model} {y : Value} {Q : Fin → Shared → Prop} (hs : ∀ Q' : Bool → Shared → Prop, Q' false s → wpAny M A (isSame (.ref x) y) Q' E s) (hq : Q (.done (.ret .notImplemented)) s) : wpAny M A (Builtin.«object.__eq__» ⟨[.ref x, y], []⟩) Q E s := by
  unfold Builtin.«object.__eq__»
  repeat (first | with_reducible refine hs _ ?_ | wp_step)
  exact hq
theorem rc_other {y : Value} {T : String} (hu : A.units < cLine) (X : K.In s.heap) (I : PySem.W.InstAt s.heap x ox C od) (hm : PySem.W.mroIn K C (.type "object") = some true) (hs : PySem.W.findIn K (.ref C) "__eq__" = some (some (.builtin "object.__eq__")))
    (hy : s.TypeIs y T) (hsame : ∀ (M : Model) (A' : Around) (E' : Value → Shared → Prop) (Q' : Bool → Shared → Prop), Q' false s → wpAny M A' (isSame (.ref x) y) Q' E' s) (sub : PySem.W.subIn K (.type T) (.ref C) = some false)
    (two : ∀ (prog : Program) (w : World) (E : Value → Shared → Prop), wpAny (model prog w) A (tryCompare y "__eq__" (.ref x)) (fun r s' => r = none ∧ s' = s) E s) :
    RcAt A s (.ref x) y false := fun prog w E Q h => by
  have callObj : ∀ Q : Value → Shared → Prop, Q .notImplemented s → wpAny (model prog w) A (call (.builtin "object.__eq__") [.ref x, y]) Q E s := fun Q hq =>
    wpAny_call (codeAny_call_builtin F.cmp_object.eq.plain F.cmpEntry_eq (PySem.W.check_slot F.cmpKind_eq F.cmpSplit_eq (I.type.andThen (PySem.W.looks_mroIn X hm)) (F.cmpArgs_eq _ _) (entry_other (fun Q' q => hsame _ _ _ Q' q) hq)))
  have one : wpAny (model prog w) A (tryCompare (.ref x) "__eq__" y) (fun r s' => r = none ∧ s' = s) E s := by
    unfold tryCompare
    exact wpAny_bind (HN.ifBound_objEq X I hs (callObj _ (wpAny_pure ⟨rfl, rfl⟩)))
  simp only [richCompare, cmpInfo_Eq, oneThing_ref]
  refine wpAny_holding (wpAny_bind (wpAny_cRoomFor hu ?_))
  refine wpAny_bind (I.type.here ?_)
  refine wpAny_bind (wpAny_typeOf hy ?_)
  split
  · refine wpAny_bind ((PySem.W.looks_subIn X sub).here ?_)
    simp only [Bool.false_eq_true, if_false, Bool.not_false, if_true]
    refine wpAny_bind (m := tryCompare (.ref x) _ y) (wpAny_mono one (fun r s1 z => ?_) fun _ _ e => e)
    obtain ⟨z1, z2⟩ := z
    subst z1
    subst z2
    refine wpAny_bind (m := tryCompare y _ (.ref x)) (wpAny_mono (two prog w E) (fun r s2 z => ?_) fun _ _ e => e)
    obtain ⟨z1, z2⟩ := z
    subst z1
    subst z2
    exact wpAny_bind (wpAny_rule (wpAny_bind (hsame _ _ _ _ (wpAny_pure h))))
  · rename_i q
    exact absurd (by simp) q
theorem sub_of {T : String} (e : fastBuiltinMro T = some [.type T, .type "object"]) : PySem.W.subIn K (.type T) (.ref C) = some false := by
  show (fastBuiltinMro T).map (·.contains (.ref C)) = some false
  rw [e]
  first
    | rfl
    | simp
/-- an instance is no tuple -/
theorem isi_tup {M : Model} {R : Bool → Shared → Prop} (X : K.In s.heap) (I : PySem.W.InstAt s.heap x ox C od) (st : PySem.W.subIn K (.ref C) (.type "tuple") = some false) (h : R false s) : wpAny M A (isInstance (.ref x) (.type "tuple")) R E s := by
  simp only [isInstance]
  exact wpAny_bind (I.type.here ((PySem.W.looks_subIn X st).here h))
theorem rcAt_tup {b : Addr} {items : Array Value} (hu : A.units < cLine) (X : K.In s.heap) (I : PySem.W.InstAt s.heap x ox C od) (hm : PySem.W.mroIn K C (.type "object") = some true) (hs : PySem.W.findIn K (.ref C) "__eq__" = some (some (.builtin "object.__eq__"))) (st : PySem.W.subIn K (.ref C) (.type "tuple") = some false)
    (hb : s.heap.IsTuple b items) : RcAt A s (.ref x) (.ref b) false := by
  obtain ⟨⟨cls2, dd2, data2, sl2⟩, ho2, hc2, n2, hd2⟩ := id hb
  simp only at hc2 hd2
  subst hc2 hd2
  have hne : x ≠ b := fun e => by
    subst e
    have e1 := congrArg (Option.map Obj.cls) (I.at_.symm.trans ho2)
    have e2 : some ox.cls = some (Value.type "tuple") := e1
    rw [I.cls] at e2
    cases e2
  refine rc_other (T := "tuple") hu X I hm hs ⟨_, ho2, rfl⟩ (fun M A' E' Q' q => wpAny_isSame_ref_other hne I.at_ ho2 (by simp; rw [I.cls]; exact fun e => by cases e) q) (sub_of (by decide +kernel)) fun prog w E => ?_
  refine wpAny_tryCompare_declines ⟨_, ho2, rfl⟩ F.slot_tuple_eq_refl (wpAny_call_entry F.slot_tuple_eq_refl ⟨_, ho2, rfl⟩ F.entry_tuple_eq ?_ (F.args_tuple_eq_2 _ _))
  unfold Builtin.«tuple.__eq__»
  wp_walk using isi_tup X I st
  exact ⟨_, rfl, rfl, rfl, rfl⟩
theorem rcAt_int {vs : Array Value} (b : Int) (u : Tok) (hu : A.units < cLine) (X : K.In s.heap) (I : PySem.W.InstAt s.heap x ox C od) (hm : PySem.W.mroIn K C (.type "object") = some true) (hs : PySem.W.findIn K (.ref C) "__eq__" = some (some (.builtin "object.__eq__"))) (hd : ox.data = .fields vs) :
    RcAt A s (.ref x) (.int b u) false := by
  obtain ⟨cls, dd, data, sl⟩ := ox
  simp only at hd
  subst hd
  have ho := I.at_
  exact rc_other (T := "int") hu X I hm hs (typeIs_int s b u) (fun M A' E' Q' q => wpAny_of_eq (rfl : isSame (.ref x) (.int b u) = pure false) q) (sub_of (by decide +kernel)) fun prog w E => by
    refine wpAny_tryCompare_declines (typeIs_int s b u) F.slot_int_eq_refl (wpAny_call_entry F.slot_int_eq_refl (typeIs_int s b u) F.entry_int_eq ?_ (F.args_int_eq_2 _ _))
    obtain ⟨hp, g, d, tk, os⟩ := s
    unfold Builtin.«int.__eq__»
    wp_walk using wpAny_loadPart' ho, wpAny_load ho
    exact ⟨_, rfl, rfl, rfl, rfl⟩
theorem eqAt_tup {b : Addr} {items : Array Value} (hu : A.units < cLine) (X : K.In s.heap) (I : PySem.W.InstAt s.heap x ox C od) (hm : PySem.W.mroIn K C (.type "object") = some true) (hs : PySem.W.findIn K (.ref C) "__eq__" = some (some (.builtin "object.__eq__"))) (st : PySem.W.subIn K (.ref C) (.type "tuple") = some false)
    (hb : s.heap.IsTuple b items) : EqAt A s (.ref x) (.ref b) false := by
  have hne : x ≠ b := fun e => by
    obtain ⟨o2, ho2, hc2, _⟩ := hb
    subst e
    have e1 := congrArg (Option.map Obj.cls) (I.at_.symm.trans ho2)
    have e2 : some ox.cls = some o2.cls := e1
    rw [I.cls, hc2] at e2
    cases e2
  exact .of_refs hne (rcAt_tup hu X I hm hs st hb)
end
end HX
/-! any value against an empty tuple; a tuple of such against four empty ones; is_ascending of anything that compares -/
namespace Hs
open PySem PySem.Spec PyProof.Rows L2 Hu Evl
/-- compared with (): nothing, a flag, an integer, a text, a tuple, a list -/
inductive Nc (K : PySem.W.Frag) (H : Hp) : V → Bool → Prop
  | non : Nc K H .non false
  | bl (b : Bool) : Nc K H (.bl b) false
  | int (i : Int) : Nc K H (.int i) false
  | str (z : Str) : Nc K H (.str z) false
  | tup {a : Addr} {xs : List V} : SqT K H a xs → Nc K H (.ref a) xs.isEmpty
  | lst {a : Addr} {xs : List V} : SqL K H a xs → Nc K H (.ref a) false
  | dct {a : Addr} {kvs : List (L2.Key × V)} : H a = some (.dK kvs) → Nc K H (.ref a) false
  | exc {a t C : Addr} : Eqx K C → H a = some (ExN C t a) → Nc K H (.ref a) false
/-- compared with an integer -/
inductive Ni (K : PySem.W.Frag) (H : Hp) (i : Int) : V → Bool → Prop
  | non : Ni K H i .non false
  | bl (b : Bool) : Ni K H i (.bl b) ((if b then 1 else 0) == i)
  | int (j : Int) : Ni K H i (.int j) (j == i)
  | str (z : Str) : Ni K H i (.str z) false
  | tup {a : Addr} {xs : List V} : SqT K H a xs → Ni K H i (.ref a) false
  | lst {a : Addr} {xs : List V} : SqL K H a xs → Ni K H i (.ref a) false
  | dct {a : Addr} {kvs : List (L2.Key × V)} : H a = some (.dK kvs) → Ni K H i (.ref a) false
  | exc {a t C : Addr} : Eqx K C → H a = some (ExN C t a) → Ni K H i (.ref a) false
theorem inst_exn {prog : Program} {w : World} {H : Hp} {h : Heap} {a t C : Addr} (ok : HOk prog w H h) (e : H a = some (ExN C t a)) : ∃ o vs, PySem.W.InstAt h a o C none ∧ o.data = .fields vs := by
  obtain ⟨⟨o, vs, q1, q2, q3, q4, q5⟩, _, _⟩ := ok a _ e
  obtain ⟨cls, dd, data, sl⟩ := o
  simp only at q2 q3 q5
  subst q2 q3 q5
  exact ⟨_, vs, ⟨q1, rfl, rfl, True.intro⟩, rfl⟩
theorem dict_dk {prog : Program} {w : World} {H : Hp} {h : Heap} {a : Addr} {kvs : List (L2.Key × V)} (ok : HOk prog w H h) (e : H a = some (.dK kvs)) : ∃ dd es ep sl, h.get? a = some { cls := .type "dict", dict := dd, data := .dict es ep, slots := sl } := by
  obtain ⟨_, hsys, vs, kv, o, es, ep, g1, g2, g3, _⟩ := ok a _ e
  obtain ⟨cls, dd, data, sl⟩ := o
  have g2' : cls = .type "dict" := g2.1
  simp only at g3
  subst g2' g3
  exact ⟨dd, es, ep, sl, g1⟩
section
variable {X : Cx} {pins : List (Addr × Obj)} {σ : L2.St} {H : Hp} {s : Shared} {x : V} {u : Value} {e : Bool} {c : Addr}
theorem empty_arr {α : Type} {xs : List V} {its : List Value} (h : Vals xs its) : (its.toArray.size == 0) = xs.isEmpty := by
  rw [List.size_toArray, ← h.length]
  cases xs <;> rfl
theorem vals_nil {its : List Value} (h : Vals [] its) : its = [] := by
  cases h
  rfl
theorem Nc.rc {A : Around} (n : Nc X.K H x e) (I : Inv X pins σ H s) (r : RelV x u) (hc : SqT X.K H c []) (hu2 : A.units < cLine) : SeqAt.EqAt A s u (.ref c) e := by
  obtain ⟨cs, rc, pc, _⟩ := I.tuple hc
  have ec := vals_nil rc
  subst ec
  cases n with
  | non =>
    cases r
    exact SeqAt.EqAt.none_tuple pc hu2
  | bl b =>
    cases r
    exact SeqAt.EqAt.bool_tuple b pc hu2
  | int i =>
    obtain ⟨t, rfl⟩ := r
    exact SeqAt.EqAt.int_tuple i t pc hu2
  | str z =>
    obtain ⟨t, rfl⟩ := r
    exact SeqAt.EqAt.str_tuple z t pc hu2
  | @tup a xs h =>
    cases r
    obtain ⟨its, r1, p1, _⟩ := I.tuple h
    by_cases q : a = c
    · subst q
      have := I.tuple_inj h hc
      subst this
      exact SeqAt.EqAt.same _
    · have m := SeqAt.RcAt.tuples (A := A) (s := s) (e := fun _ => true) p1 pc hu2 (fun j h1 h2 => absurd h2 (by simp))
      have e1 : ((List.range (min its.toArray.size (#[] : Array Value).size)).all (fun _ => true) && its.toArray.size == (#[] : Array Value).size) = xs.isEmpty := by
        rw [← empty_arr (α := Unit) r1]
        simp
      rw [show ([] : List Value).toArray = #[] from rfl, e1] at m
      exact SeqAt.EqAt.of_refs q m
  | @lst a xs h =>
    cases r
    obtain ⟨its, r1, p1, _⟩ := I.list h
    exact SeqAt.EqAt.list_tuple p1.isList pc hu2
  | @dct a kvs h =>
    cases r
    obtain ⟨dd, es, ep, sl, g⟩ := dict_dk I.hok h
    exact SeqAt.EqAt.dict_tuple g pc hu2
  | @exc a t C q h =>
    cases r
    obtain ⟨o, vs, i, _⟩ := inst_exn I.hok h
    exact HX.eqAt_tup hu2 I.kIn i q.m q.e q.t pc
/-- x == () -/
def rEqN (K : PySem.W.Frag) : R2 := fun x y H Q => ∃ c e, y = .ref c ∧ SqT K H c [] ∧ Nc K H x e ∧ Q (.bl e) H
theorem op_eqN (hu : X.A.units + 64 < cLine) : OpR X (compareOp .Eq) (rEqN X.K) := by
  intro pins s σ H x y v u Q I rx ry h
  obtain ⟨c, e, rfl, hc, n, q⟩ := h
  cases ry
  obtain ⟨cs, rc, pc, _⟩ := I.tuple hc
  have ec := vals_nil rc
  subst ec
  have hu2 : X.A.units < cLine := by omega
  have done : EP X pins σ Q (.bool e) s := ⟨.bl e, H, I, rfl, q⟩
  cases n with
  | non =>
    cases rx
    exact SeqAt.RcAt.none_tuple pc hu2 X.prog X.w X.xe _ done
  | bl b =>
    cases rx
    exact SeqAt.RcAt.bool_tuple b pc hu2 X.prog X.w X.xe _ done
  | int i =>
    obtain ⟨t, rfl⟩ := rx
    exact SeqAt.RcAt.int_tuple i t pc hu2 X.prog X.w X.xe _ done
  | str z =>
    obtain ⟨t, rfl⟩ := rx
    exact SeqAt.RcAt.str_tuple z t pc hu2 X.prog X.w X.xe _ done
  | @tup a xs h =>
    cases rx
    obtain ⟨its, r1, p1, _⟩ := I.tuple h
    have m := SeqAt.RcAt.tuples (A := X.A) (s := s) (e := fun _ => true) p1 pc hu2 (fun j h1 h2 => absurd h2 (by simp))
    have e1 : ((List.range (min its.toArray.size (#[] : Array Value).size)).all (fun _ => true) && its.toArray.size == (#[] : Array Value).size) = xs.isEmpty := by
      rw [← empty_arr (α := Unit) r1]
      simp
    rw [show ([] : List Value).toArray = #[] from rfl, e1] at m
    exact m X.prog X.w X.xe _ done
  | @lst a xs h =>
    cases rx
    obtain ⟨its, r1, p1, _⟩ := I.list h
    exact SeqAt.RcAt.list_tuple p1.isList pc hu2 X.prog X.w X.xe _ done
  | @dct a kvs h =>
    cases rx
    obtain ⟨dd, es, ep, sl, g⟩ := dict_dk I.hok h
    exact SeqAt.RcAt.dict_tuple g pc hu2 X.prog X.w X.xe _ done
  | @exc a t C q' h =>
    cases rx
    obtain ⟨o, vs, i, _⟩ := inst_exn I.hok h
    exact HX.rcAt_tup hu2 I.kIn i q'.m q'.e q'.t pc X.prog X.w X.xe _ done
/-- x == an integer -/
def rEqI (K : PySem.W.Frag) : R2 := fun x y H Q => ∃ i e, y = .int i ∧ Ni K H i x e ∧ Q (.bl e) H
theorem op_eqI (hu : X.A.units + 64 < cLine) : OpR X (compareOp .Eq) (rEqI X.K) := by
  intro pins s σ H x y v u Q I rx ry h
  obtain ⟨i, e, rfl, n, q⟩ := h
  obtain ⟨ty, rfl⟩ := ry
  have hu2 : X.A.units < cLine := by omega
  have done : EP X pins σ Q (.bool e) s := ⟨.bl e, H, I, rfl, q⟩
  cases n with
  | non =>
    cases rx
    exact SeqAt.RcAt.none_int i ty X.prog X.w X.xe _ done
  | bl b =>
    cases rx
    exact SeqAt.RcAt.bool_int b i ty X.prog X.w X.xe _ done
  | int j =>
    obtain ⟨t, rfl⟩ := rx
    exact SeqAt.RcAt.int_int j t i ty X.prog X.w X.xe _ done
  | str z =>
    obtain ⟨t, rfl⟩ := rx
    exact SeqAt.RcAt.str_int z t i ty X.prog X.w X.xe _ done
  | @tup a xs h =>
    cases rx
    obtain ⟨its, r1, p1, _⟩ := I.tuple h
    exact SeqAt.RcAt.tuple_int i ty p1 hu2 X.prog X.w X.xe _ done
  | @lst a xs h =>
    cases rx
    obtain ⟨its, r1, p1, _⟩ := I.list h
    exact SeqAt.RcAt.list_int i ty p1.isList hu2 X.prog X.w X.xe _ done
  | @dct a kvs h =>
    cases rx
    obtain ⟨dd, es, ep, sl, g⟩ := dict_dk I.hok h
    exact SeqAt.RcAt.dict_int i ty g hu2 X.prog X.w X.xe _ done
  | @exc a t C q' h =>
    cases rx
    obtain ⟨o, vs, i', hd⟩ := inst_exn I.hok h
    exact HX.rcAt_int i ty hu2 I.kIn i' q'.m q'.e hd X.prog X.w X.xe _ done
end
end Hs
namespace Hs
open PySem PySem.Spec PyProof.Rows L2 Hu Evl
/-! ### a tuple against empty ones -/
inductive NcL (K : PySem.W.Frag) (H : Hp) : List V → List Bool → Prop
  | nil : NcL K H [] []
  | cons {x : V} {e : Bool} {xs : List V} {es : List Bool} : Nc K H x e → NcL K H xs es → NcL K H (x :: xs) (e :: es)
theorem NcL.len {K : PySem.W.Frag} {H : Hp} {xs : List V} {es : List Bool} (h : NcL K H xs es) : xs.length = es.length := by
  induction h with
  | nil => rfl
  | cons _ _ ih => rw [List.length_cons, List.length_cons, ih]
theorem NcL.at {K : PySem.W.Frag} {H : Hp} {xs : List V} {es : List Bool} (h : NcL K H xs es) : ∀ (j : Nat) (x : V), xs[j]? = some x → Nc K H x (es.getD j true) := by
  induction h with
  | nil => exact fun j x e => by simp at e
  | cons h1 _ ih =>
    refine fun j x e => ?_
    cases j with
    | zero =>
      cases e
      exact h1
    | succ j => exact ih j x e
theorem range_all : ∀ es : List Bool, (List.range es.length).all (fun j => es.getD j true) = es.all id
  | [] => rfl
  | e :: es => by
    rw [List.length_cons, List.range_succ_eq_map, List.all_cons, List.all_map, List.all_cons, ← range_all es]
    rfl
section
variable {X : Cx}
theorem valsGet {xs : List V} {us : List Value} (h : Vals xs us) (j : Nat) (hj : j < us.length) : ∃ x, xs[j]? = some x ∧ RelV x us[j] := by
  induction h generalizing j with
  | nil => exact absurd hj (Nat.not_lt_zero _)
  | cons h1 h2 ih =>
    cases j with
    | zero => exact ⟨_, rfl, h1⟩
    | succ j => exact ih j (Nat.lt_of_succ_lt_succ hj)
/-- x == ((), .., ()) -/
def rEqNs (K : PySem.W.Frag) : R2 := fun x y H Q => ∃ (a b : Addr) (xs : List V) (cs : List Addr) (es : List Bool), x = .ref a ∧ y = .ref b ∧ SqT K H a xs ∧ SqT K H b (cs.map V.ref) ∧ (∀ c ∈ cs, SqT K H c []) ∧ cs.length = xs.length ∧ NcL K H xs es ∧ Q (.bl (es.all id)) H
theorem op_eqNs (hu : X.A.units + 64 < cLine) : OpR X (compareOp .Eq) (rEqNs X.K) := by
  intro pins s σ H x y v u Q I rx ry h
  obtain ⟨a, b, xs, cs, es, rfl, rfl, ha, hb, hc, hl, n, q⟩ := h
  cases rx
  cases ry
  obtain ⟨its, r1, p1, _⟩ := I.tuple ha
  obtain ⟨its2, r2, p2, _⟩ := I.tuple hb
  have l1 := r1.length
  have l2 := r2.length
  rw [List.length_map] at l2
  have m := SeqAt.RcAt.tuples (A := X.A) (s := s) (e := fun j => es.getD j true) p1 p2 (by omega) (fun j h1 h2 => by
    have g1 : its.toArray[j] = its[j]'(by simpa using h1) := by simp
    have g2 : its2.toArray[j] = its2[j]'(by simpa using h2) := by simp
    rw [g1, g2]
    obtain ⟨x, e1, rx⟩ := valsGet r1 j (by simpa using h1)
    obtain ⟨y, e2, ry⟩ := valsGet r2 j (by simpa using h2)
    rw [List.getElem?_map] at e2
    cases e3 : cs[j]? with
    | none =>
      rw [e3] at e2
      cases e2
    | some c =>
      rw [e3] at e2
      have e4 : V.ref c = y := Option.some.inj e2
      subst e4
      have e5 : its2[j]'(by simpa using h2) = Value.ref c := ry
      rw [e5]
      exact (n.at j x e1).rc (A := X.A.in1) I rx (hc c (List.mem_of_getElem? e3)) (show X.A.units + 1 < cLine by omega))
  have e1 : ((List.range (min its.toArray.size its2.toArray.size)).all (fun j => es.getD j true) && its.toArray.size == its2.toArray.size) = es.all id := by
    have z1 : its.toArray.size = es.length := by rw [List.size_toArray, ← l1, n.len]
    have z2 : its2.toArray.size = es.length := by rw [List.size_toArray, ← l2, hl, n.len]
    rw [z1, z2, Nat.min_self, range_all]
    simp
  rw [e1] at m
  exact m X.prog X.w X.xe (EP X pins σ Q) ⟨.bl _, H, I, rfl, q⟩
end
/-! ### is_ascending -/
section
variable {K : PySem.W.Frag} {σ : L2.St} {H : Hp} {t te : TE}
theorem el_rngM {ta : TA} {te : TE} {j : Nat} {vs : List Nat} {n : Int} (v : Nat → V) (h : EvA ta σ H [.int n]) (hn : -1 ≤ n ∧ n ≤ 40000) (hw : ∀ x, wipe ((wipe σ vs).set j (some x)) vs = wipe σ vs)
    (he : ∀ (i : Nat), (i : Int) < n → Ev te ((wipe σ vs).set j (some (.int (i : Int)))) H (v i)) :
    EvL (tLc (iRng1 ta) (gName j) tYes te vs) σ H ((List.range n.toNat).map v) := fun H0 e Q q => h H0 e _ fun H1 e1 => ⟨n, rfl, by omega, by omega, fun Dl hD =>
  lc_range (lo := 0) (n := n.toNat) (Cw H1 (fun _ => true) v Dl) ⟨hD, Ex.new hD, upd_same⟩ (fun i H' hi p => by
    have e0 : (0 : Int) + (i : Int) = (i : Int) := Int.zero_add _
    show wipe ((wipe σ vs).set j (some (.int ((0 : Int) + (i : Int))))) vs = wipe σ vs ∧ tYes ((wipe σ vs).set j (some (.int ((0 : Int) + (i : Int))))) H' fun b H3 => if b = true then te ((wipe σ vs).set j (some (.int ((0 : Int) + (i : Int))))) H3 fun y H4 => ∃ acc, H4 Dl = some (.lst acc) ∧ acc.length < sizeLine ∧ Cw H1 (fun _ => true) v Dl (i + 1) (upd H4 Dl (.lst (acc ++ [y]))) else Cw H1 (fun _ => true) v Dl (i + 1) H3
    rw [e0]
    exact ⟨hw _, cw_turn p (by omega) et_yes (fun _ => (he i (by omega)).mono (e.trans e1))⟩) (fun H' p => q Dl H' (fresh_back e1 p.1) (e1.trans p.2.1) (by rw [← given_all]; exact p.2.2))⟩
end
def ascN (n : Nat) (lt : Nat → Bool) : Bool := (List.range (n - 1)).all lt
/-- is_ascending: ri how an item is taken, r how two compare -/
def spAscG (K : PySem.W.Frag) (ri r : R2) : Sp := fun vs H Q _ => ∃ (a : Addr) (xs : List V) (lt : Nat → Bool), vs = [.ref a] ∧ (SqL K H a xs ∨ SqT K H a xs) ∧ xs.length ≤ 40000 ∧
  (∀ (k : Nat) x, xs[k]? = some x → RV ri (.ref a) (.int (k : Int)) H x) ∧ (∀ (k : Nat) x y, xs[k]? = some x → xs[k + 1]? = some y → RV r x y H (.bl (lt k))) ∧ ∀ H', Same H H' → Q (.bl (ascN xs.length lt)) H'
section
variable {P : Program} {wd : World} {K : PySem.W.Frag} {mg : Str → Option Value} {base : Heap} {C : Addr}
theorem sq_ex {H H' : Hp} {a : Addr} {xs : List V} (e : Ex H H') (h : SqL K H a xs ∨ SqT K H a xs) : SqL K H' a xs ∨ SqT K H' a xs := h.elim (fun h => .inl (ex_l e h)) (fun h => .inr (ex_t e h))
theorem ascG_reads {σ : L2.St} {H : Hp} {a : Addr} {xs : List V} {lt : Nat → Bool} {ri r : R2} (h0 : σ = [some (.ref a), none]) (ha : SqL K H a xs ∨ SqT K H a xs) (hz : xs.length ≤ 40000)
    (hi : ∀ (k : Nat) x, xs[k]? = some x → RV ri (.ref a) (.int (k : Int)) H x) (hr : ∀ (k : Nat) x y, xs[k]? = some x → xs[k + 1]? = some y → RV r x y H (.bl (lt k))) :
    Ev (tCB (rAll K) (tCons (tLc (iRng1 (tCons (tOp (rI0 fun i j => .int (i - j)) (tCB (rLenQ K) (tCons (tVar 0) tNil)) (tC (.int 1))) tNil)) (gName 1) tYes (tOp r (tOp ri (tVar 0) (tVar 1)) (tOp ri (tVar 0) (tOp (rI0 fun i j => .int (i + j)) (tVar 1) (tC (.int 1))))) [1]) tNil)) σ H (.bl (ascN xs.length lt)) := by
  subst h0
  have main : EvL (tLc (iRng1 (tCons (tOp (rI0 fun i j => .int (i - j)) (tCB (rLenQ K) (tCons (tVar 0) tNil)) (tC (.int 1))) tNil)) (gName 1) tYes (tOp r (tOp ri (tVar 0) (tVar 1)) (tOp ri (tVar 0) (tOp (rI0 fun i j => .int (i + j)) (tVar 1) (tC (.int 1))))) [1]) [some (.ref a), none] H
      ((List.range ((xs.length : Int) - 1).toNat).map fun k => .bl (lt k)) :=
    el_rngM (n := (xs.length : Int) - 1) (fun k => .bl (lt k)) (ea_cons (ev_op (ev_cb (ea_cons (ev_var rfl) ea_nil) fun H1 e Q q => ⟨a, xs, rfl, sq_ex e ha, q H1 (Ex.refl H1)⟩) ev_c rv_I0) ea_nil) (by omega) (fun _ => rfl) (fun i hi' => by
      have h1 : i + 1 < xs.length := by omega
      exact ev_op (ev_op (ev_var rfl) (ev_var rfl) (hi i _ (List.getElem?_eq_getElem (by omega)))) (ev_op (ev_var rfl) (ev_op (z := .int ((i + 1 : Nat) : Int)) (ev_var rfl) ev_c rv_I0) (hi (i + 1) _ (List.getElem?_eq_getElem h1))) (hr i _ _ (List.getElem?_eq_getElem (by omega)) (List.getElem?_eq_getElem h1)))
  refine ev_cb1 main fun p H2 h2 e2 Q q => ⟨p, (List.range (xs.length - 1)).map lt, rfl, sq_of ?_, ?_⟩
  · rw [h2, show ((xs.length : Int) - 1).toNat = xs.length - 1 from by omega, List.map_map]
    rfl
  · have e : ((List.range (xs.length - 1)).map lt).all id = ascN xs.length lt := by
      rw [List.all_map]
      rfl
    rw [e]
    exact q H2 (Ex.refl H2)
theorem ok_ascG {ri r : R2} {f : Addr} {fd : FuncData} (F : Fun K "is_ascending" "is_ascending" sAscending f fd) (B : Bt mg) (hix : ∀ X : Cx, X.K = K → IxR X ri) (hop : ∀ X : Cx, X.K = K → X.A.units + 64 < cLine → OpR X (compareOp .Lt) r) :
    FnOk P wd K mg base CX0 1 f fd ["things"] (spAscG K ri r) := by
  refine F.ok scAsc (fun vs H Q E h => ?_) (fun cdv A outer s H vs Q E hr h => ?_)
  · obtain ⟨n, m, _, rfl, _⟩ := h
    rfl
  · obtain ⟨a, xs, lt, rfl, ha, hz, hi, hl, k⟩ := h
    refine ⟨_, pss_one (ps_ret (pe_callB (cr_all rfl) (by rfl) B.all boot_all' (pa_cons (pe_lc (own := [("k", 1)]) (g := gName 1) (tt := tYes) rfl scAsc.nd (pi_range1 (by rfl) B.range (pa_cons (pe_op op_sub (pe_callB call_len_seq (by rfl) B.len PySem.boot_len (pa_cons (pv 0) pa_nil)) pe_int) pa_nil)) (blkOk_by (N := ["things", "k"]) (sc := defScope sAscending) (by decide +kernel))
      (fun _ _ _ _ _ => pg_name (i := 1) scAsc.nd rfl (Or.inl rfl)) (fun _ _ _ _ _ => pts_nil) (fun _ _ _ _ _ => pe_cmpR (hop _ rfl (room_hu hr)) (pe_ix (hix _ rfl) (pv 0) (pv 1) (fun _ _ => rfl)) (pe_ix (hix _ rfl) (pv 0) (pe_op op_add (pv 1) pe_int) (fun _ _ => rfl)) (nomark _))) pa_nil))), ?_⟩
    exact s_ret (ascG_reads rfl ha hz hi hl) k
end
end Hs
namespace Hs
open PySem PySem.Spec PyProof.Rows L2 Hu Evl
abbrev sCount : Stmt := topS 10
abbrev sTO : Stmt := topS 25
abbrev sAhead : Stmt := topS 26
abbrev sVote : Stmt := topS 27
abbrev sHeads : Stmt := topS 28
abbrev sNamed : Stmt := topS 29
abbrev sBlocks : Stmt := topS 30
abbrev sBlk : Stmt := topS 31
/-! ### judges of some values -/
def spJw (C : Addr) (S : U → Prop) (g : U → Bool) : Sp := fun vs H Q _ => ∃ (v : V) (u : U) (w : Addr), vs = [v] ∧ At w C H v u ∧ Fine u ∧ S u ∧ (∃ o, H w = some o) ∧ ∀ H', Same H H' → Q (.bl (g u)) H'
structure Jw (P : Program) (w : World) (K : PySem.W.Frag) (mg : Str → Option Value) (base : Heap) (C : Addr) (k : Nat) (x : Str) (p : Str) (f : Addr) (fd : FuncData) (S : U → Prop) (g : U → Bool) : Prop where
  ok : FnOk P w K mg base CX0 k f fd [p] (spJw C S g)
  g : mg x = some (.ref f)
  kp : PySem.W.keepIn K (.ref f) = true
  b : Binds K fd [p] []
theorem lenJw {C : Addr} {S : U → Prop} {g : U → Bool} {p : Str} : ∀ vs H Q E, spJw C S g vs H Q E → vs.length = [p].length := fun vs H Q E h => by
  obtain ⟨v, u, w, rfl, _⟩ := h
  rfl
theorem ev_Jw {C : Addr} {S : U → Prop} {g : U → Bool} {H : Hp} {v : V} {u : U} {w : Addr} {σ : L2.St} {te : TE} {E : XK} (h : Evl.Ev te σ H v) (hat : At w C H v u) (fi : Fine u) (hs : S u) (hw : ∃ o, H w = some o) : Evl.Ev (tCall (spJw C S g) [] E (tCons te tNil)) σ H (.bl (g u)) :=
  Evl.ev_call (Evl.ea_cons h Evl.ea_nil) fun H1 e Q q E => ⟨v, u, w, rfl, ex_at e hat, fi, hs, hw.imp fun o z => e _ _ z, q⟩
section
variable {X : Cx} {C : Addr} {CX : CXT} {E : XK}
theorem pe_Jw {x p : Str} {k j : Nat} {f : Addr} {fd : FuncData} {S : U → Prop} {g : U → Bool} {e : Expr} {te : TE} {ps pos : Pos} (J : Jw X.prog X.w X.K X.mg X.base C k x p f fd S g) (hr : Room j X.A) (h : k ≤ j) (hg : Gl X x) (hx : Passes CX0 X E) (he : PE X e te) (hdb : (x == ("__debug__" : Str)) = false := by decide)
    (hst : starEach [e] X.env = (false, eval e X.env) :: starEach [] X.env := by rfl) (hpl : (backTo pos (starEach [] X.env)).any (·.1) = false := by rfl) :
    PE X (.Call (.Name x ps) [e] [] pos) (tCall (spJw C S g) [] E (tCons te tNil)) :=
  pe_call J.ok (hr.mono h) hg J.g J.kp J.b .nil hx (pa_cons he pa_nil hst) hdb hst hpl
end
def nilU (u : U) : Bool := match u with | .tup us => us.isEmpty | _ => false
abbrev okN (_ : U) : Prop := True
theorem nc_at {K : PySem.W.Frag} {w C : Addr} {H : Hp} {v : V} {u : U} (hx : Eqx K C) (h : At w C H v u) : Nc K H v (nilU u) := by
  cases h with
  | non => exact .non
  | bl b => exact .bl b
  | int i => exact .int i
  | str z => exact .str z
  | @tup a xs us ha _ hl =>
    have : us.isEmpty = xs.isEmpty := by cases hl <;> rfl
    show Nc K H (.ref a) us.isEmpty
    rw [this]
    exact .tup (st_of ha)
  | lst ha _ hl => exact .lst (sq_of ha)
  | dct ha _ _ _ _ => exact .dct ha
  | exc ha _ _ _ => exact .exc hx ha
/-- an integer by == -/
def isI (i : Int) (u : U) : Bool := match u with | .bl b => (if b then 1 else 0) == i | .int j => j == i | _ => false
theorem ni_at {K : PySem.W.Frag} {w C : Addr} {H : Hp} {v : V} {u : U} (i : Int) (hx : Eqx K C) (h : At w C H v u) : Ni K H i v (isI i u) := by
  cases h with
  | non => exact .non
  | bl b => exact .bl b
  | int i => exact .int i
  | str z => exact .str z
  | tup ha _ hl => exact .tup (st_of ha)
  | lst ha _ hl => exact .lst (sq_of ha)
  | dct ha _ _ _ _ => exact .dct ha
  | exc ha _ _ _ => exact .exc hx ha
theorem Ni.ex {K : PySem.W.Frag} {H H' : Hp} {i : Int} {v : V} {e : Bool} (x : Ex H H') (h : Ni K H i v e) : Ni K H' i v e := by
  cases h with
  | non => exact .non
  | bl b => exact .bl b
  | int i => exact .int i
  | str z => exact .str z
  | tup h => exact .tup (ex_t x h)
  | lst h => exact .lst (ex_l x h)
  | dct h => exact .dct (x _ _ h)
  | exc q h => exact .exc q (x _ _ h)
theorem rv_eqI {K : PySem.W.Frag} {H : Hp} {i : Int} {v : V} {e : Bool} (h : Ni K H i v e) : RV (rEqI K) v (.int i) H (.bl e) := fun H1 x Q q => ⟨i, e, rfl, h.ex x, q H1 (Ex.refl H1)⟩
theorem Nc.ex {K : PySem.W.Frag} {H H' : Hp} {v : V} {e : Bool} (x : Ex H H') (h : Nc K H v e) : Nc K H' v e := by
  cases h with
  | non => exact .non
  | bl b => exact .bl b
  | int i => exact .int i
  | str z => exact .str z
  | tup h => exact .tup (ex_t x h)
  | lst h => exact .lst (ex_l x h)
  | dct h => exact .dct (x _ _ h)
  | exc q h => exact .exc q (x _ _ h)
theorem rv_eqN {K : PySem.W.Frag} {H : Hp} {v : V} {e : Bool} {c : Addr} (h : Nc K H v e) (hc : H c = some (.tup [])) : RV (rEqN K) v (.ref c) H (.bl e) := fun H1 x Q q => ⟨c, e, rfl, ex_t x (st_of hc), h.ex x, q H1 (Ex.refl H1)⟩
/-! ### lists of tuples of keys -/
inductive TkL (H : Hp) : List V → List (List L2.Key) → Prop
  | nil : TkL H [] []
  | cons {p : Addr} {ks : List L2.Key} {vs : List V} {kss : List (List L2.Key)} : H p = some (.tup (ks.map kV)) → TkL H vs kss → TkL H (.ref p :: vs) (ks :: kss)
theorem TkL.ex {H H' : Hp} {vs : List V} {kss : List (List L2.Key)} (e : Ex H H') (h : TkL H vs kss) : TkL H' vs kss := by
  induction h with
  | nil => exact .nil
  | cons h _ ih => exact .cons (e _ _ h) ih
theorem TkL.tups {H H' : Hp} {vs : List V} {kss : List (List L2.Key)} (e : ∀ b zs, H b = some (.tup zs) → H' b = some (.tup zs)) (h : TkL H vs kss) : TkL H' vs kss := by
  induction h with
  | nil => exact .nil
  | cons h _ ih => exact .cons (e _ _ h) ih
theorem TkL.len {H : Hp} {vs : List V} {kss : List (List L2.Key)} (h : TkL H vs kss) : vs.length = kss.length := by
  induction h with
  | nil => rfl
  | cons _ _ ih => rw [List.length_cons, List.length_cons, ih]
theorem TkL.snoc {H : Hp} {vs : List V} {kss : List (List L2.Key)} {p : Addr} {ks : List L2.Key} (h : TkL H vs kss) (hp : H p = some (.tup (ks.map kV))) : TkL H (vs ++ [.ref p]) (kss ++ [ks]) := by
  induction h with
  | nil => exact .cons hp .nil
  | cons h _ ih => exact .cons h ih
theorem TkL.get {H : Hp} {vs : List V} {kss : List (List L2.Key)} (h : TkL H vs kss) : ∀ {j : Nat} {v : V}, vs[j]? = some v → ∃ p ks, v = .ref p ∧ kss[j]? = some ks ∧ H p = some (.tup (ks.map kV)) := by
  induction h with
  | nil => exact fun e => by simp at e
  | cons h _ ih =>
    intro j v e
    cases j with
    | zero =>
      cases e
      exact ⟨_, _, rfl, rfl, h⟩
    | succ j => exact ih e
/-- tuples of keys in a row -/
def ascK (kss : List (List L2.Key)) : Bool := ascN kss.length fun k => Hk.ltK (kss.getD k []) (kss.getD (k + 1) [])
def kinK (kss : List (List L2.Key)) : Prop := ∀ ks ∈ kss, ∀ ls ∈ kss, Hk.kinds ks ls = true
section
variable {K : PySem.W.Frag} {σ : L2.St} {H : Hp} {tl te : TE} {xs : List V} {us : List U} {w C : Addr}
theorem ev_callL1 {sp : Sp} {E : XK} {z : V} (h : EvL te σ H xs) (hs : ∀ p H1, H1 p = some (.lst xs) → Ex H H1 → ∀ Q : VK, (∀ H2, Ex H1 H2 → Q z H2) → ∀ E, sp [.ref p] H1 Q E) : Ev (tCall sp [] E (tCons te tNil)) σ H z :=
  fun H0 e Q q => h H0 e _ fun p H1 hp e1 h1 => hs p H1 h1 (e.trans e1) Q (fun H2 e2 => q H2 (e1.trans e2)) _
/-- [f(x) for x in a tuple], each a tuple of keys -/
theorem lc_newK {a : Addr} {j : Nat} {vs : List Nat} {f : U → List L2.Key} (h : Ev tl σ H (.ref a)) (hx : H a = some (.tup xs)) (hz : us.length ≤ 40000) (hl : AtL w C H xs us) (hw : ∀ x, wipe ((wipe σ vs).set j (some x)) vs = wipe σ vs)
    (he : ∀ (x : V) (u : U) G, u ∈ us → Ex H G → At w C G x u → ∀ Q : VK, (∀ p G', Ex G G' → G' p = some (.tup ((f u).map kV)) → Q (.ref p) G') → te ((wipe σ vs).set j (some x)) G Q) :
    ∀ H0, Ex H H0 → ∀ Q : VK, (∀ p ys H', H0 p = none → Ex H0 H' → H' p = some (.lst ys) → TkL H' ys (us.map f) → Q (.ref p) H') → tLc (iTup K tl) (gName j) tYes te vs σ H0 Q := fun H0 e Q q => h H0 e _ fun H1 e1 => ⟨a, rfl, ⟨xs, st_of ((e.trans e1) _ _ hx)⟩, fun Dl hD =>
  lc_tup (xs := xs) (fun i H' => Ex H1 H' ∧ ∃ ys, H' Dl = some (.lst ys) ∧ TkL H' ys ((us.take i).map f)) ⟨Ex.new hD, [], upd_same, .nil⟩ (fun i H' _ p => st_of (((e.trans e1).trans p.1) _ _ hx)) (fun i x H2 hi p => by
    obtain ⟨p1, ys, p2, p3⟩ := p
    have hlen := AtL.length hl
    have hu : i < us.length := by
      have := (List.getElem?_eq_some_iff.mp hi).1
      omega
    obtain ⟨x', hx', hax⟩ := AtL.get hl (List.getElem?_eq_getElem hu)
    rw [hi] at hx'
    cases hx'
    have e2 := (e.trans e1).trans p1
    refine ⟨hw x, he x us[i] H2 (List.getElem_mem hu) e2 (ex_at e2 hax) _ fun b H3 e3 o3 => ⟨ys, e3 _ _ p2, ?_, fun q o hq => ?_, ys ++ [.ref b], upd_same, ?_⟩⟩
    · have hyl := p3.len
      rw [List.length_map, List.length_take] at hyl
      have := bit_line
      unfold bit at this
      omega
    · rw [upd_ne (ne_of_none hq hD)]
      exact e3 _ _ (p1 _ _ hq)
    · have nt : ∀ b' zs, H3 b' = some (.tup zs) → upd H3 Dl (.lst (ys ++ [.ref b])) b' = some (.tup zs) := fun b' zs hb' => by
        rw [upd_ne (fun z => by rw [z, e3 _ _ p2] at hb'; cases hb')]
        exact hb'
      have t3 := (p3.ex e3).tups nt
      rw [List.take_add_one, List.getElem?_eq_getElem hu, List.map_append]
      exact t3.snoc (nt _ _ o3)) (fun H' p => by
    obtain ⟨p1, ys, p2, p3⟩ := p
    rw [AtL.length hl, List.take_length] at p3
    exact q Dl ys H' (fresh_back e1 hD) (e1.trans p1) p2 p3)⟩
/-- [v(x) for x in a tuple], the values found -/
theorem el_mapX {a : Addr} {j : Nat} {vs : List Nat} (v : Nat → V) (h : Ev tl σ H (.ref a)) (hx : H a = some (.tup xs)) (hz : xs.length ≤ 40000) (hw : ∀ x, wipe ((wipe σ vs).set j (some x)) vs = wipe σ vs)
    (he : ∀ (i : Nat) (x : V), xs[i]? = some x → Ev te ((wipe σ vs).set j (some x)) H (v i)) :
    EvL (tLc (iTup K tl) (gName j) tYes te vs) σ H ((List.range xs.length).map v) := fun H0 e Q q => h H0 e _ fun H1 e1 => ⟨a, rfl, ⟨xs, st_of ((e.trans e1) _ _ hx)⟩, fun Dl hD =>
  lc_tup (xs := xs) (Cw H1 (fun _ => true) v Dl) ⟨hD, Ex.new hD, upd_same⟩ (fun i H' _ p => st_of (((e.trans e1).trans p.2.1) _ _ hx)) (fun i x H' hi p => ⟨hw x, cw_turn p (by have := (List.getElem?_eq_some_iff.mp hi).1; omega) et_yes (fun _ => (he i x hi).mono (e.trans e1))⟩)
    (fun H' p => q Dl H' (fresh_back e1 p.1) (e1.trans p.2.1) (by rw [← given_all]; exact p.2.2))⟩
end
/-! ### is_ascending of texts, of tuples of keys -/
abbrev rLtS : R2 := fun x y H Q => ∃ i j, x = .str i ∧ y = .str j ∧ Q (.bl (decide (i.cps.toList < j.cps.toList))) H
def e0z : Str := ⟨#[]⟩
def ascZ (zs : List Str) : Bool := ascN zs.length fun k => decide ((zs.getD k e0z).cps.toList < (zs.getD (k + 1) e0z).cps.toList)
theorem getD_some {α : Type} {xs : List α} {k : Nat} {x d : α} (h : xs[k]? = some x) : xs.getD k d = x := by
  rw [List.getD_eq_getElem?_getD, h]
  rfl
section
variable {P : Program} {wd : World} {K : PySem.W.Frag} {mg : Str → Option Value} {base : Heap} {C : Addr}
theorem asc_strL {H : Hp} {a : Addr} {zs : List Str} (ha : H a = some (.lst (zs.map V.str))) (hz : zs.length ≤ 40000) (Q : VK) (q : ∀ H2, Ex H H2 → Q (.bl (ascZ zs)) H2) (E : XK) : spAscG K (rIxL K) rLtS [.ref a] H Q E := by
  refine ⟨a, zs.map V.str, (fun k => decide ((zs.getD k e0z).cps.toList < (zs.getD (k + 1) e0z).cps.toList)), rfl, .inl (sq_of ha), (by rw [List.length_map]; exact hz), fun k x hx => rv_ixL (sq_of ha) (atI_nat hx), fun k x y hx hy => ?_, ?_⟩
  · rw [List.getElem?_map] at hx hy
    cases h1 : zs[k]? with
    | none => rw [h1] at hx; cases hx
    | some z => cases h2 : zs[k + 1]? with
      | none => rw [h2] at hy; cases hy
      | some z2 =>
        rw [h1] at hx
        rw [h2] at hy
        cases hx
        cases hy
        dsimp only
        rw [getD_some h1, getD_some h2]
        exact fun H1 e Q q => ⟨z, z2, rfl, rfl, q H1 (Ex.refl H1)⟩
  · rw [List.length_map]
    exact q
theorem asc_tkL {H : Hp} {a : Addr} {ys : List V} {kss : List (List L2.Key)} (ha : H a = some (.lst ys)) (ht : TkL H ys kss) (hk : kinK kss) (hz : kss.length ≤ 40000) (Q : VK) (q : ∀ H2, Ex H H2 → Q (.bl (ascK kss)) H2) (E : XK) : spAscG K (rIxL K) (Hk.rLtK K) [.ref a] H Q E := by
  refine ⟨a, ys, (fun k => Hk.ltK (kss.getD k []) (kss.getD (k + 1) [])), rfl, .inl (sq_of ha), (by rw [ht.len]; exact hz), fun k x hx => rv_ixL (sq_of ha) (atI_nat hx), fun k x y hx hy => ?_, ?_⟩
  · obtain ⟨p, ks, rfl, h1, hp⟩ := ht.get hx
    obtain ⟨p2, ls, rfl, h2, hp2⟩ := ht.get hy
    dsimp only
    rw [getD_some h1, getD_some h2]
    exact fun H1 e Q q => ⟨p, p2, ks, ls, rfl, rfl, st_of (e _ _ hp), st_of (e _ _ hp2), hk _ (List.mem_of_getElem? h1) _ (List.mem_of_getElem? h2), q H1 (Ex.refl H1)⟩
  · rw [ht.len]
    exact q
theorem ok_ascZ {f : Addr} {fd : FuncData} (F : Fun K "is_ascending" "is_ascending" sAscending f fd) (B : Bt mg) : FnOk P wd K mg base CX0 1 f fd ["things"] (spAscG K (rIxL K) rLtS) :=
  ok_ascG F B (fun X e => e ▸ ix_list) (fun X e _ => op_lt_str)
theorem ok_ascK {f : Addr} {fd : FuncData} (F : Fun K "is_ascending" "is_ascending" sAscending f fd) (B : Bt mg) : FnOk P wd K mg base CX0 1 f fd ["things"] (spAscG K (rIxL K) (Hk.rLtK K)) :=
  ok_ascG F B (fun X e => e ▸ ix_list) (fun X e h => e ▸ Hk.op_ltK (by omega))
end
end Hs
namespace Hs
open PySem PySem.Spec PyProof.Rows L2 Hu Evl
/-! ### heads, blocks, votes -/
def gCnt (u : U) : Bool := iv u fun i => decide (0 ≤ i)
def gTO (m : Nat) (u : U) : Bool := tv u fun us => decide (us.length = m)
def gAhead (u : U) : Bool := nilU u || gMembers u
def gVote (u : U) : Bool := isNon u || tv u fun us => two us fun a b => gStamp a && gMembers b
def nth (u : U) (k : Nat) : U := match u with | .tup us => us.getD k .non | _ => .non
def gNamed (u : U) : Bool := gTO 3 u && (gNam (nth u 0) && (gStamp (nth u 1) && gRow (nth u 2)))
def strU (u : U) : Str := match u with | .str z => z | _ => e0z
def gHeads (u : U) : Bool := tv u fun us => us.all gNamed && ascZ (us.map fun u => strU (nth u 0))
def gBlk (u : U) : Bool := gPair u && (gId (nth u 0) && gPiece (nth u 1))
def keyU (u : U) : L2.Key := match u with | .str z => .inr z | .int i => .inl i | _ => .inl 0
def keysU (u : U) : List L2.Key := match u with | .tup us => us.map keyU | _ => []
def gBlocks (u : U) : Bool := tv u fun us => us.all gBlk && ascK (us.map fun u => keysU (nth u 0))
/-- small enough for its rows to be looked through -/
def Sm (u : U) : Prop := wt u ≤ 160000
theorem wt_two (u : U) : 2 ≤ wt u := by
  cases u <;> simp only [wt] <;> omega
theorem wt_len4 : ∀ us : List U, 4 * us.length ≤ wtL us
  | [] => Nat.zero_le _
  | u :: us => by have := wt_len4 us; have := wt_two u; simp only [wtL, List.length_cons]; omega
theorem Sm.len {us : List U} (h : Sm (.tup us)) : us.length ≤ 40000 := by
  have := wt_len4 us
  unfold Sm at h
  simp only [wt] at h
  omega
section
variable {P : Program} {wd : World} {K : PySem.W.Frag} {mg : Str → Option Value} {base : Heap} {C : Addr}
theorem scCnt : FnScope ["thing"] ["thing"] (defScope sCount) := ⟨rfl, rfl, rfl, by decide +kernel, rfl, by decide +kernel, by decide +kernel⟩
theorem jd_cnt {f fI : Addr} {fd fdI : FuncData} (D : Df K mg "is_count" sCount ["thing"] f fd) (S : Bs K mg C) (J : Jd P wd K mg base C 1 "is_integer" "thing" fI fdI gInt) : Jd P wd K mg base C 2 "is_count" "thing" f fd gCnt := by
  refine ⟨D.F.ok scCnt lenJ (fun cdv A outer s H vs Q E hr h => ?_), D.g, D.F.kp, D.b⟩
  obtain ⟨v, u, w, rfl, hat, fi, k⟩ := h
  refine ⟨_, pss_one (ps_ret (pe_and (pe_J J hr (by decide) (by rfl) pass0 (pv 0)) (pe_one (pe_cmpR op_ge (pv 0) pe_int (nomark _))))), ?_⟩
  refine s_ret (ev_andV (b := gCnt u) (ev_J (ev_var rfl) hat fi) fun q => ?_) fun H1 e => ?_
  · obtain ⟨i, rfl⟩ := gInt_int q
    cases at_int hat
    exact ev_op (ev_var rfl) ev_c rv_I0
  · unfold gCnt
    rw [iv_and]
    exact k H1 e
/-! is_tuple_of -/
theorem scTO : FnScope ["many", "thing"] ["many", "thing"] (defScope sTO) := ⟨rfl, rfl, rfl, by decide +kernel, rfl, by decide +kernel, by decide +kernel⟩
def spTO (C : Addr) : Sp := fun vs H Q _ => ∃ (m : Nat) (v : V) (u : U) (w : Addr), vs = [.int (m : Int), v] ∧ At w C H v u ∧ ∀ H', Same H H' → Q (.bl (gTO m u)) H'
theorem ok_TO {f : Addr} {fd : FuncData} (D : Df K mg "is_tuple_of" sTO ["many", "thing"] f fd) (S : Bs K mg C) : FnOk P wd K mg base CX0 1 f fd ["many", "thing"] (spTO C) := by
  refine D.F.ok scTO (fun vs H Q E h => ?_) (fun cdv A outer s H vs Q E hr h => ?_)
  · obtain ⟨m, v, u, w, rfl, _⟩ := h
    rfl
  · obtain ⟨m, v, u, w, rfl, hat, k⟩ := h
    refine ⟨_, pss_one (ps_ret (pe_and (pe_isiX S (by rfl) (by rfl) S.B.tup boot_tuple' (by decide) (pv 1) (by decide) (by decide)) (pe_one (pe_cmpR op_eq (pe_callB call_len_seq (by rfl) S.B.len PySem.boot_len (pa_cons (pv 1) pa_nil)) (pv 0) (nomark _))))), ?_⟩
    refine s_ret (ev_andV (b := gTO m u) (ev_isi (ev_var rfl) hat) fun q => ?_) fun H1 e => ?_
    · obtain ⟨us, rfl⟩ := isT_tup q
      obtain ⟨a, xs, rfl, ha, _, hl⟩ := at_tup hat
      have := ev_op (r := rEq) (σ := [some (V.int (m : Int)), some (V.ref a)]) (ev_lenT (K := K) (te := tVar 1) (ev_var rfl) ha) (ev_var (i := 0) rfl) (rv_eq rfl)
      rw [dec_eq, AtL.length hl] at this
      exact this
    · unfold gTO
      rw [tv_and]
      exact k H1 e
structure JTO (P : Program) (wd : World) (K : PySem.W.Frag) (mg : Str → Option Value) (base : Heap) (C : Addr) (f : Addr) (fd : FuncData) : Prop where
  D : Df K mg "is_tuple_of" sTO ["many", "thing"] f fd
  ok : FnOk P wd K mg base CX0 1 f fd ["many", "thing"] (spTO C)
theorem ev_TO {σ : L2.St} {H : Hp} {tm te : TE} {E : XK} {m : Nat} {v : V} {u : U} {w : Addr} (hm : Ev tm σ H (.int (m : Int))) (h : Ev te σ H v) (hat : At w C H v u) : Ev (tCall (spTO C) [] E (tCons tm (tCons te tNil))) σ H (.bl (gTO m u)) :=
  ev_call (ea_cons hm (ea_cons h ea_nil)) fun H1 e Q q E => ⟨m, v, u, w, rfl, ex_at e hat, q⟩
theorem gTO_of {m : Nat} {u : U} (h : gTO m u = true) : ∃ us, u = .tup us ∧ us.length = m := by
  cases u with
  | tup us => exact ⟨us, rfl, of_decide_eq_true h⟩
  | _ => cases h
theorem atl_get {w : Addr} {H : Hp} {xs : List V} {us : List U} (h : AtL w C H xs us) {k : Nat} (hk : k < us.length) : ∃ x, xs[k]? = some x ∧ At w C H x (us.getD k .non) := by
  obtain ⟨x, hx, ha⟩ := AtL.get h (List.getElem?_eq_getElem hk)
  refine ⟨x, hx, ?_⟩
  rw [getD_some (List.getElem?_eq_getElem hk)]
  exact ha
/-- an item of a tuple, with its data -/
theorem ev_nth {σ : L2.St} {H : Hp} {te : TE} {v : V} {u : U} {w : Addr} {m k : Nat} (h : Ev te σ H v) (hat : At w C H v u) (hm : gTO m u = true) (hk : k < m) : ∃ x, Ev (tOp (rIxT K) te (tC (.int (k : Int)))) σ H x ∧ At w C H x (nth u k) := by
  obtain ⟨us, rfl, rfl⟩ := gTO_of hm
  obtain ⟨a, xs, rfl, ha, _, hl⟩ := at_tup hat
  obtain ⟨x, hx, hax⟩ := atl_get hl hk
  exact ⟨x, ev_ixT h ha hx, hax⟩
theorem fine_nth {m k : Nat} {u : U} (hm : gTO m u = true) (hk : k < m) (fi : Fine u) : Fine (nth u k) := by
  obtain ⟨us, rfl, rfl⟩ := gTO_of hm
  show Fine (us.getD k .non)
  rw [getD_some (List.getElem?_eq_getElem hk)]
  exact fi.tup _ (List.getElem_mem hk)
/-! is_ahead -/
theorem scAhead : FnScope ["thing"] ["thing"] (defScope sAhead) := ⟨rfl, rfl, rfl, by decide +kernel, rfl, by decide +kernel, by decide +kernel⟩
theorem jw_ahead {f f1 : Addr} {fd d1 : FuncData} (D : Df K mg "is_ahead" sAhead ["thing"] f fd) (S : Bs K mg C) (J : Jd P wd K mg base C 4 "is_members" "thing" f1 d1 gMembers) : Jw P wd K mg base C 5 "is_ahead" "thing" f fd okN gAhead := by
  refine ⟨D.F.ok scAhead lenJw (fun cdv A outer s H vs Q E hr h => ?_), D.g, D.F.kp, D.b⟩
  obtain ⟨v, u, w, rfl, hat, fi, hs, hw, k⟩ := h
  refine ⟨_, pss_one (ps_ret (pe_or (pe_cmpR (op_eqN (room_hu hr)) (pv 0) (pe_tup pa_nil) (nomark _)) (pe_one (pe_J J hr (by decide) (by rfl) pass0 (pv 0))))), ?_⟩
  exact s_ret (ev_orV (ev_opU (ev_var rfl) (eu_tup ea_nil (by decide)) fun q H1 hq e1 => rv_eqN ((nc_at S.q hat).ex e1) hq) fun _ => ev_J (ev_var rfl) hat fi) fun H1 e => k H1 e
/-! is_vote -/
theorem scVote : FnScope ["thing"] ["thing"] (defScope sVote) := ⟨rfl, rfl, rfl, by decide +kernel, rfl, by decide +kernel, by decide +kernel⟩
theorem jd_vote {f f1 f2 f3 : Addr} {fd d1 d2 d3 : FuncData} (D : Df K mg "is_vote" sVote ["thing"] f fd) (S : Bs K mg C) (JP : Jd P wd K mg base C 1 "is_pair" "thing" f1 d1 gPair) (JS : Jd P wd K mg base C 3 "is_stamp" "thing" f2 d2 gStamp)
    (JM : Jd P wd K mg base C 4 "is_members" "thing" f3 d3 gMembers) : Jd P wd K mg base C 5 "is_vote" "thing" f fd gVote := by
  refine ⟨D.F.ok scVote lenJ (fun cdv A outer s H vs Q E hr h => ?_), D.g, D.F.kp, D.b⟩
  obtain ⟨v, u, w, rfl, hat, fi, k⟩ := h
  refine ⟨_, pss_one (ps_ret (pe_or (pe_cmpR op_isN1 (pv 0) pe_non (nomark _)) (pe_one (pe_and (pe_J JP hr (by decide) (by rfl) pass0 (pv 0)) (pe_and (pe_J JS hr (by decide) (by rfl) pass0 (pe_ix ix_tup (pv 0) pe_int (fun _ _ => rfl))) (pe_one (pe_J JM hr (by decide) (by rfl) pass0 (pe_ix ix_tup (pv 0) pe_int (fun _ _ => rfl))))))))), ?_⟩
  refine s_ret (ev_orV (a := isNon u) (ev_is (ev_isN (ev_var rfl)) (by rw [at_non hat])) fun _ => ev_andV (b := tv u fun us => two us fun a b => gStamp a && gMembers b) (ev_J (ev_var rfl) hat fi) fun q => ?_) fun H1 e => ?_
  · obtain ⟨a, b, rfl⟩ := gPair_two q
    obtain ⟨p, x, y, rfl, hp, ha, hb⟩ := pair_at hat
    exact ev_andV (ev_J (ev_ixT (j := 0) (ev_var rfl) hp rfl) ha fi.fst) fun _ => ev_J (ev_ixT (j := 1) (ev_var rfl) hp rfl) hb fi.snd
  · rw [pair_and]
    exact k H1 e
/-! _is_named_head -/
theorem scNamed : FnScope ["thing"] ["thing"] (defScope sNamed) := ⟨rfl, rfl, rfl, by decide +kernel, rfl, by decide +kernel, by decide +kernel⟩
theorem jd_named {f f1 f2 f3 f4 : Addr} {fd d1 d2 d3 d4 : FuncData} (D : Df K mg "_is_named_head" sNamed ["thing"] f fd) (S : Bs K mg C) (JT : JTO P wd K mg base C f1 d1) (JN : Jd P wd K mg base C 2 "is_name" "thing" f2 d2 gNam)
    (JS : Jd P wd K mg base C 3 "is_stamp" "thing" f3 d3 gStamp) (JR : Jd P wd K mg base C 4 "is_row" "thing" f4 d4 gRow) : Jd P wd K mg base C 5 "_is_named_head" "thing" f fd gNamed := by
  refine ⟨D.F.ok scNamed lenJ (fun cdv A outer s H vs Q E hr h => ?_), D.g, D.F.kp, D.b⟩
  obtain ⟨v, u, w, rfl, hat, fi, k⟩ := h
  refine ⟨_, pss_one (ps_ret (pe_and (pe_call JT.ok (hr.mono (by decide)) (by rfl) JT.D.g JT.D.F.kp JT.D.b .nil pass0 (pa_cons pe_int (pa_cons (pv 0) pa_nil))) (pe_and (pe_J JN hr (by decide) (by rfl) pass0 (pe_ix ix_tup (pv 0) pe_int (fun _ _ => rfl)))
    (pe_and (pe_J JS hr (by decide) (by rfl) pass0 (pe_ix ix_tup (pv 0) pe_int (fun _ _ => rfl))) (pe_one (pe_J JR hr (by decide) (by rfl) pass0 (pe_ix ix_tup (pv 0) pe_int (fun _ _ => rfl)))))))), ?_⟩
  refine s_ret (ev_andV (a := gTO 3 u) (ev_TO (m := 3) ev_c (ev_var rfl) hat) fun q => ?_) fun H1 e => k H1 e
  obtain ⟨x0, e0, h0⟩ := ev_nth (K := K) (σ := [some v]) (te := tVar 0) (k := 0) (ev_var rfl) hat q (by decide)
  obtain ⟨x1, e1, h1⟩ := ev_nth (K := K) (σ := [some v]) (te := tVar 0) (k := 1) (ev_var rfl) hat q (by decide)
  obtain ⟨x2, e2, h2⟩ := ev_nth (K := K) (σ := [some v]) (te := tVar 0) (k := 2) (ev_var rfl) hat q (by decide)
  exact ev_andV (ev_J e0 h0 (fine_nth q (by decide) fi)) fun _ => ev_andV (ev_J e1 h1 (fine_nth q (by decide) fi)) fun _ => ev_J e2 h2 (fine_nth q (by decide) fi)
/-! _is_block -/
theorem scBlk : FnScope ["thing"] ["thing"] (defScope sBlk) := ⟨rfl, rfl, rfl, by decide +kernel, rfl, by decide +kernel, by decide +kernel⟩
theorem jd_blk {f f1 f2 f3 : Addr} {fd d1 d2 d3 : FuncData} (D : Df K mg "_is_block" sBlk ["thing"] f fd) (S : Bs K mg C) (JP : Jd P wd K mg base C 1 "is_pair" "thing" f1 d1 gPair) (JI : Jd P wd K mg base C 3 "is_block_id" "thing" f2 d2 gId)
    (JC : Jd P wd K mg base C 2 "is_piece" "thing" f3 d3 gPiece) : Jd P wd K mg base C 5 "_is_block" "thing" f fd gBlk := by
  refine ⟨D.F.ok scBlk lenJ (fun cdv A outer s H vs Q E hr h => ?_), D.g, D.F.kp, D.b⟩
  obtain ⟨v, u, w, rfl, hat, fi, k⟩ := h
  refine ⟨_, pss_one (ps_ret (pe_and (pe_J JP hr (by decide) (by rfl) pass0 (pv 0)) (pe_and (pe_J JI hr (by decide) (by rfl) pass0 (pe_ix ix_tup (pv 0) pe_int (fun _ _ => rfl))) (pe_one (pe_J JC hr (by decide) (by rfl) pass0 (pe_ix ix_tup (pv 0) pe_int (fun _ _ => rfl))))))), ?_⟩
  refine s_ret (ev_andV (ev_J (ev_var rfl) hat fi) fun q => ?_) fun H1 e => k H1 e
  obtain ⟨a, b, rfl⟩ := gPair_two q
  obtain ⟨p, x, y, rfl, hp, ha, hb⟩ := pair_at hat
  exact ev_andV (ev_J (ev_ixT (j := 0) (ev_var rfl) hp rfl) ha fi.fst) fun _ => ev_J (ev_ixT (j := 1) (ev_var rfl) hp rfl) hb fi.snd
end
end Hs
namespace Hs
open PySem PySem.Spec PyProof.Rows L2 Hu Evl
abbrev sTable : Stmt := topS 999
abbrev sKept : Stmt := topS 999
abbrev sLeases : Stmt := topS 999
abbrev sLease : Stmt := topS 999
def gLease (u : U) : Bool := gTO 4 u && (gNam (nth u 0) && gHand (nth u 1)) && (gCnt (nth u 2) && gCnt (nth u 3))
def keyL (u : U) : List L2.Key := [keyU (nth u 0), keyU (nth u 1)]
def gLeases (u : U) : Bool := tv u fun us => us.all gLease && ascK (us.map keyL)
theorem gNam_str {u : U} (h : gNam u = true) : ∃ z, u = .str z := by
  cases u with
  | str z => exact ⟨z, rfl⟩
  | _ => cases h
theorem and3 {a b c : Bool} (h : (a && (b && c)) = true) : a = true ∧ b = true ∧ c = true := by
  rw [Bool.and_eq_true, Bool.and_eq_true] at h
  exact h
theorem and2 {a b : Bool} (h : (a && b) = true) : a = true ∧ b = true := by
  rw [Bool.and_eq_true] at h
  exact h
section
variable {P : Program} {wd : World} {K : PySem.W.Frag} {mg : Str → Option Value} {base : Heap} {C : Addr}
theorem names_at {w : Addr} {H : Hp} : ∀ {us : List U} {xs : List V}, AtL w C H xs us → us.all gNamed = true → ∀ (i : Nat) (x : V), xs[i]? = some x → ∃ p ys, x = .ref p ∧ H p = some (.tup ys) ∧ ys[0]? = some (.str ((us.map fun u => strU (nth u 0)).getD i e0z))
  | [], _, .nil, _, i, x, h => by simp at h
  | u :: us, _, .cons hu l, q, i, x, h => by
    rw [List.all_cons] at q
    obtain ⟨q1, q2⟩ := and2 q
    cases i with
    | zero =>
      cases h
      obtain ⟨a1, a2, _⟩ := and3 (a := gTO 3 u) (b := gNam (nth u 0)) (c := gStamp (nth u 1) && gRow (nth u 2)) q1
      obtain ⟨vs, rfl, hl⟩ := gTO_of a1
      obtain ⟨p, ys, rfl, hp, _, hys⟩ := at_tup hu
      obtain ⟨y, hy, hay⟩ := atl_get hys (k := 0) (by omega)
      obtain ⟨z, hz⟩ := gNam_str a2
      have hz' : vs.getD 0 .non = .str z := hz
      rw [hz'] at hay
      rw [at_str hay] at hy
      refine ⟨p, ys, rfl, hp, ?_⟩
      rw [hy]
      show some (V.str z) = some (V.str (strU (vs.getD 0 .non)))
      rw [hz']
      rfl
    | succ i => exact names_at l q2 i x h
theorem scHeads : FnScope ["thing", "item"] ["thing"] (defScope sHeads) := ⟨rfl, rfl, rfl, by decide +kernel, rfl, by decide +kernel, by decide +kernel⟩
theorem range_names (zs : List Str) (n : Nat) (h : n = zs.length) : (List.range n).map (fun i => V.str (zs.getD i e0z)) = zs.map V.str := by
  subst h
  refine List.ext_getElem? fun j => ?_
  rw [List.getElem?_map, List.getElem?_map]
  by_cases q : j < zs.length
  · rw [List.getElem?_range q, List.getElem?_eq_getElem q]
    show some (V.str (zs.getD j e0z)) = _
    rw [getD_some (List.getElem?_eq_getElem q)]
    rfl
  · rw [List.getElem?_eq_none (by simpa using q), List.getElem?_eq_none (by simpa using q)]
    rfl
theorem jw_heads {f f1 f2 : Addr} {fd d1 d2 : FuncData} (D : Df K mg "is_heads" sHeads ["thing"] f fd) (S : Bs K mg C) (J : Jd P wd K mg base C 5 "_is_named_head" "thing" f1 d1 gNamed) (DA : Df K mg "is_ascending" sAscending ["things"] f2 d2) :
    Jw P wd K mg base C 6 "is_heads" "thing" f fd Sm gHeads := by
  refine ⟨D.F.ok scHeads lenJw (fun cdv A outer s H vs Q E hr h => ?_), D.g, D.F.kp, D.b⟩
  obtain ⟨v, u, w, rfl, hat, fi, hs, hw, k⟩ := h
  have GA : FnOk P wd K mg base CX0 5 f2 d2 ["things"] (spAscG K (rIxL K) rLtS) := (ok_ascZ DA.F S.B).mono (by decide)
  refine ⟨_, pss_cons (ps_if (PW.pt (pw_or (pt_not (pt_val (pe_isiX S (by rfl) (by rfl) S.B.tup boot_tuple' (by decide) (pv 0) (by decide) (by decide))))
      (pw_or1 (pt_not (pt_val (pe_callB (cr_all rfl) (by rfl) S.B.all boot_all' (pa_cons (pe_lc (own := [("item", 1)]) (g := gName 1) (tt := tYes) rfl scHeads.nd (pi_tup (pv 0)) (blkOk_by (N := ["thing", "item"]) (sc := defScope sHeads) (by decide +kernel))
        (fun _ _ _ _ _ => pg_name (i := 1) scHeads.nd rfl (Or.inl rfl)) (fun _ _ _ _ _ => pts_nil) (fun _ _ _ _ _ => pe_J J hr (by decide) (by rfl) pass0 (pv 1))) pa_nil)))))))
      (pss_one (ps_ret pe_bl)) pss_nil)
    (pss_one (ps_ret (pe_call GA (hr.mono (by decide)) (by rfl) DA.g DA.F.kp DA.b .nil pass0 (pa_cons (pe_lc (own := [("item", 1)]) (g := gName 1) (tt := tYes) rfl scHeads.nd (pi_tup (pv 0)) (blkOk_by (N := ["thing", "item"]) (sc := defScope sHeads) (by decide +kernel))
        (fun _ _ _ _ _ => pg_name (i := 1) scHeads.nd rfl (Or.inl rfl)) (fun _ _ _ _ _ => pts_nil) (fun _ _ _ _ _ => pe_ix (show IxR _ (rIxT K) from ix_tup) (pv 1) pe_int (fun _ _ => rfl))) pa_nil)))), ?_⟩
  refine s_if (b := !isT u "tuple" || !(tv u fun us => us.all gNamed)) (et_or (et_not (et_B (ev_isi (ev_var rfl) hat))) fun q => ?_) (fun q H1 e => ?_) (fun q H1 e => ?_)
  · rw [Bool.not_eq_false'] at q
    obtain ⟨us, rfl⟩ := isT_tup q
    obtain ⟨a, xs, rfl, ha, _, hl⟩ := at_tup hat
    exact et_not (et_B (ev_allT (g := gNamed) (ev_var rfl) ha fi.len hl (fun _ => rfl) fun x u hu hx => ev_J (ev_var rfl) hx (fi.tup u hu)))
  · refine s_ret ev_c fun H2 e2 => ?_
    have e3 : gHeads u = false := by
      cases u with
      | tup us =>
        simp [isT, isS, tyU, tv] at q
        show (us.all gNamed && _) = false
        rw [Bool.and_eq_false_iff]
        exact .inl (by simpa using q)
      | _ => rfl
    rw [← e3]
    exact k H2 (e.trans e2)
  · rw [Bool.or_eq_false_iff, Bool.not_eq_false', Bool.not_eq_false'] at q
    obtain ⟨us, rfl⟩ := isT_tup q.1
    have q2 : us.all gNamed = true := q.2
    obtain ⟨a, xs, rfl, ha, _, hl⟩ := at_tup (ex_at e hat)
    have hlen := AtL.length hl
    dsimp only [tNext]
    refine s_ret (ev_callL1 (xs := (us.map fun u => strU (nth u 0)).map V.str) (z := .bl (ascZ (us.map fun u => strU (nth u 0)))) ?_ fun p H2 h2 e2 Q q E => asc_strL h2 (by rw [List.length_map]; exact Sm.len hs) Q q E) fun H2 e2 => ?_
    · rw [← range_names _ xs.length (by rw [List.length_map]; exact hlen)]
      exact el_mapX _ (ev_var rfl) ha (by rw [hlen]; exact Sm.len hs) (fun _ => rfl) fun i x hx => by
        obtain ⟨p, ys, rfl, hp, hy⟩ := names_at hl q2 i x hx
        exact ev_ixT (j := 0) (ev_var rfl) hp hy
    · have e3 : gHeads (.tup us) = ascZ (us.map fun u => strU (nth u 0)) := by
        show (us.all gNamed && _) = _
        rw [q2]
        rfl
      rw [← e3]
      exact k H2 (e.trans e2)
/-- a call with a new list of which something is known -/
theorem ev_callX {sp : Sp} {E : XK} {z : V} {te : TE} {σ : L2.St} {H : Hp} {R : List V → Hp → Prop} (h : ∀ H0, Ex H H0 → ∀ Q : VK, (∀ p ys H', H0 p = none → Ex H0 H' → H' p = some (.lst ys) → R ys H' → Q (.ref p) H') → te σ H0 Q)
    (hs : ∀ p ys H1, H1 p = some (.lst ys) → R ys H1 → ∀ Q : VK, (∀ H2, Ex H1 H2 → Q z H2) → ∀ E, sp [.ref p] H1 Q E) : Ev (tCall sp [] E (tCons te tNil)) σ H z :=
  fun H0 e Q q => h H0 e _ fun p ys H1 hp e1 h1 r => hs p ys H1 h1 r Q (fun H2 e2 => q H2 (e1.trans e2)) _
/-! is_blocks -/
theorem scBlocks : FnScope ["thing", "item"] ["thing"] (defScope sBlocks) := ⟨rfl, rfl, rfl, by decide +kernel, rfl, by decide +kernel, by decide +kernel⟩
theorem gHand_int {u : U} (h : gHand u = true) : ∃ i, u = .int i := by
  cases u with
  | int i => exact ⟨i, rfl⟩
  | _ => cases h
theorem gFrom_int {u : U} (h : gFrom u = true) : ∃ i, u = .int i := by
  cases u with
  | int i => exact ⟨i, rfl⟩
  | _ => cases h
theorem gId_two {u : U} (h : gId u = true) : ∃ i j, u = .tup [.int i, .int j] := by
  cases u with
  | tup us =>
    match us, h with
    | [a, b], h =>
      obtain ⟨h1, h2⟩ := and2 (a := gHand a) (b := gFrom b) h
      obtain ⟨i, rfl⟩ := gHand_int h1
      obtain ⟨j, rfl⟩ := gFrom_int h2
      exact ⟨i, j, rfl⟩
  | _ => cases h
theorem two_ints {w : Addr} {H : Hp} {v : V} {i j : Int} (h : At w C H v (.tup [.int i, .int j])) : ∃ p, v = .ref p ∧ H p = some (.tup [.int i, .int j]) := by
  obtain ⟨p, x, y, rfl, hp, hx, hy⟩ := pair_at h
  rw [at_int hx, at_int hy] at hp
  exact ⟨p, rfl, hp⟩
theorem gBlk_is {u : U} (h : gBlk u = true) : ∃ i j b, u = .tup [.tup [.int i, .int j], b] := by
  obtain ⟨h1, h2, _⟩ := and3 h
  obtain ⟨a, b, rfl⟩ := gPair_two h1
  obtain ⟨i, j, e⟩ := gId_two h2
  have e' : a = .tup [.int i, .int j] := e
  exact ⟨i, j, b, by rw [e']⟩
theorem kin_blks {us : List U} (h : us.all gBlk = true) : kinK (us.map fun u => keysU (nth u 0)) := fun ks h1 ls h2 => by
  obtain ⟨u, hu, rfl⟩ := List.mem_map.mp h1
  obtain ⟨x, hx, rfl⟩ := List.mem_map.mp h2
  obtain ⟨i, j, b, rfl⟩ := gBlk_is (List.all_eq_true.mp h u hu)
  obtain ⟨i', j', b', rfl⟩ := gBlk_is (List.all_eq_true.mp h x hx)
  rfl
theorem jw_blocks {f f1 f2 : Addr} {fd d1 d2 : FuncData} (D : Df K mg "is_blocks" sBlocks ["thing"] f fd) (S : Bs K mg C) (J : Jd P wd K mg base C 5 "_is_block" "thing" f1 d1 gBlk) (DA : Df K mg "is_ascending" sAscending ["things"] f2 d2) :
    Jw P wd K mg base C 6 "is_blocks" "thing" f fd Sm gBlocks := by
  refine ⟨D.F.ok scBlocks lenJw (fun cdv A outer s H vs Q E hr h => ?_), D.g, D.F.kp, D.b⟩
  obtain ⟨v, u, w, rfl, hat, fi, hs, hw, k⟩ := h
  have GA : FnOk P wd K mg base CX0 5 f2 d2 ["things"] (spAscG K (rIxL K) (Hk.rLtK K)) := (ok_ascK DA.F S.B).mono (by decide)
  refine ⟨_, pss_cons (ps_if (PW.pt (pw_or (pt_not (pt_val (pe_isiX S (by rfl) (by rfl) S.B.tup boot_tuple' (by decide) (pv 0) (by decide) (by decide))))
      (pw_or1 (pt_not (pt_val (pe_callB (cr_all rfl) (by rfl) S.B.all boot_all' (pa_cons (pe_lc (own := [("item", 1)]) (g := gName 1) (tt := tYes) rfl scBlocks.nd (pi_tup (pv 0)) (blkOk_by (N := ["thing", "item"]) (sc := defScope sBlocks) (by decide +kernel))
        (fun _ _ _ _ _ => pg_name (i := 1) scBlocks.nd rfl (Or.inl rfl)) (fun _ _ _ _ _ => pts_nil) (fun _ _ _ _ _ => pe_J J hr (by decide) (by rfl) pass0 (pv 1))) pa_nil)))))))
      (pss_one (ps_ret pe_bl)) pss_nil)
    (pss_one (ps_ret (pe_call GA (hr.mono (by decide)) (by rfl) DA.g DA.F.kp DA.b .nil pass0 (pa_cons (pe_lc (own := [("item", 1)]) (g := gName 1) (tt := tYes) rfl scBlocks.nd (pi_tup (pv 0)) (blkOk_by (N := ["thing", "item"]) (sc := defScope sBlocks) (by decide +kernel))
        (fun _ _ _ _ _ => pg_name (i := 1) scBlocks.nd rfl (Or.inl rfl)) (fun _ _ _ _ _ => pts_nil) (fun _ _ _ _ _ => pe_ix (show IxR _ (rIxT K) from ix_tup) (pv 1) pe_int (fun _ _ => rfl))) pa_nil)))), ?_⟩
  refine s_if (b := !isT u "tuple" || !(tv u fun us => us.all gBlk)) (et_or (et_not (et_B (ev_isi (ev_var rfl) hat))) fun q => ?_) (fun q H1 e => ?_) (fun q H1 e => ?_)
  · rw [Bool.not_eq_false'] at q
    obtain ⟨us, rfl⟩ := isT_tup q
    obtain ⟨a, xs, rfl, ha, _, hl⟩ := at_tup hat
    exact et_not (et_B (ev_allT (g := gBlk) (ev_var rfl) ha fi.len hl (fun _ => rfl) fun x u hu hx => ev_J (ev_var rfl) hx (fi.tup u hu)))
  · refine s_ret ev_c fun H2 e2 => ?_
    have e3 : gBlocks u = false := by
      cases u with
      | tup us =>
        simp [isT, isS, tyU, tv] at q
        show (us.all gBlk && _) = false
        rw [Bool.and_eq_false_iff]
        exact .inl (by simpa using q)
      | _ => rfl
    rw [← e3]
    exact k H2 (e.trans e2)
  · rw [Bool.or_eq_false_iff, Bool.not_eq_false', Bool.not_eq_false'] at q
    obtain ⟨us, rfl⟩ := isT_tup q.1
    have q2 : us.all gBlk = true := q.2
    obtain ⟨a, xs, rfl, ha, _, hl⟩ := at_tup (ex_at e hat)
    dsimp only [tNext]
    refine s_ret (v := .bl (ascK (us.map fun u => keysU (nth u 0)))) (ev_callX (R := fun ys G => TkL G ys (us.map fun u => keysU (nth u 0))) (lc_newK (K := K) (tl := tVar 0) (j := 1) (vs := [1]) (σ := [some (.ref a), none]) (f := fun u => keysU (nth u 0)) (ev_var rfl) ha (Sm.len hs) hl (fun _ => rfl) (fun x u G hu eg hx Q q => ?_)) fun p ys H3 h3 ht Q q E =>
      asc_tkL h3 ht (kin_blks q2) (by rw [List.length_map]; exact Sm.len hs) Q q E) fun H2 e2 => ?_
    · obtain ⟨i, j, b, rfl⟩ := gBlk_is (List.all_eq_true.mp q2 u hu)
      obtain ⟨p, x1, y1, rfl, hp, hx1, _⟩ := pair_at hx
      obtain ⟨p1, rfl, hp1⟩ := two_ints hx1
      exact ev_ixT (K := K) (j := 0) (te := tVar 1) (ev_var rfl) hp rfl G (Ex.refl G) Q fun H5 e5 => q p1 H5 e5 (e5 _ _ hp1)
    · have e3 : gBlocks (.tup us) = ascK (us.map fun u => keysU (nth u 0)) := by
        show (us.all gBlk && _) = _
        rw [q2]
        rfl
      rw [← e3]
      exact k H2 (e.trans e2)
end
end Hs
/-! lots of names, ids, counts, judged -/
namespace Hs
open PySem PySem.Spec PyProof.Rows L2 Hu Evl
abbrev sNames : Stmt := topS 32
abbrev sIds : Stmt := topS 33
abbrev sCounts : Stmt := topS 34
abbrev sPartK : Stmt := topS 35
abbrev sLot : Stmt := topS 36
abbrev sPartsK : Stmt := topS 37
abbrev sMachine : Stmt := topS 42
abbrev sTold : Stmt := topS 44
abbrev sLetter : Stmt := topS 43
section
variable {P : Program} {wd : World} {K : PySem.W.Frag} {mg : Str → Option Value} {base : Heap} {C : Addr}
theorem asc_strT {H : Hp} {a : Addr} {zs : List Str} (ha : H a = some (.tup (zs.map V.str))) (hz : zs.length ≤ 40000) (Q : VK) (q : ∀ H2, Ex H H2 → Q (.bl (ascZ zs)) H2) (E : XK) : spAscG K (rIxT K) rLtS [.ref a] H Q E := by
  refine ⟨a, zs.map V.str, (fun k => decide ((zs.getD k e0z).cps.toList < (zs.getD (k + 1) e0z).cps.toList)), rfl, .inr (st_of ha), (by rw [List.length_map]; exact hz), fun k x hx => rv_ixT (st_of ha) (atI_nat hx), fun k x y hx hy => ?_, ?_⟩
  · rw [List.getElem?_map] at hx hy
    cases h1 : zs[k]? with
    | none => rw [h1] at hx; cases hx
    | some z => cases h2 : zs[k + 1]? with
      | none => rw [h2] at hy; cases hy
      | some z2 =>
        rw [h1] at hx
        rw [h2] at hy
        cases hx
        cases hy
        dsimp only
        rw [getD_some h1, getD_some h2]
        exact fun H1 e Q q => ⟨z, z2, rfl, rfl, q H1 (Ex.refl H1)⟩
  · rw [List.length_map]
    exact q
theorem asc_tkT {H : Hp} {a : Addr} {ys : List V} {kss : List (List L2.Key)} (ha : H a = some (.tup ys)) (ht : TkL H ys kss) (hk : kinK kss) (hz : kss.length ≤ 40000) (Q : VK) (q : ∀ H2, Ex H H2 → Q (.bl (ascK kss)) H2) (E : XK) : spAscG K (rIxT K) (Hk.rLtK K) [.ref a] H Q E := by
  refine ⟨a, ys, (fun k => Hk.ltK (kss.getD k []) (kss.getD (k + 1) [])), rfl, .inr (st_of ha), (by rw [ht.len]; exact hz), fun k x hx => rv_ixT (st_of ha) (atI_nat hx), fun k x y hx hy => ?_, ?_⟩
  · obtain ⟨p, ks, rfl, h1, hp⟩ := ht.get hx
    obtain ⟨p2, ls, rfl, h2, hp2⟩ := ht.get hy
    dsimp only
    rw [getD_some h1, getD_some h2]
    exact fun H1 e Q q => ⟨p, p2, ks, ls, rfl, rfl, st_of (e _ _ hp), st_of (e _ _ hp2), hk _ (List.mem_of_getElem? h1) _ (List.mem_of_getElem? h2), q H1 (Ex.refl H1)⟩
  · rw [ht.len]
    exact q
theorem ok_ascZT {f : Addr} {fd : FuncData} (F : Fun K "is_ascending" "is_ascending" sAscending f fd) (B : Bt mg) : FnOk P wd K mg base CX0 1 f fd ["things"] (spAscG K (rIxT K) rLtS) :=
  ok_ascG F B (fun X e => e ▸ ix_tup) (fun X e _ => op_lt_str)
theorem ok_ascKT {f : Addr} {fd : FuncData} (F : Fun K "is_ascending" "is_ascending" sAscending f fd) (B : Bt mg) : FnOk P wd K mg base CX0 1 f fd ["things"] (spAscG K (rIxT K) (Hk.rLtK K)) :=
  ok_ascG F B (fun X e => e ▸ ix_tup) (fun X e h => e ▸ Hk.op_ltK (by omega))
def gNames (u : U) : Bool := tv u fun us => us.all gNam && ascZ (us.map strU)
def gIds (u : U) : Bool := tv u fun us => us.all gId && ascK (us.map keysU)
def gCounts (m : Nat) (u : U) : Bool := tv u fun us => decide (us.length ≤ m) && us.all gCnt
theorem names_str {w : Addr} {H : Hp} : ∀ {us : List U} {xs : List V}, AtL w C H xs us → us.all gNam = true → xs = (us.map strU).map V.str
  | [], _, .nil, _ => rfl
  | u :: us, _, .cons h t, hall => by
    rw [List.all_cons, Bool.and_eq_true] at hall
    obtain ⟨z, rfl⟩ := gNam_str hall.1
    rw [at_str h, names_str t hall.2]
    rfl
theorem ids_tk {w : Addr} {H : Hp} : ∀ {us : List U} {xs : List V}, AtL w C H xs us → us.all gId = true → TkL H xs (us.map keysU)
  | [], _, .nil, _ => .nil
  | u :: us, _, .cons h t, hall => by
    rw [List.all_cons, Bool.and_eq_true] at hall
    obtain ⟨i, j, rfl⟩ := gId_two hall.1
    obtain ⟨p, rfl, hp⟩ := two_ints h
    exact .cons (ks := [.inl i, .inl j]) hp (ids_tk t hall.2)
theorem kin_ids {us : List U} (h : us.all gId = true) : kinK (us.map keysU) := fun ks h1 ls h2 => by
  obtain ⟨u, hu, rfl⟩ := List.mem_map.mp h1
  obtain ⟨x, hx, rfl⟩ := List.mem_map.mp h2
  obtain ⟨i, j, rfl⟩ := gId_two (List.all_eq_true.mp h u hu)
  obtain ⟨i', j', rfl⟩ := gId_two (List.all_eq_true.mp h x hx)
  rfl
/-- a call with a value there of which something is known -/
theorem ev_callV {sp : Sp} {E : XK} {z v : V} {te : TE} {σ : L2.St} {H : Hp} (h : Ev te σ H v) (hs : ∀ H1, Ex H H1 → ∀ Q : VK, (∀ H2, Ex H1 H2 → Q z H2) → ∀ E, sp [v] H1 Q E) : Ev (tCall sp [] E (tCons te tNil)) σ H z :=
  ev_call (ea_cons h ea_nil) fun H1 e Q q E => hs H1 e Q q E
theorem scNames : FnScope ["thing", "item"] ["thing"] (defScope sNames) := ⟨rfl, rfl, rfl, by decide +kernel, rfl, by decide +kernel, by decide +kernel⟩
theorem jw_names {f f1 f2 : Addr} {fd d1 d2 : FuncData} (D : Df K mg "is_names" sNames ["thing"] f fd) (S : Bs K mg C) (J : Jd P wd K mg base C 2 "is_name" "thing" f1 d1 gNam) (DA : Df K mg "is_ascending" sAscending ["things"] f2 d2) : Jw P wd K mg base C 6 "is_names" "thing" f fd Sm gNames := by
  refine ⟨D.F.ok scNames lenJw (fun cdv A outer s H vs Q E hr h => ?_), D.g, D.F.kp, D.b⟩
  obtain ⟨v, u, w, rfl, hat, fi, hs, hw, k⟩ := h
  have GA : FnOk P wd K mg base CX0 5 f2 d2 ["things"] (spAscG K (rIxT K) rLtS) := (ok_ascZT DA.F S.B).mono (by decide)
  refine ⟨_, pss_one (ps_ret (pe_and (pe_isiX S (by rfl) (by rfl) S.B.tup boot_tuple' (by decide) (pv 0) (by decide) (by decide)) (pe_and (pe_callB (cr_all rfl) (by rfl) S.B.all boot_all' (pa_cons (pe_lc (own := [("item", 1)]) (g := gName 1) (tt := tYes) rfl scNames.nd (pi_tup (pv 0)) (blkOk_by (N := ["thing", "item"]) (sc := defScope sNames) (by decide +kernel))
        (fun _ _ _ _ _ => pg_name (i := 1) scNames.nd rfl (Or.inl rfl)) (fun _ _ _ _ _ => pts_nil) (fun _ _ _ _ _ => pe_J J hr (by decide) (by rfl) pass0 (pv 1))) pa_nil))
      (pe_one (pe_call GA hr (by rfl) DA.g DA.F.kp DA.b .nil pass0 (pa_cons (pv 0) pa_nil)))))), ?_⟩
  refine s_ret (ev_andV (b := gNames u) (ev_isi (ev_var rfl) hat) fun q => ?_) fun H1 e => ?_
  · obtain ⟨us, rfl⟩ := isT_tup q
    obtain ⟨a, xs, rfl, ha, _, hl⟩ := at_tup hat
    refine ev_andV (a := us.all gNam) (b := ascZ (us.map strU)) (ev_allT (g := gNam) (ev_var rfl) ha fi.len hl (fun _ => rfl) fun x u hu hx => ev_J (ev_var rfl) hx (fi.tup u hu)) fun q2 => ?_
    have hx := names_str hl q2
    exact ev_callV (ev_var rfl) fun H1 e Q f E => asc_strT (zs := us.map strU) (by rw [← hx]; exact e _ _ ha) (by rw [List.length_map]; exact Sm.len hs) Q f E
  · have : (isT u "tuple" && gNames u) = gNames u := by
      cases u with
      | tup us => show (isT (.tup us) "tuple" && _) = _; rw [show isT (.tup us) "tuple" = true by simp [isT, isS, tyU], Bool.true_and]
      | _ => unfold gNames tv; rw [Bool.and_false]
    rw [this]
    exact k H1 e
theorem scIds : FnScope ["thing", "item"] ["thing"] (defScope sIds) := ⟨rfl, rfl, rfl, by decide +kernel, rfl, by decide +kernel, by decide +kernel⟩
theorem jw_ids {f f1 f2 : Addr} {fd d1 d2 : FuncData} (D : Df K mg "is_ids" sIds ["thing"] f fd) (S : Bs K mg C) (J : Jd P wd K mg base C 3 "is_block_id" "thing" f1 d1 gId) (DA : Df K mg "is_ascending" sAscending ["things"] f2 d2) : Jw P wd K mg base C 6 "is_ids" "thing" f fd Sm gIds := by
  refine ⟨D.F.ok scIds lenJw (fun cdv A outer s H vs Q E hr h => ?_), D.g, D.F.kp, D.b⟩
  obtain ⟨v, u, w, rfl, hat, fi, hs, hw, k⟩ := h
  have GA : FnOk P wd K mg base CX0 5 f2 d2 ["things"] (spAscG K (rIxT K) (Hk.rLtK K)) := (ok_ascKT DA.F S.B).mono (by decide)
  refine ⟨_, pss_one (ps_ret (pe_and (pe_isiX S (by rfl) (by rfl) S.B.tup boot_tuple' (by decide) (pv 0) (by decide) (by decide)) (pe_and (pe_callB (cr_all rfl) (by rfl) S.B.all boot_all' (pa_cons (pe_lc (own := [("item", 1)]) (g := gName 1) (tt := tYes) rfl scIds.nd (pi_tup (pv 0)) (blkOk_by (N := ["thing", "item"]) (sc := defScope sIds) (by decide +kernel))
        (fun _ _ _ _ _ => pg_name (i := 1) scIds.nd rfl (Or.inl rfl)) (fun _ _ _ _ _ => pts_nil) (fun _ _ _ _ _ => pe_J J hr (by decide) (by rfl) pass0 (pv 1))) pa_nil))
      (pe_one (pe_call GA hr (by rfl) DA.g DA.F.kp DA.b .nil pass0 (pa_cons (pv 0) pa_nil)))))), ?_⟩
  refine s_ret (ev_andV (b := gIds u) (ev_isi (ev_var rfl) hat) fun q => ?_) fun H1 e => ?_
  · obtain ⟨us, rfl⟩ := isT_tup q
    obtain ⟨a, xs, rfl, ha, _, hl⟩ := at_tup hat
    refine ev_andV (a := us.all gId) (b := ascK (us.map keysU)) (ev_allT (g := gId) (ev_var rfl) ha fi.len hl (fun _ => rfl) fun x u hu hx => ev_J (ev_var rfl) hx (fi.tup u hu)) fun q2 => ?_
    exact ev_callV (ev_var rfl) fun H1 e Q f E => asc_tkT (e _ _ ha) (ids_tk (ex_atl e hl) q2) (kin_ids q2) (by rw [List.length_map]; exact Sm.len hs) Q f E
  · have : (isT u "tuple" && gIds u) = gIds u := by
      cases u with
      | tup us => show (isT (.tup us) "tuple" && _) = _; rw [show isT (.tup us) "tuple" = true by simp [isT, isS, tyU], Bool.true_and]
      | _ => unfold gIds tv; rw [Bool.and_false]
    rw [this]
    exact k H1 e
def spCts (C : Addr) : Sp := fun vs H Q _ => ∃ (v : V) (u : U) (w : Addr) (m : Nat), vs = [v, .int (m : Int)] ∧ At w C H v u ∧ Fine u ∧ ∀ H', Same H H' → Q (.bl (gCounts m u)) H'
theorem scCounts : FnScope ["thing", "most", "item"] ["thing", "most"] (defScope sCounts) := ⟨rfl, rfl, rfl, by decide +kernel, rfl, by decide +kernel, by decide +kernel⟩
theorem ok_counts {f f1 : Addr} {fd d1 : FuncData} (D : Df K mg "is_counts" sCounts ["thing", "most"] f fd) (S : Bs K mg C) (J : Jd P wd K mg base C 2 "is_count" "thing" f1 d1 gCnt) : FnOk P wd K mg base CX0 3 f fd ["thing", "most"] (spCts C) := by
  refine D.F.ok scCounts (fun vs H Q E h => ?_) (fun cdv A outer s H vs Q E hr h => ?_)
  · obtain ⟨v, u, w, m, rfl, _⟩ := h
    rfl
  obtain ⟨v, u, w, m, rfl, hat, fi, k⟩ := h
  refine ⟨_, pss_one (ps_ret (pe_and (pe_isiX S (by rfl) (by rfl) S.B.tup boot_tuple' (by decide) (pv 0) (by decide) (by decide)) (pe_and (pe_cmpR op_le (pe_callB call_len_seq (by rfl) S.B.len PySem.boot_len (pa_cons (pv 0) pa_nil)) (pv 1) (nomark _))
      (pe_one (pe_callB (cr_all rfl) (by rfl) S.B.all boot_all' (pa_cons (pe_lc (own := [("item", 2)]) (g := gName 2) (tt := tYes) rfl scCounts.nd (pi_tup (pv 0)) (blkOk_by (N := ["thing", "most", "item"]) (sc := defScope sCounts) (by decide +kernel))
        (fun _ _ _ _ _ => pg_name (i := 2) scCounts.nd rfl (Or.inl rfl)) (fun _ _ _ _ _ => pts_nil) (fun _ _ _ _ _ => pe_J J hr (by decide) (by rfl) pass0 (pv 2))) pa_nil)))))), ?_⟩
  refine s_ret (ev_andV (b := gCounts m u) (ev_isi (ev_var rfl) hat) fun q => ?_) fun H1 e => ?_
  · obtain ⟨us, rfl⟩ := isT_tup q
    obtain ⟨a, xs, rfl, ha, _, hl⟩ := at_tup hat
    refine ev_andV (a := decide (us.length ≤ m)) (b := us.all gCnt) (ev_is (ev_op (ev_lenTU (K := K) (ev_var rfl) ha hl) (ev_var rfl) rv_I0) ?_) fun q2 => ev_allT (g := gCnt) (ev_var rfl) ha fi.len hl (fun _ => rfl) fun x u hu hx => ev_J (ev_var rfl) hx (fi.tup u hu)
    congr 1
    exact decide_eq_decide.mpr (by omega)
  · have : (isT u "tuple" && gCounts m u) = gCounts m u := by
      cases u with
      | tup us => show (isT (.tup us) "tuple" && _) = _; rw [show isT (.tup us) "tuple" = true by simp [isT, isS, tyU], Bool.true_and]
      | _ => unfold gCounts tv; rw [Bool.and_false]
    rw [this]
    exact k H1 e
end
end Hs
/-! parts of any kind, judged -/
namespace Hs
open PySem PySem.Spec PyProof.Rows L2 Hu Evl
section
variable {P : Program} {wd : World} {K : PySem.W.Frag} {mg : Str → Option Value} {base : Heap} {C : Addr}
def eqZ (z y : Str) : Bool := decide (V.str z = V.str y)
def gLot (z : Str) (u : U) : Bool := if eqZ z "heads" = true then gHeads u else if eqZ z "blocks" = true then gBlocks u else if eqZ z "names" = true then gNames u else if eqZ z "ids" = true then gIds u else if eqZ z "sums" = true then gCounts 64 u else eqZ z "factor" && gCounts 65 u
def gMany (u : U) : Bool := iv u fun i => decide (1 ≤ i) && decide (i ≤ 64)
def gPart (z : Str) (u : U) : Bool := if inV (.str z) [.str "epoch", .str "talk", .str "size"] = true then gCnt u else if eqZ z "name" = true then gNam u else if eqZ z "hand" = true then gHand u else if inV (.str z) [.str "stamp", .str "ballot"] = true then gStamp u else if eqZ z "row" = true then gRow u else
  if eqZ z "id" = true then gId u else if eqZ z "piece" = true then gPiece u else if eqZ z "members" = true then gMembers u else if eqZ z "ahead" = true then gAhead u else if eqZ z "voted" = true then gVote u else if eqZ z "many" = true then gMany u else gLot z u
def spPk (C : Addr) (g : Str → U → Bool) : Sp := fun vs H Q _ => ∃ (z : Str) (v : V) (u : U) (w : Addr), vs = [.str z, v] ∧ At w C H v u ∧ Fine u ∧ Sm u ∧ (∃ o, H w = some o) ∧ ∀ H', Same H H' → Q (.bl (g z u)) H'
theorem lenPk {C : Addr} {g : Str → U → Bool} {a b : Str} : ∀ vs H Q E, spPk C g vs H Q E → vs.length = [a, b].length := fun vs H Q E h => by
  obtain ⟨z, v, u, w, rfl, _⟩ := h
  rfl
theorem pe_gi' {X : Cx} {x : Str} {i : Int} {p : Pos} (hg : Gl X x) (h : ∃ t, X.mg x = some (.int i t)) (hd : (x == ("__debug__" : Str)) = false := by decide) : PE X (.Name x p) (tC (.int i)) := by
  obtain ⟨t, h⟩ := h
  exact pe_glob (v := .int i) hg h ⟨_, rfl⟩ hd
theorem scLot : FnScope ["kind", "thing"] ["kind", "thing"] (defScope sLot) := ⟨rfl, rfl, rfl, by decide +kernel, rfl, by decide +kernel, by decide +kernel⟩
theorem ok_lot {f f1 f2 f3 f4 f5 : Addr} {fd d1 d2 d3 d4 d5 : FuncData} (D : Df K mg "_is_lot" sLot ["kind", "thing"] f fd) (N : ∃ t, mg "MOST_PLACES" = some (.int 64 t)) (J1 : Jw P wd K mg base C 6 "is_heads" "thing" f1 d1 Sm gHeads) (J2 : Jw P wd K mg base C 6 "is_blocks" "thing" f2 d2 Sm gBlocks) (J3 : Jw P wd K mg base C 6 "is_names" "thing" f3 d3 Sm gNames)
    (J4 : Jw P wd K mg base C 6 "is_ids" "thing" f4 d4 Sm gIds) (D5 : Df K mg "is_counts" sCounts ["thing", "most"] f5 d5) (G5 : FnOk P wd K mg base CX0 3 f5 d5 ["thing", "most"] (spCts C)) : FnOk P wd K mg base CX0 7 f fd ["kind", "thing"] (spPk C gLot) := by
  have G5' : FnOk P wd K mg base CX0 6 f5 d5 ["thing", "most"] (spCts C) := G5.mono (by decide)
  refine D.F.ok scLot lenPk (fun cdv A outer s H vs Q E hr h => ?_)
  obtain ⟨z, v, u, w, rfl, hat, fi, hs, hw, k⟩ := h
  refine ⟨_, pss_cons (ps_if (pt_cmpR op_eq (pv 0) pe_str (nomark _)) (pss_one (ps_ret (pe_Jw J1 hr (by decide) (by rfl) pass0 (pv 1)))) pss_nil)
    (pss_cons (ps_if (pt_cmpR op_eq (pv 0) pe_str (nomark _)) (pss_one (ps_ret (pe_Jw J2 hr (by decide) (by rfl) pass0 (pv 1)))) pss_nil)
    (pss_cons (ps_if (pt_cmpR op_eq (pv 0) pe_str (nomark _)) (pss_one (ps_ret (pe_Jw J3 hr (by decide) (by rfl) pass0 (pv 1)))) pss_nil)
    (pss_cons (ps_if (pt_cmpR op_eq (pv 0) pe_str (nomark _)) (pss_one (ps_ret (pe_Jw J4 hr (by decide) (by rfl) pass0 (pv 1)))) pss_nil)
    (pss_cons (ps_if (pt_cmpR op_eq (pv 0) pe_str (nomark _)) (pss_one (ps_ret (pe_call G5' hr (by rfl) D5.g D5.F.kp D5.b .nil pass0 (pa_cons (pv 1) (pa_cons (pe_gi' (by rfl) N) pa_nil))))) pss_nil)
    (pss_one (ps_ret (pe_and (pe_cmpR op_eq (pv 0) pe_str (nomark _)) (pe_one (pe_call G5' hr (by rfl) D5.g D5.F.kp D5.b .nil pass0 (pa_cons (pv 1) (pa_cons (pe_op op_add (pe_gi' (by rfl) N) pe_int) pa_nil))))))))))), ?_⟩
  unfold gLot at k
  refine q_when (b := eqZ z "heads") (et_test (ev_op (ev_var rfl) ev_c (rv_eq rfl))) (fun q H9 e9 => ?_) (fun q0 H1 e1 => ?_)
  · rw [if_pos q] at k
    have e10 := ((Ex.refl H)).trans e9
    exact s_ret (ev_Jw (ev_var rfl) (ex_at e10 hat) fi hs (hw.imp fun o z => e10 _ _ z)) fun H10 e11 => k H10 (e10.trans e11)
  rw [if_neg (by rw [q0]; decide)] at k
  have E1 := ((Ex.refl H)).trans e1
  refine q_when (b := eqZ z "blocks") (et_test (ev_op (ev_var rfl) ev_c (rv_eq rfl))) (fun q H9 e9 => ?_) (fun q1 H2 e2 => ?_)
  · rw [if_pos q] at k
    have e10 := (E1).trans e9
    exact s_ret (ev_Jw (ev_var rfl) (ex_at e10 hat) fi hs (hw.imp fun o z => e10 _ _ z)) fun H10 e11 => k H10 (e10.trans e11)
  rw [if_neg (by rw [q1]; decide)] at k
  have E2 := (E1).trans e2
  refine q_when (b := eqZ z "names") (et_test (ev_op (ev_var rfl) ev_c (rv_eq rfl))) (fun q H9 e9 => ?_) (fun q2 H3 e3 => ?_)
  · rw [if_pos q] at k
    have e10 := (E2).trans e9
    exact s_ret (ev_Jw (ev_var rfl) (ex_at e10 hat) fi hs (hw.imp fun o z => e10 _ _ z)) fun H10 e11 => k H10 (e10.trans e11)
  rw [if_neg (by rw [q2]; decide)] at k
  have E3 := (E2).trans e3
  refine q_when (b := eqZ z "ids") (et_test (ev_op (ev_var rfl) ev_c (rv_eq rfl))) (fun q H9 e9 => ?_) (fun q3 H4 e4 => ?_)
  · rw [if_pos q] at k
    have e10 := (E3).trans e9
    exact s_ret (ev_Jw (ev_var rfl) (ex_at e10 hat) fi hs (hw.imp fun o z => e10 _ _ z)) fun H10 e11 => k H10 (e10.trans e11)
  rw [if_neg (by rw [q3]; decide)] at k
  have E4 := (E3).trans e4
  refine q_when (b := eqZ z "sums") (et_test (ev_op (ev_var rfl) ev_c (rv_eq rfl))) (fun q H9 e9 => ?_) (fun q4 H5 e5 => ?_)
  · rw [if_pos q] at k
    have e10 := E4.trans e9
    exact s_ret (ev_call (ea_cons (ev_var rfl) (ea_cons ev_c ea_nil)) fun G eg Q q E => ⟨v, u, w, 64, rfl, ex_at (e10.trans eg) hat, fi, q⟩) fun H10 e11 => k H10 (e10.trans e11)
  rw [if_neg (by rw [q4]; decide)] at k
  have E5 := E4.trans e5
  exact s_ret (ev_andV (a := eqZ z "factor") (b := gCounts 65 u) (ev_op (ev_var rfl) ev_c (rv_eq rfl)) fun _ => ev_call (ea_cons (ev_var rfl) (ea_cons (ev_op ev_c ev_c rv_I0) ea_nil)) fun G eg Q q E => ⟨v, u, w, 65, rfl, ex_at (E5.trans eg) hat, fi, q⟩) fun H10 e11 => k H10 (E5.trans e11)
theorem scPartK : FnScope ["kind", "thing"] ["kind", "thing"] (defScope sPartK) := ⟨rfl, rfl, rfl, by decide +kernel, rfl, by decide +kernel, by decide +kernel⟩
theorem ok_partK {f g1 g2 g3 g4 g5 g6 g7 g8 g9 g10 g11 : Addr} {fd d1 d2 d3 d4 d5 d6 d7 d8 d9 d10 d11 : FuncData} (D : Df K mg "is_part" sPartK ["kind", "thing"] f fd) (N : ∃ t, mg "MOST_PLACES" = some (.int 64 t)) (JC : Jd P wd K mg base C 2 "is_count" "thing" g1 d1 gCnt) (JN : Jd P wd K mg base C 2 "is_name" "thing" g2 d2 gNam) (JH : Jd P wd K mg base C 2 "is_hand" "thing" g3 d3 gHand)
    (JS : Jd P wd K mg base C 3 "is_stamp" "thing" g4 d4 gStamp) (JR : Jd P wd K mg base C 4 "is_row" "thing" g5 d5 gRow) (JI : Jd P wd K mg base C 3 "is_block_id" "thing" g6 d6 gId) (JP : Jd P wd K mg base C 2 "is_piece" "thing" g7 d7 gPiece) (JM : Jd P wd K mg base C 4 "is_members" "thing" g8 d8 gMembers) (JA : Jw P wd K mg base C 5 "is_ahead" "thing" g9 d9 okN gAhead) (JV : Jd P wd K mg base C 5 "is_vote" "thing" g10 d10 gVote)
    (DL : Df K mg "_is_lot" sLot ["kind", "thing"] g11 d11) (GL : FnOk P wd K mg base CX0 7 g11 d11 ["kind", "thing"] (spPk C gLot)) : FnOk P wd K mg base CX0 8 f fd ["kind", "thing"] (spPk C gPart) := by
  refine D.F.ok scPartK lenPk (fun cdv A outer s H vs Q E hr h => ?_)
  obtain ⟨z, v, u, w, rfl, hat, fi, hs, hw, k⟩ := h
  refine ⟨_, pss_cons (ps_if (pt_cmpR (show OpR _ _ (rIn K false) from op_in_seq) (pv 0) (pe_tup (pa_cons pe_str (pa_cons pe_str (pa_cons pe_str pa_nil)))) (by rfl)) (pss_one (ps_ret (pe_J JC hr (by decide) (by rfl) pass0 (pv 1)))) pss_nil)
    (pss_cons (ps_if (pt_cmpR op_eq (pv 0) pe_str (nomark _)) (pss_one (ps_ret (pe_J JN hr (by decide) (by rfl) pass0 (pv 1)))) pss_nil)
    (pss_cons (ps_if (pt_cmpR op_eq (pv 0) pe_str (nomark _)) (pss_one (ps_ret (pe_J JH hr (by decide) (by rfl) pass0 (pv 1)))) pss_nil)
    (pss_cons (ps_if (pt_cmpR (show OpR _ _ (rIn K false) from op_in_seq) (pv 0) (pe_tup (pa_cons pe_str (pa_cons pe_str pa_nil))) (by rfl)) (pss_one (ps_ret (pe_J JS hr (by decide) (by rfl) pass0 (pv 1)))) pss_nil)
    (pss_cons (ps_if (pt_cmpR op_eq (pv 0) pe_str (nomark _)) (pss_one (ps_ret (pe_J JR hr (by decide) (by rfl) pass0 (pv 1)))) pss_nil)
    (pss_cons (ps_if (pt_cmpR op_eq (pv 0) pe_str (nomark _)) (pss_one (ps_ret (pe_J JI hr (by decide) (by rfl) pass0 (pv 1)))) pss_nil)
    (pss_cons (ps_if (pt_cmpR op_eq (pv 0) pe_str (nomark _)) (pss_one (ps_ret (pe_J JP hr (by decide) (by rfl) pass0 (pv 1)))) pss_nil)
    (pss_cons (ps_if (pt_cmpR op_eq (pv 0) pe_str (nomark _)) (pss_one (ps_ret (pe_J JM hr (by decide) (by rfl) pass0 (pv 1)))) pss_nil)
    (pss_cons (ps_if (pt_cmpR op_eq (pv 0) pe_str (nomark _)) (pss_one (ps_ret (pe_Jw JA hr (by decide) (by rfl) pass0 (pv 1)))) pss_nil)
    (pss_cons (ps_if (pt_cmpR op_eq (pv 0) pe_str (nomark _)) (pss_one (ps_ret (pe_J JV hr (by decide) (by rfl) pass0 (pv 1)))) pss_nil)
    (pss_cons (ps_if (pt_cmpR op_eq (pv 0) pe_str (nomark _)) (pss_one (ps_ret (pe_and (pe_J JC hr (by decide) (by rfl) pass0 (pv 1)) (pe_one (pe_chain op_le op_le pe_int (pv 1) (pe_gi' (by rfl) N)))))) pss_nil)
    (pss_one (ps_ret (pe_call GL hr (by rfl) DL.g DL.F.kp DL.b .nil pass0 (pa_cons (pv 0) (pa_cons (pv 1) pa_nil))))))))))))))), ?_⟩
  unfold gPart at k
  refine q_when (b := inV (.str z) [.str "epoch", .str "talk", .str "size"]) (et_test (ev_opU (ev_var rfl) (eu_tup (ea_cons ev_c (ea_cons ev_c (ea_cons ev_c (ea_nil)))) (by show (3 : Nat) ≤ 100000; decide)) fun q H1 hq e1 => rv_inT (neg := false) (st_of hq) rfl rfl)) (fun q H20 e9 => ?_) (fun q0 H1 e1 => ?_)
  · rw [if_pos q] at k
    have e10 := ((Ex.refl H)).trans e9
    exact s_ret (ev_J (ev_var rfl) (ex_at e10 hat) fi) fun H21 e11 => k H21 (e10.trans e11)
  rw [if_neg (by rw [q0]; decide)] at k
  have E1 := ((Ex.refl H)).trans e1
  refine q_when (b := eqZ z "name") (et_test (ev_op (ev_var rfl) ev_c (rv_eq rfl))) (fun q H20 e9 => ?_) (fun q1 H2 e2 => ?_)
  · rw [if_pos q] at k
    have e10 := (E1).trans e9
    exact s_ret (ev_J (ev_var rfl) (ex_at e10 hat) fi) fun H21 e11 => k H21 (e10.trans e11)
  rw [if_neg (by rw [q1]; decide)] at k
  have E2 := (E1).trans e2
  refine q_when (b := eqZ z "hand") (et_test (ev_op (ev_var rfl) ev_c (rv_eq rfl))) (fun q H20 e9 => ?_) (fun q2 H3 e3 => ?_)
  · rw [if_pos q] at k
    have e10 := (E2).trans e9
    exact s_ret (ev_J (ev_var rfl) (ex_at e10 hat) fi) fun H21 e11 => k H21 (e10.trans e11)
  rw [if_neg (by rw [q2]; decide)] at k
  have E3 := (E2).trans e3
  refine q_when (b := inV (.str z) [.str "stamp", .str "ballot"]) (et_test (ev_opU (ev_var rfl) (eu_tup (ea_cons ev_c (ea_cons ev_c (ea_nil))) (by show (2 : Nat) ≤ 100000; decide)) fun q H1 hq e1 => rv_inT (neg := false) (st_of hq) rfl rfl)) (fun q H20 e9 => ?_) (fun q3 H4 e4 => ?_)
  · rw [if_pos q] at k
    have e10 := (E3).trans e9
    exact s_ret (ev_J (ev_var rfl) (ex_at e10 hat) fi) fun H21 e11 => k H21 (e10.trans e11)
  rw [if_neg (by rw [q3]; decide)] at k
  have E4 := (E3).trans e4
  refine q_when (b := eqZ z "row") (et_test (ev_op (ev_var rfl) ev_c (rv_eq rfl))) (fun q H20 e9 => ?_) (fun q4 H5 e5 => ?_)
  · rw [if_pos q] at k
    have e10 := (E4).trans e9
    exact s_ret (ev_J (ev_var rfl) (ex_at e10 hat) fi) fun H21 e11 => k H21 (e10.trans e11)
  rw [if_neg (by rw [q4]; decide)] at k
  have E5 := (E4).trans e5
  refine q_when (b := eqZ z "id") (et_test (ev_op (ev_var rfl) ev_c (rv_eq rfl))) (fun q H20 e9 => ?_) (fun q5 H6 e6 => ?_)
  · rw [if_pos q] at k
    have e10 := (E5).trans e9
    exact s_ret (ev_J (ev_var rfl) (ex_at e10 hat) fi) fun H21 e11 => k H21 (e10.trans e11)
  rw [if_neg (by rw [q5]; decide)] at k
  have E6 := (E5).trans e6
  refine q_when (b := eqZ z "piece") (et_test (ev_op (ev_var rfl) ev_c (rv_eq rfl))) (fun q H20 e9 => ?_) (fun q6 H7 e7 => ?_)
  · rw [if_pos q] at k
    have e10 := (E6).trans e9
    exact s_ret (ev_J (ev_var rfl) (ex_at e10 hat) fi) fun H21 e11 => k H21 (e10.trans e11)
  rw [if_neg (by rw [q6]; decide)] at k
  have E7 := (E6).trans e7
  refine q_when (b := eqZ z "members") (et_test (ev_op (ev_var rfl) ev_c (rv_eq rfl))) (fun q H20 e9 => ?_) (fun q7 H8 e8 => ?_)
  · rw [if_pos q] at k
    have e10 := (E7).trans e9
    exact s_ret (ev_J (ev_var rfl) (ex_at e10 hat) fi) fun H21 e11 => k H21 (e10.trans e11)
  rw [if_neg (by rw [q7]; decide)] at k
  have E8 := (E7).trans e8
  refine q_when (b := eqZ z "ahead") (et_test (ev_op (ev_var rfl) ev_c (rv_eq rfl))) (fun q H20 e9 => ?_) (fun q8 H9 e9 => ?_)
  · rw [if_pos q] at k
    have e10 := (E8).trans e9
    exact s_ret (ev_Jw (ev_var rfl) (ex_at e10 hat) fi trivial (hw.imp fun o z => e10 _ _ z)) fun H21 e11 => k H21 (e10.trans e11)
  rw [if_neg (by rw [q8]; decide)] at k
  have E9 := (E8).trans e9
  refine q_when (b := eqZ z "voted") (et_test (ev_op (ev_var rfl) ev_c (rv_eq rfl))) (fun q H20 e9 => ?_) (fun q9 H10 e10 => ?_)
  · rw [if_pos q] at k
    have e10 := (E9).trans e9
    exact s_ret (ev_J (ev_var rfl) (ex_at e10 hat) fi) fun H21 e11 => k H21 (e10.trans e11)
  rw [if_neg (by rw [q9]; decide)] at k
  have E10 := (E9).trans e10
  refine q_when (b := eqZ z "many") (et_test (ev_op (ev_var rfl) ev_c (rv_eq rfl))) (fun q H20 e9 => ?_) (fun q10 H11 e11 => ?_)
  · rw [if_pos q] at k
    have e10 := E10.trans e9
    refine s_ret (ev_andV (b := gMany u) (ev_J (ev_var rfl) (ex_at e10 hat) fi) fun q2 => ?_) fun H21 e11 => ?_
    · cases u with
      | int i =>
        cases at_int (ex_at e10 hat)
        exact ev_chain ev_c (ev_var rfl) ev_c rv_I0 fun _ => rv_I0
      | _ => cases q2
    · have e3 : (gCnt u && gMany u) = gMany u := by
        cases u with
        | int i =>
          show (decide (0 ≤ i) && (decide (1 ≤ i) && decide (i ≤ 64))) = (decide (1 ≤ i) && decide (i ≤ 64))
          by_cases h : 1 ≤ i
          · rw [decide_eq_true h, decide_eq_true (show 0 ≤ i by omega)]
            rfl
          · rw [decide_eq_false h, Bool.false_and, Bool.and_false]
        | _ => rfl
      rw [e3]
      exact k H21 (e10.trans e11)
  rw [if_neg (by rw [q10]; decide)] at k
  have E11 := E10.trans e11
  exact s_ret (ev_call (ea_cons (ev_var rfl) (ea_cons (ev_var rfl) ea_nil)) fun G eg Q q E => ⟨z, v, u, w, rfl, ex_at (E11.trans eg) hat, fi, hs, hw.imp fun o z => (E11.trans eg) _ _ z, q⟩) fun H21 e12 => k H21 (E11.trans e12)
end
end Hs
/-! parts by their kinds -/
namespace Hs
open PySem PySem.Spec PyProof.Rows L2 Hu Evl
theorem boot_zip' : bootBuiltins "zip" = some (.type "zip") := by decide +kernel
theorem walk_zipT {K : PySem.W.Frag} {a b : Addr} {xs ys : List V} (hl : xs.length = ys.length) : Walk (RZ.ItzT K a b) xs.length (fun H => SqT K H a xs ∧ SqT K H b ys) (fun i H v H' => ∃ T x y, v = .ref T ∧ H T = none ∧ H' = upd H T (.tup [x, y]) ∧ xs[i]? = some x ∧ ys[i]? = some y) :=
  ⟨fun i H hi q => ⟨xs, ys, xs[i], ys[i]'(by omega), q.1, q.2, List.getElem?_eq_getElem hi, List.getElem?_eq_getElem (by omega)⟩, fun H q => ⟨xs, ys, q.1, q.2, .inl (Nat.le_refl _)⟩, fun i H v H' hi q ⟨T, x, y, e1, e2, e3, e4, e5⟩ => ⟨T, x, y, e1, e2, e3, e4 _ q.1, e5 _ q.2⟩⟩
def TupK (K : PySem.W.Frag) (a : Addr) (zs : List Str) : Prop := ∀ H, SqT K H a (zs.map V.str)
section
variable {P : Program} {wd : World} {K : PySem.W.Frag} {mg : Str → Option Value} {base : Heap} {C : Addr}
theorem ev_allZipG {σ : L2.St} {H : Hp} {ta tb te : TE} {a b : Addr} {xs ys : List V} {i j : Nat} {vs : List Nat} {g : Nat → Bool} (ha : Ev ta σ H (.ref a)) (hb : Ev tb σ H (.ref b)) (hx : ∀ G, Ex H G → SqT K G a xs) (hy : ∀ G, Ex H G → SqT K G b ys) (hl : xs.length = ys.length) (hz : xs.length ≤ 40000)
    (hw : ∀ x y, wipe (((wipe σ vs).set i (some x)).set j (some y)) vs = wipe σ vs) (he : ∀ (n : Nat) (x y : V), xs[n]? = some x → ys[n]? = some y → Ev te (((wipe σ vs).set i (some x)).set j (some y)) H (.bl (g n))) :
    Ev (tCB (rAll K) (tCons (tLc (RZ.iZipA K (tCons ta (tCons tb tNil))) (gTup K 2 (gCons (gName i) (gCons (gName j) gNil))) tYes te vs) tNil)) σ H (.bl ((List.range xs.length).all g)) := by
  have main : EvL (tLc (RZ.iZipA K (tCons ta (tCons tb tNil))) (gTup K 2 (gCons (gName i) (gCons (gName j) gNil))) tYes te vs) σ H ((List.range xs.length).map fun n => V.bl (g n)) := fun H0 e Q q =>
    ha H0 e _ fun Ha ea => hb Ha (e.trans ea) _ fun H1 eb => by
      have e1 := ea.trans eb
      have E1 := e.trans e1
      refine ⟨a, b, xs, ys, rfl, .inr ⟨hx _ E1, hy _ E1, fun Dl hD => ?_⟩⟩
      refine lc_it (walk_zipT hl) (fun k H' => Ex H1 H' ∧ H' Dl = some (.lst ((List.range k).map fun n => V.bl (g n)))) ⟨Ex.new hD, upd_same⟩ (fun k H' _ p => ⟨hx _ (E1.trans p.1), hy _ (E1.trans p.1)⟩) ?_ ?_
      · rintro k x H2 H2' hk ⟨p1, p2⟩ ⟨T, x1, y1, rfl, hT, rfl, hx1, hy1⟩
        have eT : Ex H2 (upd H2 T (.tup [x1, y1])) := Ex.new hT
        refine ⟨T, _, rfl, st_of upd_same, rfl, x1, _, rfl, y1, _, rfl, rfl, hw _ _, ?_⟩
        refine et_yes _ (Ex.refl _) _ fun H3 e3 => ?_
        rw [if_pos rfl]
        refine he k x1 y1 hx1 hy1 _ ((E1.trans p1).trans (eT.trans e3)) _ fun H4 e4 => ⟨_, e4 _ _ (e3 _ _ (eT _ _ p2)), ?_, Ex.mut (((p1.trans eT).trans e3).trans e4) hD, ?_⟩
        · rw [List.length_map, List.length_range]
          exact sz_lt (by omega)
        · rw [upd_same, List.range_succ, List.map_append]
          rfl
      · rintro H' ⟨p1, p2⟩
        exact q Dl H' (fresh_back e1 hD) (e1.trans p1) p2
  refine ev_cb1 main fun p H2 h2 e2 Q q => ⟨p, (List.range xs.length).map g, rfl, sq_of ?_, ?_⟩
  · rw [h2, List.map_map]
    rfl
  · have : ((List.range xs.length).map g).all id = (List.range xs.length).all g := by
      rw [List.all_map]
      rfl
    rw [this]
    exact q H2 (Ex.refl H2)
def partsAll (zs : List Str) (us : List U) : Bool := (List.range zs.length).all fun n => gPart (zs.getD n ⟨#[]⟩) (us.getD n .non)
def gParts (zs : List Str) (us : List U) : Bool := decide (us.length = zs.length) && partsAll zs us
def spPks (K : PySem.W.Frag) (C : Addr) : Sp := fun vs H Q _ => ∃ (p : Addr) (zs : List Str) (v : V) (us : List U) (w : Addr), vs = [.ref p, v] ∧ TupK K p zs ∧ At w C H v (.tup us) ∧ Fine (.tup us) ∧ Sm (.tup us) ∧ zs.length ≤ 1000 ∧ (∃ o, H w = some o) ∧ ∀ H', Same H H' → Q (.bl (gParts zs us)) H'
theorem scPartsK : FnScope ["kinds", "things", "kind", "thing"] ["kinds", "things"] (defScope sPartsK) := ⟨rfl, rfl, rfl, by decide +kernel, rfl, by decide +kernel, by decide +kernel⟩
theorem Sm.memK {us : List U} {u : U} (h : Sm (.tup us)) (hu : u ∈ us) : Sm u := by
  have h1 := wt_mem hu
  have h2 : wt (.tup us) ≤ 160000 := h
  simp only [wt] at h2
  show wt u ≤ 160000
  omega
theorem ok_partsK {f f1 : Addr} {fd d1 : FuncData} (D : Df K mg "are_parts" sPartsK ["kinds", "things"] f fd) (B : Bt mg) (hZ : mg "zip" = none) (D1 : Df K mg "is_part" sPartK ["kind", "thing"] f1 d1) (G : FnOk P wd K mg base CX0 8 f1 d1 ["kind", "thing"] (spPk C gPart)) : FnOk P wd K mg base CX0 9 f fd ["kinds", "things"] (spPks K C) := by
  refine D.F.ok scPartsK (fun vs H Q E h => ?_) (fun cdv A outer s H vs Q E hr h => ?_)
  · obtain ⟨p, zs, v, us, w, rfl, _⟩ := h
    rfl
  obtain ⟨p, zs, v, us, w, rfl, hp, hat, fi, hs, hz, hw, k⟩ := h
  refine ⟨_, pss_cons (ps_if (pt_cmpR op_ne (pe_callB call_len_seq (by rfl) B.len PySem.boot_len (pa_cons (pv 1) pa_nil)) (pe_callB call_len_seq (by rfl) B.len PySem.boot_len (pa_cons (pv 0) pa_nil)) (nomark _)) (pss_one (ps_ret pe_bl)) pss_nil)
    (pss_one (ps_ret (pe_callB (cr_all rfl) (by rfl) B.all boot_all' (pa_cons (pe_lc (own := [("kind", 2), ("thing", 3)]) (g := gTup K 2 (gCons (gName 2) (gCons (gName 3) gNil))) (tt := tYes) rfl scPartsK.nd (RZ.pi_zipA (by rfl) hZ (pa_cons (pv 0) (pa_cons (pv 1) pa_nil))) (blkOk_by (N := ["kinds", "things", "kind", "thing"]) (sc := defScope sPartsK) (by decide +kernel))
      (fun _ _ _ _ _ => pg_tup rfl (pgs_cons (pg_name (i := 2) scPartsK.nd rfl (Or.inl rfl)) (pgs_cons (pg_name (i := 3) scPartsK.nd rfl (Or.inl rfl)) pgs_nil))) (fun _ _ _ _ _ => pts_nil) (fun _ _ _ _ _ => pe_call G hr (by rfl) D1.g D1.F.kp D1.b .nil pass0 (pa_cons (pv 2) (pa_cons (pv 3) pa_nil)))) pa_nil)))), ?_⟩
  obtain ⟨a, xs, rfl, ha, _, hlx⟩ := at_tup hat
  have lx := AtL.length hlx
  have lenP : Ev (tCB (rLenQ K) (tCons (tVar 0) tNil)) [some (.ref p), some (.ref a), none, none] H (.int ((zs.map V.str).length : Int)) := ev_cb (ea_cons (ev_var rfl) ea_nil) fun H1 e Q q => ⟨p, _, rfl, .inr (hp H1), q H1 (Ex.refl H1)⟩
  refine q_when (b := !decide (us.length = zs.length)) (et_test (ev_is (ev_op (ev_lenTU (K := K) (ev_var rfl) ha hlx) lenP (rv_ne rfl)) ?_)) (fun q H1 e => ?_) (fun q H1 e => ?_)
  · rw [List.length_map, dec_eq]
  · refine s_ret ev_c fun H2 e2 => ?_
    have e3 : gParts zs us = false := by
      unfold gParts
      rw [Bool.not_eq_true'] at q
      rw [q]
      rfl
    rw [← e3]
    exact k H2 (e.trans e2)
  · rw [Bool.not_eq_false'] at q
    have hl := of_decide_eq_true q
    have e3 : gParts zs us = (List.range (zs.map V.str).length).all fun n => gPart (zs.getD n ⟨#[]⟩) (us.getD n .non) := by
      unfold gParts partsAll
      rw [q, List.length_map, Bool.true_and]
    rw [e3] at k
    refine s_ret (ev_allZipG (xs := zs.map V.str) (ys := xs) (ev_var rfl) (ev_var rfl) (fun G _ => hp G) (fun G eg => st_of (eg _ _ (e _ _ ha))) (by rw [List.length_map, lx, hl]) (by rw [List.length_map]; omega) (fun _ _ => rfl) fun n x y hx hy => ?_) fun H2 e2 => k H2 (e.trans e2)
    rw [List.getElem?_map] at hx
    cases hz1 : zs[n]? with
    | none => rw [hz1] at hx; cases hx
    | some z =>
      rw [hz1] at hx
      cases hx
      have hn : n < us.length := by
        have := (List.getElem?_eq_some_iff.mp hz1).1
        omega
      obtain ⟨y', hy', ay⟩ := AtL.get hlx (List.getElem?_eq_getElem hn)
      rw [hy] at hy'
      cases hy'
      have g1 : zs.getD n ⟨#[]⟩ = z := getD_some hz1
      have g2 : us.getD n .non = us[n] := getD_some (List.getElem?_eq_getElem hn)
      rw [g1, g2]
      have hm := List.getElem_mem hn
      exact ev_call (ea_cons (ev_var rfl) (ea_cons (ev_var rfl) ea_nil)) fun G eg Q q E => ⟨z, y, us[n], w, rfl, ex_at (e.trans eg) ay, fi.tup _ hm, hs.memK hm, hw.imp fun o z => (e.trans eg) _ _ z, q⟩
end
end Hs
/-! any value == a string -/
namespace PySem.SeqAt
open PySem PySem.Spec PyProof.Rows
theorem dict_eq_declines_str (l : Addr) (es : Array DictEntry) (n : Nat) (dd : Option Addr) (sl : Array (Option Value)) (b : Str) (u : Tok) :
    Meets (Builtin.«dict.__eq__» ⟨[.ref l, .str b u], []⟩) (fun _ R s => s.heap.get? l = some { cls := .type "dict", dict := dd, data := .dict es n, slots := sl } ∧ R (.ok (.ret .notImplemented)) s) :=
  .of_wp fun prog w A R s h => by obtain ⟨hp, g, d, tk, os⟩ := s; obtain ⟨hl, h⟩ := h; have f1 := F.sub_str_dict; wp_walk using wpAny_loadPart' hl; exact ⟨_, rfl, h⟩
theorem str_eq_declines_dict (b : Str) (u : Tok) (l : Addr) (es : Array DictEntry) (n : Nat) (dd : Option Addr) (sl : Array (Option Value)) :
    Meets (Builtin.«str.__eq__» ⟨[.str b u, .ref l], []⟩) (fun _ R s => s.heap.get? l = some { cls := .type "dict", dict := dd, data := .dict es n, slots := sl } ∧ R (.ok (.ret .notImplemented)) s) :=
  .of_wp fun prog w A R s h => by obtain ⟨hp, g, d, tk, os⟩ := s; obtain ⟨hl, h⟩ := h; wp_walk using wpAny_loadPart' hl, wpAny_load hl; exact ⟨_, rfl, h⟩
section
variable {A : Around} {s : Shared}
theorem RcAt.dict_str {l : Addr} {es : Array DictEntry} {n : Nat} {dd : Option Addr} {sl : Array (Option Value)} (b : Str) (u : Tok) (ho : s.heap.get? l = some { cls := .type "dict", dict := dd, data := .dict es n, slots := sl }) (hu : A.units < cLine) : RcAt A s (.ref l) (.str b u) false := fun prog w E Q h =>
  rc_eq_decline_or (k := false) ⟨_, ho, rfl⟩ (typeIs_str s b u) (by decide) F.sub_str_dict F.slot_dict_eq F.slot_str_eq_refl
    (fun _ hq => call_meets F.slot_dict_eq ⟨_, ho, rfl⟩ F.entry_dict_eq (F.args_dict_eq_2 _ _) (dict_eq_declines_str l es n dd sl b u) ⟨ho, hq⟩)
    (fun _ hq => call_meets F.slot_str_eq_refl (typeIs_str s b u) F.entry_str_eq (F.args_str_eq_2 _ _) (str_eq_declines_dict b u l es n dd sl) ⟨ho, hq⟩)
    (fun _ hq => wpAny_of_eq (rfl : isSame (.ref l) (.str b u) = pure false) hq) (.inr hu) h
end
end PySem.SeqAt
namespace HX
open PySem PySem.Spec PyProof.Rows PySem.SeqAt
section
variable {A : Around} {s : Shared} {K : PySem.W.Frag} {x C : Addr} {ox : Obj} {od : Option Obj}
theorem rcAt_str {vs : Array Value} (b : Str) (u : Tok) (hu : A.units < cLine) (X : K.In s.heap) (I : PySem.W.InstAt s.heap x ox C od) (hm : PySem.W.mroIn K C (.type "object") = some true) (hs : PySem.W.findIn K (.ref C) "__eq__" = some (some (.builtin "object.__eq__"))) (hd : ox.data = .fields vs) :
    RcAt A s (.ref x) (.str b u) false := by
  obtain ⟨cls, dd, data, sl⟩ := ox
  simp only at hd
  subst hd
  have ho := I.at_
  exact rc_other (T := "str") hu X I hm hs (typeIs_str s b u) (fun M A' E' Q' q => wpAny_of_eq (rfl : isSame (.ref x) (.str b u) = pure false) q) (sub_of (by decide +kernel)) fun prog w E => by
    refine wpAny_tryCompare_declines (typeIs_str s b u) F.slot_str_eq_refl (wpAny_call_entry F.slot_str_eq_refl (typeIs_str s b u) F.entry_str_eq ?_ (F.args_str_eq_2 _ _))
    obtain ⟨hp, g, d, tk, os⟩ := s
    unfold Builtin.«str.__eq__»
    wp_walk using wpAny_loadPart' ho, wpAny_load ho
    exact ⟨_, rfl, rfl, rfl, rfl⟩
end
end HX
namespace Hs
open PySem PySem.Spec PyProof.Rows L2 Hu Evl
/-- compared with a string -/
inductive Ns (K : PySem.W.Frag) (H : Hp) (y : Str) : V → Bool → Prop
  | non : Ns K H y .non false
  | bl (b : Bool) : Ns K H y (.bl b) false
  | int (j : Int) : Ns K H y (.int j) false
  | str (z : Str) : Ns K H y (.str z) (z == y)
  | tup {a : Addr} {xs : List V} : SqT K H a xs → Ns K H y (.ref a) false
  | lst {a : Addr} {xs : List V} : SqL K H a xs → Ns K H y (.ref a) false
  | dct {a : Addr} {kvs : List (L2.Key × V)} : H a = some (.dK kvs) → Ns K H y (.ref a) false
  | exc {a t C : Addr} : Eqx K C → H a = some (ExN C t a) → Ns K H y (.ref a) false
def rEqS (K : PySem.W.Frag) : R2 := fun x y H Q => ∃ z e, y = .str z ∧ Ns K H z x e ∧ Q (.bl e) H
section
variable {X : Cx}
theorem op_eqS (hu : X.A.units + 64 < cLine) : OpR X (compareOp .Eq) (rEqS X.K) := by
  intro pins s σ H x y v u Q I rx ry h
  obtain ⟨i, e, rfl, n, q⟩ := h
  obtain ⟨ty, rfl⟩ := ry
  have hu2 : X.A.units < cLine := by omega
  have done : EP X pins σ Q (.bool e) s := ⟨.bl e, H, I, rfl, q⟩
  cases n with
  | non =>
    cases rx
    exact SeqAt.RcAt.none_str i ty X.prog X.w X.xe _ done
  | bl b =>
    cases rx
    exact SeqAt.RcAt.bool_str b i ty X.prog X.w X.xe _ done
  | int j =>
    obtain ⟨t, rfl⟩ := rx
    exact SeqAt.RcAt.int_str j t i ty X.prog X.w X.xe _ done
  | str z =>
    obtain ⟨t, rfl⟩ := rx
    exact SeqAt.RcAt.str_str z t i ty X.prog X.w X.xe _ done
  | @tup a xs h =>
    cases rx
    obtain ⟨its, r1, p1, _⟩ := I.tuple h
    exact SeqAt.RcAt.tuple_str i ty p1 hu2 X.prog X.w X.xe _ done
  | @lst a xs h =>
    cases rx
    obtain ⟨its, r1, p1, _⟩ := I.list h
    exact SeqAt.RcAt.list_str i ty p1.isList hu2 X.prog X.w X.xe _ done
  | @dct a kvs h =>
    cases rx
    obtain ⟨dd, es, ep, sl, g⟩ := dict_dk I.hok h
    exact SeqAt.RcAt.dict_str i ty g hu2 X.prog X.w X.xe _ done
  | @exc a t C q' h =>
    cases rx
    obtain ⟨o, vs, i', hd⟩ := inst_exn I.hok h
    exact HX.rcAt_str i ty hu2 I.kIn i' q'.m q'.e hd X.prog X.w X.xe _ done
end
/-- a string by == -/
def isZ (y : Str) (u : U) : Bool := match u with | .str z => z == y | _ => false
theorem ns_at {K : PySem.W.Frag} {w C : Addr} {H : Hp} {v : V} {u : U} (y : Str) (hx : Eqx K C) (h : At w C H v u) : Ns K H y v (isZ y u) := by
  cases h with
  | non => exact .non
  | bl b => exact .bl b
  | int i => exact .int i
  | str z => exact .str z
  | tup ha _ hl => exact .tup (st_of ha)
  | lst ha _ hl => exact .lst (sq_of ha)
  | dct ha _ _ _ _ => exact .dct ha
  | exc ha _ _ _ => exact .exc hx ha
theorem Ns.ex {K : PySem.W.Frag} {H H' : Hp} {y : Str} {v : V} {e : Bool} (x : Ex H H') (h : Ns K H y v e) : Ns K H' y v e := by
  cases h with
  | non => exact .non
  | bl b => exact .bl b
  | int i => exact .int i
  | str z => exact .str z
  | tup h => exact .tup (ex_t x h)
  | lst h => exact .lst (ex_l x h)
  | dct h => exact .dct (x _ _ h)
  | exc q h => exact .exc q (x _ _ h)
theorem rv_eqS {K : PySem.W.Frag} {H : Hp} {y : Str} {v : V} {e : Bool} (h : Ns K H y v e) : RV (rEqS K) v (.str y) H (.bl e) := fun H1 x Q q => ⟨y, e, rfl, h.ex x, q H1 (Ex.refl H1)⟩
end Hs
/-! machines -/
namespace Hs
open PySem PySem.Spec PyProof.Rows L2 Hu Evl
section
variable {P : Program} {wd : World} {K : PySem.W.Frag} {mg : Str → Option Value} {base : Heap} {C : Addr}
def gMach (u : U) : Bool := gPair u && ((isZ "home" (nth u 0) && gHome (nth u 1)) || (isZ "hand" (nth u 0) && gHand (nth u 1)))
theorem scMach : FnScope ["thing"] ["thing"] (defScope sMachine) := ⟨rfl, rfl, rfl, by decide +kernel, rfl, by decide +kernel, by decide +kernel⟩
theorem jd_machine {f f1 f2 f3 : Addr} {fd d1 d2 d3 : FuncData} (D : Df K mg "is_machine" sMachine ["thing"] f fd) (S : Bs K mg C) (JP : Jd P wd K mg base C 1 "is_pair" "thing" f1 d1 gPair) (JH : Jd P wd K mg base C 2 "is_home" "thing" f2 d2 gHome) (JN : Jd P wd K mg base C 2 "is_hand" "thing" f3 d3 gHand) :
    Jd P wd K mg base C 3 "is_machine" "thing" f fd gMach := by
  refine ⟨D.F.ok scMach lenJ (fun cdv A outer s H vs Q E hr h => ?_), D.g, D.F.kp, D.b⟩
  obtain ⟨v, u, w, rfl, hat, fi, k⟩ := h
  refine ⟨_, pss_cons (ps_if (pt_not (pt_val (pe_J JP hr (by decide) (by rfl) pass0 (pv 0)))) (pss_one (ps_ret pe_bl)) pss_nil)
    (pss_one (ps_ret (pe_or (pe_and (pe_cmpR (show OpR _ _ (rEqS K) from op_eqS (room_hu hr)) (pe_ix ix_tup (pv 0) pe_int (fun _ _ => rfl)) pe_str (nomark _)) (pe_one (pe_J JH hr (by decide) (by rfl) pass0 (pe_ix ix_tup (pv 0) pe_int (fun _ _ => rfl)))))
      (pe_one (pe_and (pe_cmpR (show OpR _ _ (rEqS K) from op_eqS (room_hu hr)) (pe_ix ix_tup (pv 0) pe_int (fun _ _ => rfl)) pe_str (nomark _)) (pe_one (pe_J JN hr (by decide) (by rfl) pass0 (pe_ix ix_tup (pv 0) pe_int (fun _ _ => rfl))))))))), ?_⟩
  refine q_when (b := !gPair u) (et_not (et_B (ev_J (ev_var rfl) hat fi))) (fun q H1 e => ?_) (fun q H1 e => ?_)
  · refine s_ret ev_c fun H2 e2 => ?_
    have e3 : gMach u = false := by
      unfold gMach
      rw [Bool.not_eq_true'] at q
      rw [q]
      rfl
    rw [← e3]
    exact k H2 (e.trans e2)
  · rw [Bool.not_eq_false'] at q
    obtain ⟨a, b, rfl⟩ := gPair_two q
    obtain ⟨p, x, y, rfl, hp, ha, hb⟩ := pair_at (ex_at e hat)
    have e3 : gMach (.tup [a, b]) = ((isZ "home" a && gHome b) || (isZ "hand" a && gHand b)) := rfl
    rw [e3] at k
    exact s_ret (ev_orV (ev_andV (ev_op (ev_ixT (j := 0) (ev_var rfl) hp rfl) ev_c (rv_eqS (ns_at "home" S.q ha))) fun _ => ev_J (ev_ixT (j := 1) (ev_var rfl) hp rfl) hb fi.snd) fun _ => ev_andV (ev_op (ev_ixT (j := 0) (ev_var rfl) hp rfl) ev_c (rv_eqS (ns_at "hand" S.q ha))) fun _ => ev_J (ev_ixT (j := 1) (ev_var rfl) hp rfl) hb fi.snd) fun H2 e2 => k H2 (e.trans e2)
end
end Hs
/-! the words of letters, looked up in the text's dicts -/
namespace Hs
open PySem PySem.Spec PyProof.Rows L2 Hu Evl
/-- entries of a dict: words with the kinds of their parts -/
inductive Rws (K : PySem.W.Frag) : List DictEntry → List (Str × List Str) → Prop
  | nil : Rws K [] []
  | cons {e : DictEntry} {z : Str} {t : Tok} {p : Addr} {ks : List Str} {es : List DictEntry} {tab : List (Str × List Str)} : e.key = .str z t → e.val = .ref p → TupK K p ks → Rws K es tab → Rws K (e :: es) ((z, ks) :: tab)
def tabOf : List (Str × List Str) → Str → Option (List Str)
  | [], _ => none
  | r :: l, z => if r.1 = z then some r.2 else tabOf l z
theorem Rws.find {K : PySem.W.Frag} {es : List DictEntry} {tab : List (Str × List Str)} (h : Rws K es tab) (z : Str) :
    (∀ ks, tabOf tab z = some ks → ∃ e p, es.find? (·.key.isStr z) = some e ∧ e.val = .ref p ∧ TupK K p ks) ∧ (tabOf tab z = none → es.find? (·.key.isStr z) = none) ∧ es.any (·.refKey) = false := by
  induction h with
  | nil => exact ⟨fun ks e => (by cases e), fun _ => rfl, rfl⟩
  | @cons e y t p ks es tab hk hv hp _ ih =>
    obtain ⟨i1, i2, i3⟩ := ih
    have hr : e.refKey = false := by
      unfold DictEntry.refKey
      rw [hk]
    have hi : e.key.isStr z = decide (y = z) := by
      rw [hk, PySem.W.isStr_of]
      show (y == z) = decide (y = z)
      rw [Bool.eq_iff_iff]
      simp
    refine ⟨fun ls h => ?_, fun h => ?_, by rw [List.any_cons, hr, i3]; rfl⟩
    · have h' : (if y = z then some ks else tabOf tab z) = some ls := h
      by_cases q : y = z
      · rw [if_pos q] at h'
        cases h'
        exact ⟨e, p, List.find?_cons_of_pos (by rw [hi]; exact decide_eq_true q), hv, hp⟩
      · rw [if_neg q] at h'
        obtain ⟨e2, p2, h1, h2, h3⟩ := i1 ls h'
        exact ⟨e2, p2, by rw [List.find?_cons_of_neg (by rw [hi]; simpa using q)]; exact h1, h2, h3⟩
    · have h' : (if y = z then some ks else tabOf tab z) = none := h
      by_cases q : y = z
      · rw [if_pos q] at h'
        cases h'
      · rw [if_neg q] at h'
        rw [List.find?_cons_of_neg (by rw [hi]; simpa using q)]
        exact i2 h'
structure KTab (K : PySem.W.Frag) (w : World) (mg : Str → Option Value) (x : Str) (tab : List (Str × List Str)) (a : Addr) (es : Array DictEntry) (n : Nat) : Prop where
  g : mg x = some (.ref a)
  kd : KDict K w a es n
  r : Rws K es.toList tab
theorem KTab.ns {K : PySem.W.Frag} {w : World} {mg : Str → Option Value} {x : Str} {tab : List (Str × List Str)} {a : Addr} {es : Array DictEntry} {n : Nat} (h : KTab K w mg x tab a es n) (z : Str) :
    (∀ ks, tabOf tab z = some ks → ∃ p, PySem.W.nsIn K a z = some (some (.ref p)) ∧ TupK K p ks) ∧ (tabOf tab z = none → PySem.W.nsIn K a z = some none) := by
  obtain ⟨i1, i2, i3⟩ := h.r.find z
  refine ⟨fun ks q => ?_, fun q => ?_⟩
  · obtain ⟨e, p, h1, h2, h3⟩ := i1 ks q
    refine ⟨p, ?_, h3⟩
    unfold PySem.W.nsIn
    rw [h.kd.at_]
    dsimp only
    rw [h1]
    dsimp only
    rw [h2]
  · unfold PySem.W.nsIn
    rw [h.kd.at_]
    dsimp only
    rw [i2 q]
    dsimp only
    rw [i3]
    rfl
end Hs
/-! letters -/
namespace Hs
open PySem PySem.Spec PyProof.Rows L2 Hu Evl
section
variable {P : Program} {wd : World} {K : PySem.W.Frag} {mg : Str → Option Value} {base : Heap} {C : Addr}
theorem shpSI {z : Str} (i : Int) (hz : PyData.strOk z = true) : SeqAt.shaped (.tuple [.str z, .int i]) = true := by
  show ((PyData.tuple [.str z, .int i]).canLay0 && decide ((PyData.tuple [.str z, .int i]).depth ≤ 64)) = true
  simp [PyData.canLay0, PyData.canLayAll0, PyData.depth, PyData.depthAll, hz]
theorem eqvSI (z y : Str) (i j : Int) : PyData.eqv (.tuple [.str z, .int i]) (.tuple [.str y, .int j]) = (decide (z = y) && decide (i = j)) := by
  simp only [PyData.eqv, PyData.eqvAll, Bool.and_true]
  congr 1
theorem dpSI {H : Hp} {p : Addr} {z : Str} {i : Int} (h : H p = some (.tup [.str z, .int i])) : Dp K H (.ref p) (.tuple [.str z, .int i]) := .tup (st_of h) (.cons (.str z) (.cons (.int i) .nil))
theorem rv_neM {H : Hp} {p q : Addr} {a b : Str} {i j : Int} (ha : PyData.strOk a = true) (hb : PyData.strOk b = true) (hp : H p = some (.tup [.str a, .int i])) (hq : H q = some (.tup [.str b, .int j])) : RV (rNeD K) (.ref p) (.ref q) H (.bl (!(decide (a = b) && decide (i = j)))) := fun H1 e Q f =>
  ⟨_, _, dpSI (e _ _ hp), dpSI (e _ _ hq), shpSI _ ha, shpSI _ hb, by rw [eqvSI]; exact f H1 (Ex.refl H1)⟩
theorem gMach_is {u : U} (h : gMach u = true) : ∃ a i, u = .tup [.str a, .int i] ∧ (a = "home" ∨ a = "hand") := by
  obtain ⟨h1, h2⟩ := and2 (a := gPair u) h
  obtain ⟨a, b, rfl⟩ := gPair_two h1
  have h2' : ((isZ "home" a && gHome b) || (isZ "hand" a && gHand b)) = true := h2
  have key : ∀ (y : Str) (p : U → Bool), (∀ u, p u = true → ∃ i, u = .int i) → (isZ y a && p b) = true → ∃ i, (.tup [a, b] : U) = .tup [.str y, .int i] := fun y p hp hh => by
    obtain ⟨q1, q2⟩ := and2 hh
    obtain ⟨i, rfl⟩ := hp b q2
    cases a with
    | str z =>
      have : z = y := by simpa [isZ] using q1
      exact ⟨i, by rw [this]⟩
    | _ => cases q1
  have hi : ∀ u, gHome u = true → ∃ i, u = .int i := fun u hu => by
    cases u with
    | int i => exact ⟨i, rfl⟩
    | _ => cases hu
  rw [Bool.or_eq_true] at h2'
  rcases h2' with h3 | h3
  · obtain ⟨i, e⟩ := key "home" gHome hi h3
    exact ⟨_, i, e, .inl rfl⟩
  · obtain ⟨i, e⟩ := key "hand" gHand (fun u hu => gHand_int hu) h3
    exact ⟨_, i, e, .inr rfl⟩
theorem mach_ok {a : Str} (h : a = "home" ∨ a = "hand") : PyData.strOk a = true := by
  rcases h with rfl | rfl <;> decide +kernel
def lookT (tab : List (Str × List Str)) (z : Str) (us : List U) : Bool := match tabOf tab z with | some ks => gParts ks us | none => false
def eqM (u v : U) : Bool := match u, v with | .tup [.str a, .int i], .tup [.str b, .int j] => decide (a = b) && decide (i = j) | _, _ => false
def gTold (th to_ ta : List (Str × List Str)) (u v : U) (z : Str) (us : List U) : Bool := if isZ "hand" (nth u 0) = true then isZ "home" (nth v 0) && lookT th z us else if isZ "hand" (nth v 0) = true then lookT to_ z us else !eqM u v && lookT ta z us
def spTold (C : Addr) (th to_ ta : List (Str × List Str)) : Sp := fun vs H Q _ => ∃ (x y r : V) (u v : U) (z : Str) (us : List U) (w : Addr), vs = [x, y, .str z, r] ∧ At w C H x u ∧ At w C H y v ∧ gMach u = true ∧ gMach v = true ∧ At w C H r (.tup us) ∧ Fine (.tup us) ∧ Sm (.tup us) ∧ (∃ o, H w = some o) ∧ ∀ H', Same H H' → Q (.bl (gTold th to_ ta u v z us)) H'
theorem scTold : FnScope ["to", "by", "word", "rest"] ["to", "by", "word", "rest"] (defScope sTold) := ⟨rfl, rfl, rfl, by decide +kernel, rfl, by decide +kernel, by decide +kernel⟩
/-- word in TAB and are_parts(TAB[word], rest) -/
theorem ev_look {σ : L2.St} {H : Hp} {E : XK} {x : Str} {tab : List (Str × List Str)} {a : Addr} {es : Array DictEntry} {n : Nat} (T : KTab K wd mg x tab a es n) (hz : ∀ r ∈ tab, r.2.length ≤ 1000) {z : Str} {r : V} {us : List U} {w : Addr} (h2 : σ[2]? = some (some (.str z))) (h3 : σ[3]? = some (some r)) (hr : At w C H r (.tup us)) (fi : Fine (.tup us)) (hs : Sm (.tup us)) (hw : ∃ o, H w = some o) {tin : TE}
    (hin : ∀ (r0 : Option Value) (G : Hp), PySem.W.nsIn K a z = some r0 → Ev tin σ G (.bl r0.isSome)) {tb : TE} (hand : ∀ {p q : Bool}, Ev tin σ H (.bl p) → (p = true → Ev (tCall (spPks K C) [] E (tCons (tOp (rIxD K wd) (tC (.ref a)) (tVar 2)) (tCons (tVar 3) tNil))) σ H (.bl q)) → Ev tb σ H (.bl (p && q))) : Ev tb σ H (.bl (lookT tab z us)) := by
  obtain ⟨n1, n2⟩ := T.ns z
  cases q : tabOf tab z with
  | none =>
    have e : lookT tab z us = (false && false) := by unfold lookT; rw [q]; rfl
    rw [e]
    exact hand (hin none H (n2 q)) fun z => by cases z
  | some ks =>
    obtain ⟨p, hp, tk⟩ := n1 ks q
    have e : lookT tab z us = (true && gParts ks us) := by unfold lookT; rw [q, Bool.true_and]
    rw [e]
    have hl : ks.length ≤ 1000 := by
      have : ∀ (l : List (Str × List Str)), (∀ r ∈ l, r.2.length ≤ 1000) → tabOf l z = some ks → ks.length ≤ 1000 := fun l => by
        induction l with
        | nil => intro _ h; cases h
        | cons r l ih =>
          intro hl h
          have h' : (if r.1 = z then some r.2 else tabOf l z) = some ks := h
          by_cases c : r.1 = z
          · rw [if_pos c] at h'
            cases h'
            exact hl r (by simp)
          · rw [if_neg c] at h'
            exact ih (fun x hx => hl x (List.mem_cons_of_mem _ hx)) h'
      exact this tab hz q
    refine hand (hin (some (.ref p)) H hp) fun _ => ?_
    exact ev_call (ea_cons (ev_op ev_c (ev_var h2) fun G e Q f => ⟨a, z, .ref p, rfl, rfl, ⟨es, n, .ref p, T.kd.at_, T.kd.lit, hp, rfl⟩, f G (Ex.refl G)⟩) (ea_cons (ev_var h3) ea_nil)) fun G e Q f E => ⟨p, ks, r, us, w, rfl, tk, ex_at e hr, fi, hs, hl, hw.imp fun o z => e _ _ z, f⟩
theorem ok_told {f f1 : Addr} {fd d1 : FuncData} {th to_ ta : List (Str × List Str)} {a1 a2 a3 : Addr} {es1 es2 es3 : Array DictEntry} {n1 n2 n3 : Nat} (D : Df K mg "_is_told" sTold ["to", "by", "word", "rest"] f fd) (T1 : KTab K wd mg "TO_HANDS" th a1 es1 n1) (T2 : KTab K wd mg "TO_HOMES" to_ a2 es2 n2) (T3 : KTab K wd mg "AMONG_HOMES" ta a3 es3 n3)
    (z1 : ∀ r ∈ th, r.2.length ≤ 1000) (z2 : ∀ r ∈ to_, r.2.length ≤ 1000) (z3 : ∀ r ∈ ta, r.2.length ≤ 1000) (D1 : Df K mg "are_parts" sPartsK ["kinds", "things"] f1 d1) (G : FnOk P wd K mg base CX0 9 f1 d1 ["kinds", "things"] (spPks K C)) : FnOk P wd K mg base CX0 10 f fd ["to", "by", "word", "rest"] (spTold C th to_ ta) := by
  refine D.F.ok scTold (fun vs H Q E h => ?_) (fun cdv A outer s H vs Q E hr h => ?_)
  · obtain ⟨x, y, r, u, v, z, us, w, rfl, _⟩ := h
    rfl
  obtain ⟨x, y, r, u, v, z, us, w, rfl, hx, hy, hu, hv, hrr, fi, hs, hw, k⟩ := h
  refine ⟨_, pss_cons (ps_if (pt_cmpR op_eq (pe_ix ix_tup (pv 0) pe_int (fun _ _ => rfl)) pe_str (nomark _))
      (pss_one (ps_ret (pe_and (pe_cmpR op_eq (pe_ix ix_tup (pv 1) pe_int (fun _ _ => rfl)) pe_str (nomark _)) (pe_and (pe_cmpR (op_in_kd T1.kd) (pv 2) (pe_glob (v := .ref a1) (by rfl) T1.g rfl) (by rfl)) (pe_one (pe_call G hr (by rfl) D1.g D1.F.kp D1.b .nil pass0 (pa_cons (pe_ix ix_kdict (pe_glob (v := .ref a1) (by rfl) T1.g rfl) (pv 2) (fun _ _ => rfl)) (pa_cons (pv 3) pa_nil)))))))) pss_nil)
    (pss_cons (ps_if (pt_cmpR op_eq (pe_ix ix_tup (pv 1) pe_int (fun _ _ => rfl)) pe_str (nomark _))
      (pss_one (ps_ret (pe_and (pe_cmpR (op_in_kd T2.kd) (pv 2) (pe_glob (v := .ref a2) (by rfl) T2.g rfl) (by rfl)) (pe_one (pe_call G hr (by rfl) D1.g D1.F.kp D1.b .nil pass0 (pa_cons (pe_ix ix_kdict (pe_glob (v := .ref a2) (by rfl) T2.g rfl) (pv 2) (fun _ _ => rfl)) (pa_cons (pv 3) pa_nil))))))) pss_nil)
    (pss_one (ps_ret (pe_and (pe_cmpR (show OpR _ _ (rNeD K) from op_neD (room_hu hr)) (pv 0) (pv 1) (nomark _)) (pe_and (pe_cmpR (op_in_kd T3.kd) (pv 2) (pe_glob (v := .ref a3) (by rfl) T3.g rfl) (by rfl)) (pe_one (pe_call G hr (by rfl) D1.g D1.F.kp D1.b .nil pass0 (pa_cons (pe_ix ix_kdict (pe_glob (v := .ref a3) (by rfl) T3.g rfl) (pv 2) (fun _ _ => rfl)) (pa_cons (pv 3) pa_nil))))))))), ?_⟩
  obtain ⟨a, i, rfl, oa⟩ := gMach_is hu
  obtain ⟨b, j, rfl, ob⟩ := gMach_is hv
  obtain ⟨p, x1, x2, rfl, hp, hx1, hx2⟩ := pair_at hx
  obtain ⟨q, y1, y2, rfl, hq, hy1, hy2⟩ := pair_at hy
  rw [at_str hx1, at_int hx2] at hp
  rw [at_str hy1, at_int hy2] at hq
  have hZ : ∀ (c y : Str), decide (V.str c = V.str y) = isZ y (.str c) := fun c y => by
    show _ = (c == y)
    rw [Bool.eq_iff_iff]
    simp
  refine q_when (b := isZ "hand" (.str a)) (et_test (ev_is (ev_op (ev_ixT (j := 0) (ev_var rfl) hp rfl) ev_c (rv_eq rfl)) (by rw [hZ]))) (fun c H1 e => ?_) (fun c H1 e => ?_)
  · have g : gTold th to_ ta (.tup [.str a, .int i]) (.tup [.str b, .int j]) z us = (isZ "home" (.str b) && lookT th z us) := if_pos c
    rw [g] at k
    refine s_ret (ev_andV (ev_is (ev_op (ev_ixT (j := 0) (ev_var rfl) (e _ _ hq) rfl) ev_c (rv_eq rfl)) (by rw [hZ])) fun _ => ev_look T1 z1 (w := w) (r := r) rfl rfl (ex_at e hrr) fi hs (hw.imp fun o z => e _ _ z) (fun r0 G hn => ev_op (ev_var rfl) ev_c fun G1 e Q f => ⟨z, r0, rfl, rfl, hn, f G1 (Ex.refl G1)⟩) fun h1 h2 => ev_andV h1 h2) fun H2 e2 => k H2 (e.trans e2)
  · refine q_when (b := isZ "hand" (.str b)) (et_test (ev_is (ev_op (ev_ixT (j := 0) (ev_var rfl) (e _ _ hq) rfl) ev_c (rv_eq rfl)) (by rw [hZ]))) (fun c2 H2 e2 => ?_) (fun c2 H2 e2 => ?_)
    · have g : gTold th to_ ta (.tup [.str a, .int i]) (.tup [.str b, .int j]) z us = lookT to_ z us := (if_neg (by show ¬ isZ "hand" (.str a) = true; rw [c]; decide)).trans (if_pos c2)
      rw [g] at k
      have e02 := e.trans e2
      exact s_ret (ev_look T2 z2 (w := w) (r := r) rfl rfl (ex_at e02 hrr) fi hs (hw.imp fun o z => e02 _ _ z) (fun r0 G hn => ev_op (ev_var rfl) ev_c fun G1 e Q f => ⟨z, r0, rfl, rfl, hn, f G1 (Ex.refl G1)⟩) fun h1 h2 => ev_andV h1 h2) fun H3 e3 => k H3 (e02.trans e3)
    · have g : gTold th to_ ta (.tup [.str a, .int i]) (.tup [.str b, .int j]) z us = (!(decide (a = b) && decide (i = j)) && lookT ta z us) := (if_neg (by show ¬ isZ "hand" (.str a) = true; rw [c]; decide)).trans (if_neg (by show ¬ isZ "hand" (.str b) = true; rw [c2]; decide))
      rw [g] at k
      have e02 := e.trans e2
      exact s_ret (ev_andV (ev_op (ev_var rfl) (ev_var rfl) (rv_neM (mach_ok oa) (mach_ok ob) (e02 _ _ hp) (e02 _ _ hq))) fun _ => ev_look T3 z3 (w := w) (r := r) rfl rfl (ex_at e02 hrr) fi hs (hw.imp fun o z => e02 _ _ z) (fun r0 G hn => ev_op (ev_var rfl) ev_c fun G1 e Q f => ⟨z, r0, rfl, rfl, hn, f G1 (Ex.refl G1)⟩) fun h1 h2 => ev_andV h1 h2) fun H3 e3 => k H3 (e02.trans e3)
end
end Hs
/-! letters -/
namespace Hs
open PySem PySem.Spec PyProof.Rows L2 Hu Evl
section
variable {P : Program} {wd : World} {K : PySem.W.Frag} {mg : Str → Option Value} {base : Heap} {C : Addr}
def tupU (u : U) : List U := match u with | .tup us => us | _ => []
def gLetter (th to_ ta : List (Str × List Str)) (u : U) : Bool := gTO 5 u && ((gMach (nth u 0) && (gMach (nth u 1) && gCnt (nth u 2))) && (isT (nth u 3) "str" && (isT (nth u 4) "tuple" && gTold th to_ ta (nth u 0) (nth u 1) (strU (nth u 3)) (tupU (nth u 4)))))
theorem scLetter : FnScope ["thing", "to", "by", "talk", "word", "rest"] ["thing"] (defScope sLetter) := ⟨rfl, rfl, rfl, by decide +kernel, rfl, by decide +kernel, by decide +kernel⟩
theorem sm_nthK {u : U} (h : Sm u) (k : Nat) : Sm (nth u k) := by
  cases u with
  | tup us =>
    show Sm (us.getD k .non)
    rw [List.getD_eq_getElem?_getD]
    cases e : us[k]? with
    | none => show wt U.non ≤ 160000; simp [wt]
    | some x => exact Sm.memK h (List.mem_of_getElem? e)
  | _ => show wt U.non ≤ 160000; simp [wt]
theorem five_at {w : Addr} {H : Hp} {v : V} {u : U} (h : At w C H v u) (q : gTO 5 u = true) : ∃ p x0 x1 x2 x3 x4, v = .ref p ∧ H p = some (.tup [x0, x1, x2, x3, x4]) ∧ At w C H x0 (nth u 0) ∧ At w C H x1 (nth u 1) ∧ At w C H x2 (nth u 2) ∧ At w C H x3 (nth u 3) ∧ At w C H x4 (nth u 4) := by
  obtain ⟨us, rfl, hl⟩ := gTO_of q
  match us, hl with
  | [a, b, c, d, e], _ =>
    obtain ⟨p, xs, rfl, hp, _, l⟩ := at_tup h
    cases l with
    | cons h0 l => cases l with
      | cons h1 l => cases l with
        | cons h2 l => cases l with
          | cons h3 l => cases l with
            | cons h4 l => cases l with
              | nil => exact ⟨p, _, _, _, _, _, rfl, hp, h0, h1, h2, h3, h4⟩
theorem jw_letter {f f1 f2 f3 f4 : Addr} {fd d1 d2 d3 d4 : FuncData} {th to_ ta : List (Str × List Str)} (D : Df K mg "is_letter" sLetter ["thing"] f fd) (S : Bs K mg C) (JT : JTO P wd K mg base C f1 d1) (JM : Jd P wd K mg base C 3 "is_machine" "thing" f2 d2 gMach) (JC : Jd P wd K mg base C 2 "is_count" "thing" f3 d3 gCnt)
    (D4 : Df K mg "_is_told" sTold ["to", "by", "word", "rest"] f4 d4) (G : FnOk P wd K mg base CX0 10 f4 d4 ["to", "by", "word", "rest"] (spTold C th to_ ta)) : Jw P wd K mg base C 11 "is_letter" "thing" f fd Sm (gLetter th to_ ta) := by
  refine ⟨D.F.ok scLetter lenJw (fun cdv A outer s H vs Q E hr h => ?_), D.g, D.F.kp, D.b⟩
  obtain ⟨v, u, w, rfl, hat, fi, hs, hw, k⟩ := h
  refine ⟨_, pss_cons (ps_if (pt_not (pt_val (pe_call JT.ok (hr.mono (by decide)) (by rfl) JT.D.g JT.D.F.kp JT.D.b .nil pass0 (pa_cons pe_int (pa_cons (pv 0) pa_nil))))) (pss_one (ps_ret pe_bl)) pss_nil)
    (pss_cons (ps_asg (pv 0) (pg_tup rfl (pgs_cons (pg_name (i := 1) scLetter.nd rfl (Or.inl rfl)) (pgs_cons (pg_name (i := 2) scLetter.nd rfl (Or.inl rfl)) (pgs_cons (pg_name (i := 3) scLetter.nd rfl (Or.inl rfl)) (pgs_cons (pg_name (i := 4) scLetter.nd rfl (Or.inl rfl)) (pgs_cons (pg_name (i := 5) scLetter.nd rfl (Or.inl rfl)) pgs_nil)))))))
    (pss_cons (ps_if (PW.pt (pw_or (pt_not (pt_val (pe_J JM hr (by decide) (by rfl) pass0 (pv 1)))) (pw_or (pt_not (pt_val (pe_J JM hr (by decide) (by rfl) pass0 (pv 2)))) (pw_or1 (pt_not (pt_val (pe_J JC hr (by decide) (by rfl) pass0 (pv 3)))))))) (pss_one (ps_ret pe_bl)) pss_nil)
    (pss_one (ps_ret (pe_and (pe_isiX S (by rfl) (by rfl) S.B.str boot_str (by decide) (pv 4) (by decide) (by decide)) (pe_and (pe_isiX S (by rfl) (by rfl) S.B.tup boot_tuple' (by decide) (pv 5) (by decide) (by decide)) (pe_one (pe_call G hr (by rfl) D4.g D4.F.kp D4.b .nil pass0 (pa_cons (pv 1) (pa_cons (pv 2) (pa_cons (pv 4) (pa_cons (pv 5) pa_nil)))))))))))), ?_⟩
  refine q_when (b := !gTO 5 u) (et_not (et_B (ev_TO (m := 5) ev_c (ev_var rfl) hat))) (fun q H1 e => ?_) (fun q H1 e => ?_)
  · refine s_ret ev_c fun H2 e2 => ?_
    have e3 : gLetter th to_ ta u = false := by
      unfold gLetter
      rw [Bool.not_eq_true'] at q
      rw [q]
      rfl
    rw [← e3]
    exact k H2 (e.trans e2)
  rw [Bool.not_eq_false'] at q
  have fn : ∀ i, i < 5 → Fine (nth u i) := fun i hi => fine_nth q hi fi
  obtain ⟨p, x0, x1, x2, x3, x4, rfl, hp, h0, h1, h2, h3, h4⟩ := five_at (ex_at e hat) q
  refine ⟨_, rfl, p, _, rfl, st_of hp, rfl, _, _, rfl, _, _, rfl, _, _, rfl, _, _, rfl, _, _, rfl, rfl, ?_⟩
  show tSeq _ _ _ [some (V.ref p), some x0, some x1, some x2, some x3, some x4] H1
  have g0 : gLetter th to_ ta u = ((gMach (nth u 0) && (gMach (nth u 1) && gCnt (nth u 2))) && (isT (nth u 3) "str" && (isT (nth u 4) "tuple" && gTold th to_ ta (nth u 0) (nth u 1) (strU (nth u 3)) (tupU (nth u 4))))) := by
    unfold gLetter
    rw [q, Bool.true_and]
  refine q_when (b := !gMach (nth u 0) || (!gMach (nth u 1) || !gCnt (nth u 2))) (et_or (et_not (et_B (ev_J (ev_var rfl) h0 (fn 0 (by decide))))) fun _ => et_or (et_not (et_B (ev_J (ev_var rfl) h1 (fn 1 (by decide))))) fun _ => et_not (et_B (ev_J (ev_var rfl) h2 (fn 2 (by decide))))) (fun c H2 e2 => ?_) (fun c H2 e2 => ?_)
  · refine s_ret ev_c fun H3 e3 => ?_
    have e4 : gLetter th to_ ta u = false := by
      rw [g0]
      revert c
      cases gMach (nth u 0) <;> cases gMach (nth u 1) <;> cases gCnt (nth u 2) <;> simp
    rw [← e4]
    exact k H3 ((e.trans e2).trans e3)
  obtain ⟨q0, q1, q2⟩ : gMach (nth u 0) = true ∧ gMach (nth u 1) = true ∧ gCnt (nth u 2) = true := by
    revert c
    cases gMach (nth u 0) <;> cases gMach (nth u 1) <;> cases gCnt (nth u 2) <;> simp
  rw [q0, q1, q2] at g0
  rw [show ((true && (true && true)) && (isT (nth u 3) "str" && (isT (nth u 4) "tuple" && gTold th to_ ta (nth u 0) (nth u 1) (strU (nth u 3)) (tupU (nth u 4))))) = (isT (nth u 3) "str" && (isT (nth u 4) "tuple" && gTold th to_ ta (nth u 0) (nth u 1) (strU (nth u 3)) (tupU (nth u 4)))) from rfl] at g0
  rw [g0] at k
  have e02 := e.trans e2
  refine s_ret (ev_andV (ev_isi (ev_var rfl) (ex_at e2 h3)) fun c3 => ev_andV (ev_isi (ev_var rfl) (ex_at e2 h4)) fun c4 => ?_) fun H3 e3 => k H3 (e02.trans e3)
  obtain ⟨us, e4⟩ := isT_tup c4
  have f4 := fn 4 (by decide)
  have s4 := sm_nthK hs 4
  rw [e4] at h4 f4 s4 ⊢
  have hz : ∃ z, nth u 3 = .str z := by
    cases hu : nth u 3 with
    | str z => exact ⟨z, rfl⟩
    | _ => rw [hu] at c3; exact absurd c3 (by simp [isT, isS, tyU])
  obtain ⟨z, e5⟩ := hz
  rw [e5] at h3 ⊢
  have h3' := at_str h3
  subst h3'
  exact ev_call (ea_cons (ev_var rfl) (ea_cons (ev_var rfl) (ea_cons (ev_var rfl) (ea_cons (ev_var rfl) ea_nil)))) fun G1 eg Q f E => ⟨x0, x1, x4, nth u 0, nth u 1, z, us, w, rfl, ex_at (e2.trans eg) h0, ex_at (e2.trans eg) h1, q0, q1, ex_at (e2.trans eg) h4, f4, s4, hw.imp fun o z => (e02.trans eg) _ _ z, f⟩
end
end Hs
/-! the law's own flags -/
namespace Hs
open PySem PySem.Spec PyProof.Rows L2 Hu Evl
section
variable {P : Program} {wd : World} {K : PySem.W.Frag} {mg : Str → Option Value} {base : Heap} {C : Addr}
def gCount (u : U) : Bool := iv u fun i => decide (0 ≤ i)
theorem scCount : FnScope ["thing"] ["thing"] (defScope lCount) := ⟨rfl, rfl, rfl, by decide +kernel, rfl, by decide +kernel, by decide +kernel⟩
theorem jl_count {f : Addr} {fd : FuncData} (D : Df K mg "_law_count" lCount ["thing"] f fd) (S : Bs K mg C) : Jd P wd K mg base C 1 "_law_count" "thing" f fd gCount := by
  refine ⟨D.F.ok scCount lenJ (fun cdv A outer s H vs Q E hr h => ?_), D.g, D.F.kp, D.b⟩
  obtain ⟨v, u, w, rfl, hat, fi, k⟩ := h
  refine ⟨_, pss_one (ps_ret (pe_and (pe_isiX S (by rfl) (by rfl) S.B.int boot_int' (by decide) (pv 0) (by decide) (by decide)) (pe_and (pe_not (pe_isiX S (by rfl) (by rfl) S.B.boo boot_bool' (by decide) (pv 0) (by decide) (by decide)))
    (pe_one (pe_cmpR op_ge (pv 0) pe_int (nomark _)))))), ?_⟩
  refine s_ret (ev_andV (b := (!isT u "bool") && gCount u) (ev_isi (ev_var rfl) hat) fun q => ev_andV (b := gCount u) (ev_notV (ev_isi (ev_var rfl) hat)) fun q2 => ?_) fun H1 e => ?_
  · obtain ⟨i, rfl⟩ := isT_int (u := u) (by rw [q, q2]; rfl)
    cases at_int hat
    exact ev_op (ev_var rfl) ev_c rv_I0
  · rw [← Bool.and_assoc, gInt_is]
    unfold gCount
    rw [iv_and]
    exact k H1 e
def spLong (C : Addr) : Sp := fun vs H Q _ => ∃ (v : V) (u : U) (w : Addr), vs = [v, .int 2] ∧ At w C H v u ∧ ∀ H', Same H H' → Q (.bl (gPair u)) H'
theorem scLong : FnScope ["thing", "many"] ["thing", "many"] (defScope lLong) := ⟨rfl, rfl, rfl, by decide +kernel, rfl, by decide +kernel, by decide +kernel⟩
theorem ok_long {f : Addr} {fd : FuncData} (F : Fun K "_law_long" "_law_long" lLong f fd) (S : Bs K mg C) : FnOk P wd K mg base CX0 1 f fd ["thing", "many"] (spLong C) := by
  refine F.ok scLong (fun vs H Q E h => ?_) (fun cdv A outer s H vs Q E hr h => ?_)
  · obtain ⟨v, u, w, rfl, _⟩ := h
    rfl
  obtain ⟨v, u, w, rfl, hat, k⟩ := h
  refine ⟨_, pss_one (ps_ret (pe_and (pe_isiX S (by rfl) (by rfl) S.B.tup boot_tuple' (by decide) (pv 0) (by decide) (by decide)) (pe_one (pe_cmpR op_eq (pe_callB call_len_seq (by rfl) S.B.len PySem.boot_len (pa_cons (pv 0) pa_nil)) (pv 1) (nomark _))))), ?_⟩
  refine s_ret (ev_andV (b := gPair u) (ev_isi (ev_var rfl) hat) fun q => ?_) fun H1 e => ?_
  · obtain ⟨us, rfl⟩ := isT_tup q
    obtain ⟨a, xs, rfl, ha, _, hl⟩ := at_tup hat
    exact ev_is (ev_op (ev_lenTU (K := K) (ev_var rfl) ha hl) (ev_var rfl) (rv_eq rfl)) (by rw [show (2 : Int) = ((2 : Nat) : Int) from rfl, dec_eq]; rfl)
  · unfold gPair
    rw [tv_and]
    exact k H1 e
theorem spv_long {H : Hp} {v : V} {u : U} {w : Addr} (hat : At w C H v u) : SpV (spLong C) [v, .int 2] H (.bl (gPair u)) := fun H1 e Q q E => ⟨v, u, w, rfl, ex_at e hat, q⟩
/-! signs in texts that are written down -/
def lettersZ : Str := "abcdefghijklmnopqrstuvwxyz"
theorem letters_is : lettersZ.cps.toList = List.range' 97 26 := by decide +kernel
theorem in_letters (c : Nat) : decide (c ∈ lettersZ.cps.toList) = lowc c := by
  rw [letters_is]
  unfold lowc
  by_cases h : 97 ≤ c ∧ c ≤ 122
  · rw [decide_eq_true (List.mem_range'_1.mpr (by omega)), decide_eq_true h.1, decide_eq_true h.2]
    rfl
  · rw [decide_eq_false (fun q => h (by have := List.mem_range'_1.mp q; omega))]
    rw [← Bool.decide_and]
    exact (decide_eq_false h).symm
theorem signs_is : signsZ.cps.toList = List.range' 32 5 ++ List.range' 38 89 := by decide +kernel
theorem in_signs (c : Nat) : decide (c ∈ signsZ.cps.toList) = okS c := by
  rw [signs_is]
  have e : okS c = decide ((32 ≤ c ∧ c ≤ 126) ∧ c ≠ 37) := by
    unfold okS okc
    rw [← Bool.decide_and, ← Bool.decide_and]
  rw [e]
  by_cases h : (32 ≤ c ∧ c ≤ 126) ∧ c ≠ 37
  · rw [decide_eq_true h]
    refine decide_eq_true (List.mem_append.mpr ?_)
    by_cases h2 : c < 37
    · exact .inl (List.mem_range'_1.mpr (by omega))
    · exact .inr (List.mem_range'_1.mpr (by omega))
  · rw [decide_eq_false h]
    refine decide_eq_false fun q => h ?_
    rcases List.mem_append.mp q with q | q
    · have := List.mem_range'_1.mp q
      omega
    · have := List.mem_range'_1.mp q
      omega
abbrev rInZ : R2 := fun x y H Q => ∃ (c : Nat) (z : Str), x = .str ⟨#[c]⟩ ∧ y = .str z ∧ Q (.bl (decide (c ∈ z.cps.toList))) H
theorem rv_inZ {c : Nat} {z : Str} {H : Hp} : RV rInZ (.str ⟨#[c]⟩) (.str z) H (.bl (decide (c ∈ z.cps.toList))) := fun H1 _ Q q => ⟨c, z, rfl, rfl, q H1 (Ex.refl H1)⟩
theorem scNameFits : FnScope ["thing", "sign"] ["thing"] (defScope lNameFits) := ⟨rfl, rfl, rfl, by decide +kernel, rfl, by decide +kernel, by decide +kernel⟩
theorem len_tests {n lo hi : Nat} : (decide ((n : Int) < (lo : Int)) || decide ((hi : Int) < (n : Int))) = !(decide (lo ≤ n) && decide (n ≤ hi)) := by
  rw [not_le', not_le', Bool.not_and]
theorem jl_name {f : Addr} {fd : FuncData} (D : Df K mg "_law_name_fits" lNameFits ["thing"] f fd) (S : Bs K mg C) : Jd P wd K mg base C 2 "_law_name_fits" "thing" f fd gNam := by
  refine ⟨D.F.ok scNameFits lenJ (fun cdv A outer s H vs Q E hr h => ?_), D.g, D.F.kp, D.b⟩
  obtain ⟨v, u, w, rfl, hat, fi, k⟩ := h
  refine ⟨_, pss_cons (ps_if (PW.pt (pw_or (pt_not (pt_val (pe_isiX S (by rfl) (by rfl) S.B.str boot_str (by decide) (pv 0) (by decide) (by decide))))
      (pw_or (pt_cmpR op_lt (pe_callB call_len_str (by rfl) S.B.len PySem.boot_len (pa_cons (pv 0) pa_nil)) pe_int (nomark _))
      (pw_or1 (pt_cmpR op_gt (pe_callB call_len_str (by rfl) S.B.len PySem.boot_len (pa_cons (pv 0) pa_nil)) pe_int (nomark _))))))
      (pss_one (ps_ret pe_bl)) pss_nil)
    (pss_one (ps_ret (pe_callB (cr_all rfl) (by rfl) S.B.all boot_all' (pa_cons (pe_lc (own := [("sign", 1)]) (g := gName 1) (tt := tYes) rfl scNameFits.nd (pi_str (pv 0)) (blkOk_by (N := ["thing", "sign"]) (sc := defScope lNameFits) (by decide +kernel))
      (fun _ _ _ _ _ => pg_name (i := 1) scNameFits.nd rfl (Or.inl rfl)) (fun _ _ _ _ _ => pts_nil) (fun _ _ _ _ _ => pe_cmpR op_in_sign (pv 1) pe_str (by rfl))) pa_nil)))), ?_⟩
  refine s_if (b := !isT u "str" || !lenIn 1 8 u) (et_or (et_not (et_B (ev_isi (ev_var rfl) hat))) fun q => ?_) (fun q H1 e => ?_) (fun q H1 e => ?_)
  · rw [Bool.not_eq_false'] at q
    obtain ⟨z, rfl⟩ := isT_str q
    cases at_str hat
    refine et_is (et_or (et_test (ev_op (ev_lenS (ev_var rfl) fi.line) ev_c rv_I0)) fun _ => et_test (ev_op (ev_lenS (ev_var rfl) fi.line) ev_c rv_I0)) ?_
    exact len_tests (lo := 1) (hi := 8)
  · refine s_ret ev_c fun H2 e2 => ?_
    have e3 : gNam u = false := by
      cases u with
      | str z =>
        simp [isT, isS, tyU] at q
        show (lenIn 1 8 (.str z) && _) = false
        rw [q]
        rfl
      | _ => rfl
    rw [← e3]
    exact k H2 (e.trans e2)
  · rw [Bool.or_eq_false_iff, Bool.not_eq_false', Bool.not_eq_false'] at q
    obtain ⟨z, rfl⟩ := isT_str q.1
    cases at_str hat
    refine s_ret (ev_allS (g := lowc) (ev_var rfl) fi.str (fun _ => rfl) fun c _ => ev_is (ev_op (ev_var rfl) ev_c (rv_inZ (z := lettersZ))) (by rw [in_letters])) fun H2 e2 => ?_
    have e3 : gNam (.str z) = (TL.tl z).all lowc := by
      show (lenIn 1 8 (.str z) && _) = _
      rw [q.2]
      rfl
    rw [← e3]
    exact k H2 (e.trans e2)
theorem scHandFits : FnScope ["thing"] ["thing"] (defScope lHandFits) := ⟨rfl, rfl, rfl, by decide +kernel, rfl, by decide +kernel, by decide +kernel⟩
theorem gCount_int {u : U} (h : gCount u = true) : ∃ i : Int, u = .int i ∧ 0 ≤ i := by
  cases u with
  | int i => exact ⟨i, rfl, of_decide_eq_true h⟩
  | _ => cases h
theorem jl_hand {f f1 : Addr} {fd d1 : FuncData} (D : Df K mg "_law_hand_fits" lHandFits ["thing"] f fd) (S : Bs K mg C) (J : Jd P wd K mg base C 1 "_law_count" "thing" f1 d1 gCount) : Jd P wd K mg base C 2 "_law_hand_fits" "thing" f fd gHand := by
  refine ⟨D.F.ok scHandFits lenJ (fun cdv A outer s H vs Q E hr h => ?_), D.g, D.F.kp, D.b⟩
  obtain ⟨v, u, w, rfl, hat, fi, k⟩ := h
  refine ⟨_, pss_one (ps_ret (pe_and (pe_J J hr (by decide) (by rfl) pass0 (pv 0)) (pe_and (pe_cmpR op_le pe_int (pv 0) (nomark _)) (pe_one (pe_cmpR op_le (pv 0) pe_int (nomark _)))))), ?_⟩
  refine s_ret (ev_andV (b := gHand u) (ev_J (ev_var rfl) hat fi) fun q => ?_) fun H1 e => ?_
  · obtain ⟨i, rfl, _⟩ := gCount_int q
    cases at_int hat
    exact ev_andV (ev_op ev_c (ev_var rfl) rv_I0) fun _ => ev_op (ev_var rfl) ev_c rv_I0
  · have e2 : (gCount u && gHand u) = gHand u := by
      cases u with
      | int i =>
        show (decide (0 ≤ i) && (decide (1 ≤ i) && _)) = (decide (1 ≤ i) && _)
        by_cases h : 1 ≤ i
        · rw [decide_eq_true (show 0 ≤ i by omega), Bool.true_and]
        · rw [decide_eq_false h, Bool.false_and, Bool.and_false]
      | _ => rfl
    rw [e2]
    exact k H1 e
/-! ### texts -/
def gSF (lo hi : Nat) (u : U) : Bool := sv u fun z => (decide (lo ≤ z.length) && decide (z.length ≤ hi)) && (TL.tl z).all okS
def spSF (C : Addr) : Sp := fun vs H Q _ => ∃ (v : V) (u : U) (w : Addr) (lo hi : Nat), vs = [v, .int (lo : Int), .int (hi : Int)] ∧ At w C H v u ∧ Fine u ∧ ∀ H', Same H H' → Q (.bl (gSF lo hi u)) H'
theorem scSignsFit : FnScope ["thing", "least", "most", "sign"] ["thing", "least", "most"] (defScope lSignsFit) := ⟨rfl, rfl, rfl, by decide +kernel, rfl, by decide +kernel, by decide +kernel⟩
theorem ok_signsFit {f f1 : Addr} {fd d1 : FuncData} (F : Fun K "_law_signs_fit" "_law_signs_fit" lSignsFit f fd) (S : Bs K mg C) (DG : Df K mg "_law_signs" sSigns [] f1 d1) : FnOk P wd K mg base CX0 2 f fd ["thing", "least", "most"] (spSF C) := by
  have GG : FnOk P wd K mg base CX0 1 f1 d1 [] spSigns := ok_signs DG.F
  refine F.ok scSignsFit (fun vs H Q E h => ?_) (fun cdv A outer s H vs Q E hr h => ?_)
  · obtain ⟨v, u, w, lo, hi, rfl, _⟩ := h
    rfl
  obtain ⟨v, u, w, lo, hi, rfl, hat, fi, k⟩ := h
  refine ⟨_, pss_cons (ps_if (PW.pt (pw_or (pt_not (pt_val (pe_isiX S (by rfl) (by rfl) S.B.str boot_str (by decide) (pv 0) (by decide) (by decide))))
      (pw_or (pt_cmpR op_lt (pe_callB call_len_str (by rfl) S.B.len PySem.boot_len (pa_cons (pv 0) pa_nil)) (pv 1) (nomark _))
      (pw_or1 (pt_cmpR op_gt (pe_callB call_len_str (by rfl) S.B.len PySem.boot_len (pa_cons (pv 0) pa_nil)) (pv 2) (nomark _))))))
      (pss_one (ps_ret pe_bl)) pss_nil)
    (pss_one (ps_ret (pe_callB (cr_all rfl) (by rfl) S.B.all boot_all' (pa_cons (pe_lc (own := [("sign", 3)]) (g := gName 3) (tt := tYes) rfl scSignsFit.nd (pi_str (pv 0)) (blkOk_by (N := ["thing", "least", "most", "sign"]) (sc := defScope lSignsFit) (by decide +kernel))
      (fun _ _ _ _ _ => pg_name (i := 3) scSignsFit.nd rfl (Or.inl rfl)) (fun _ _ _ _ _ => pts_nil) (fun _ _ _ _ _ => pe_cmpR op_in_sign (pv 3) (pe_call0 GG hr (by rfl) DG.g DG.F.kp DG.b .nil pass0) (by rfl))) pa_nil)))), ?_⟩
  refine s_if (b := !isT u "str" || !lenIn lo hi u) (et_or (et_not (et_B (ev_isi (ev_var rfl) hat))) fun q => ?_) (fun q H1 e => ?_) (fun q H1 e => ?_)
  · rw [Bool.not_eq_false'] at q
    obtain ⟨z, rfl⟩ := isT_str q
    cases at_str hat
    exact et_is (et_or (et_test (ev_op (ev_lenS (ev_var rfl) fi.line) (ev_var rfl) rv_I0)) fun _ => et_test (ev_op (ev_lenS (ev_var rfl) fi.line) (ev_var rfl) rv_I0)) len_tests
  · refine s_ret ev_c fun H2 e2 => ?_
    have e3 : gSF lo hi u = false := by
      cases u with
      | str z =>
        have q' : (!true || !lenIn lo hi (.str z)) = true := q
        rw [Bool.not_true, Bool.false_or, Bool.not_eq_true'] at q'
        show (lenIn lo hi (.str z) && _) = false
        rw [q']
        rfl
      | _ => rfl
    rw [← e3]
    exact k H2 (e.trans e2)
  · rw [Bool.or_eq_false_iff, Bool.not_eq_false', Bool.not_eq_false'] at q
    obtain ⟨z, rfl⟩ := isT_str q.1
    cases at_str hat
    refine s_ret (ev_allS (g := okS) (ev_var rfl) fi.str (fun _ => rfl) fun c _ => ev_is (ev_op (ev_var rfl) (ev_call (sp := spSigns) ea_nil fun H1 e Q q E => ⟨rfl, q H1 (Ex.refl H1)⟩) (rv_inZ (z := signsZ))) (by rw [in_signs])) fun H2 e2 => ?_
    have e3 : gSF lo hi (.str z) = (TL.tl z).all okS := by
      show (lenIn lo hi (.str z) && _) = _
      rw [q.2]
      rfl
    rw [← e3]
    exact k H2 (e.trans e2)
theorem okS_okc {c : Nat} (h : okS c = true ∨ c = 10) : okS c = okc c := by
  rcases h with h | rfl
  · rw [h]
    unfold okS at h
    rw [Bool.and_eq_true] at h
    exact h.1.symm
  · rfl
theorem fine_okz {z : Str} (h : Fine (.str z)) : (TL.tl z).all okS = okz z := by
  have hc : ∀ c ∈ TL.tl z, okS c = true ∨ c = 10 := by simpa only [clean] using h.c
  unfold okz
  generalize TL.tl z = l at hc
  induction l with
  | nil => rfl
  | cons c l ih =>
    rw [List.all_cons, List.all_cons, ih fun b hb => hc b (List.mem_cons_of_mem _ hb), okS_okc (hc c List.mem_cons_self)]
theorem sf_text {u : U} (h : Fine u) : gSF 0 96 u = gText u := by
  cases u with
  | str z =>
    show ((decide (0 ≤ z.length) && decide (z.length ≤ 96)) && (TL.tl z).all okS) = (okz z && decide (z.length ≤ 96))
    rw [fine_okz h, decide_eq_true (Nat.zero_le _), Bool.true_and, Bool.and_comm]
  | _ => rfl
theorem sf_piece {u : U} (h : Fine u) : gSF 1 8 u = gPiece u := by
  cases u with
  | str z =>
    show ((decide (1 ≤ z.length) && decide (z.length ≤ 8)) && (TL.tl z).all okS) = (okz z && _)
    rw [fine_okz h, Bool.and_comm]
  | _ => rfl
theorem spv_SF {H : Hp} {v : V} {u : U} {w : Addr} {lo hi : Nat} (hat : At w C H v u) (fi : Fine u) : SpV (spSF C) [v, .int (lo : Int), .int (hi : Int)] H (.bl (gSF lo hi u)) := fun H1 e Q q E => ⟨v, u, w, lo, hi, rfl, ex_at e hat, fi, q⟩
end
end Hs
namespace Hs
open PySem PySem.Spec PyProof.Rows L2 Hu Evl
section
variable {P : Program} {wd : World} {K : PySem.W.Frag} {mg : Str → Option Value} {base : Heap} {C : Addr}
theorem scIdFits : FnScope ["thing"] ["thing"] (defScope lIdFits) := ⟨rfl, rfl, rfl, by decide +kernel, rfl, by decide +kernel, by decide +kernel⟩
/-- a def with the two parameters of _law_long, called with 2 -/
theorem ev_long {σ : L2.St} {H : Hp} {te : TE} {v : V} {u : U} {w : Addr} {E : XK} (h : Ev te σ H v) (hat : At w C H v u) : Ev (tCall (spLong C) [] E (tCons te (tCons (tC (.int 2)) tNil))) σ H (.bl (gPair u)) :=
  ev_call (ea_cons h (ea_cons ev_c ea_nil)) (spv_long hat)
theorem jl_id {f f1 f2 f3 : Addr} {fd d1 d2 d3 : FuncData} (D : Df K mg "_law_id_fits" lIdFits ["thing"] f fd) (S : Bs K mg C) (DL : Df K mg "_law_long" lLong ["thing", "many"] f1 d1) (JH : Jd P wd K mg base C 2 "_law_hand_fits" "thing" f2 d2 gHand) (JC : Jd P wd K mg base C 1 "_law_count" "thing" f3 d3 gCount) :
    Jd P wd K mg base C 3 "_law_id_fits" "thing" f fd gId := by
  have GL : FnOk P wd K mg base CX0 2 f1 d1 ["thing", "many"] (spLong C) := (ok_long DL.F S).mono (by decide)
  refine ⟨D.F.ok scIdFits lenJ (fun cdv A outer s H vs Q E hr h => ?_), D.g, D.F.kp, D.b⟩
  obtain ⟨v, u, w, rfl, hat, fi, k⟩ := h
  refine ⟨_, pss_one (ps_ret (pe_and (pe_call GL hr (by rfl) DL.g DL.F.kp DL.b .nil pass0 (pa_cons (pv 0) (pa_cons pe_int pa_nil))) (pe_and (pe_J JH hr (by decide) (by rfl) pass0 (pe_ix ix_tup (pv 0) pe_int (fun _ _ => rfl)))
    (pe_and (pe_J JC hr (by decide) (by rfl) pass0 (pe_ix ix_tup (pv 0) pe_int (fun _ _ => rfl))) (pe_one (pe_cmpR op_ge (pe_ix ix_tup (pv 0) pe_int (fun _ _ => rfl)) pe_int (nomark _))))))), ?_⟩
  refine s_ret (ev_andV (b := gId u) (ev_long (ev_var rfl) hat) fun q => ?_) fun H1 e => ?_
  · obtain ⟨a, b, rfl⟩ := gPair_two q
    obtain ⟨p, x, y, rfl, hp, ha, hb⟩ := pair_at hat
    refine ev_is (ev_andV (b := gFrom b) (ev_J (ev_ixT (j := 0) (ev_var rfl) hp rfl) ha fi.fst) fun _ => ev_is (ev_andV (b := gFrom b) (ev_J (g := gCount) (ev_ixT (j := 1) (ev_var rfl) hp rfl) hb fi.snd) fun q2 => ?_) ?_) rfl
    · obtain ⟨i, rfl, _⟩ := gCount_int q2
      cases at_int hb
      exact ev_op (ev_ixT (j := 1) (ev_var rfl) hp rfl) ev_c rv_I0
    · congr 1
      cases b with
      | int i =>
        show (decide (0 ≤ i) && decide (1 ≤ i)) = decide (1 ≤ i)
        by_cases h : 1 ≤ i
        · rw [decide_eq_true h, decide_eq_true (show 0 ≤ i by omega)]
          rfl
        · rw [decide_eq_false h, Bool.and_false]
      | _ => rfl
  · unfold gId
    rw [pair_and]
    exact k H1 e
theorem scStampFits : FnScope ["thing"] ["thing"] (defScope lStampFits) := ⟨rfl, rfl, rfl, by decide +kernel, rfl, by decide +kernel, by decide +kernel⟩
def cnt2 (u : U) : Bool := tv u fun us => two us fun a b => gCount a && gCount b
theorem cnt2_two {u : U} (h : cnt2 u = true) : ∃ i j : Int, u = .tup [.int i, .int j] ∧ 0 ≤ i ∧ 0 ≤ j := by
  cases u with
  | tup us =>
    match us, h with
    | [a, b], h =>
      have h1 : (gCount a && gCount b) = true := h
      rw [Bool.and_eq_true] at h1
      obtain ⟨i, rfl, hi⟩ := gCount_int h1.1
      obtain ⟨j, rfl, hj⟩ := gCount_int h1.2
      exact ⟨i, j, rfl, hi, hj⟩
  | _ => cases h
theorem stamp_cnt {u : U} (h : cnt2 u = false) : gStamp u = false := by
  cases u with
  | tup us =>
    match us, h with
    | [], _ => rfl
    | [a], _ => rfl
    | [a, b], h =>
      have h1 : (gCount a && gCount b) = false := h
      cases a <;> try rfl
      cases b <;> try rfl
      rename_i i j
      have h2 : (decide (0 ≤ i) && decide (0 ≤ j)) = false := h1
      show ((decide (i = 0) && decide (j = 0)) || (decide (1 ≤ i) && (decide (1 ≤ j) && decide (j ≤ 99)))) = false
      rw [← Bool.decide_and] at h2
      have h3 := of_decide_eq_false h2
      simp only [← Bool.decide_and, ← Bool.decide_or]
      exact decide_eq_false (by omega)
    | a :: b :: c :: r, _ => rfl
  | _ => rfl
theorem jl_stamp {f f1 f2 f3 : Addr} {fd d1 d2 d3 : FuncData} (D : Df K mg "_law_stamp_fits" lStampFits ["thing"] f fd) (S : Bs K mg C) (DL : Df K mg "_law_long" lLong ["thing", "many"] f1 d1) (JH : Jd P wd K mg base C 2 "_law_hand_fits" "thing" f2 d2 gHand) (JC : Jd P wd K mg base C 1 "_law_count" "thing" f3 d3 gCount) :
    Jd P wd K mg base C 3 "_law_stamp_fits" "thing" f fd gStamp := by
  have GL : FnOk P wd K mg base CX0 2 f1 d1 ["thing", "many"] (spLong C) := (ok_long DL.F S).mono (by decide)
  refine ⟨D.F.ok scStampFits lenJ (fun cdv A outer s H vs Q E hr h => ?_), D.g, D.F.kp, D.b⟩
  obtain ⟨v, u, w, rfl, hat, fi, k⟩ := h
  refine ⟨_, pss_cons (ps_if (PW.pt (pw_or (pt_not (pt_val (pe_call GL hr (by rfl) DL.g DL.F.kp DL.b .nil pass0 (pa_cons (pv 0) (pa_cons pe_int pa_nil))))) (pw_or (pt_not (pt_val (pe_J JC hr (by decide) (by rfl) pass0 (pe_ix ix_tup (pv 0) pe_int (fun _ _ => rfl)))))
      (pw_or1 (pt_not (pt_val (pe_J JC hr (by decide) (by rfl) pass0 (pe_ix ix_tup (pv 0) pe_int (fun _ _ => rfl)))))))))
      (pss_one (ps_ret pe_bl)) pss_nil)
    (pss_cons (ps_if (pt_cmpR op_eq (pe_ix ix_tup (pv 0) pe_int (fun _ _ => rfl)) pe_int (nomark _)) (pss_one (ps_ret (pe_cmpR op_eq (pe_ix ix_tup (pv 0) pe_int (fun _ _ => rfl)) pe_int (nomark _)))) pss_nil)
    (pss_one (ps_ret (pe_J JH hr (by decide) (by rfl) pass0 (pe_ix ix_tup (pv 0) pe_int (fun _ _ => rfl)))))), ?_⟩
  have e0 : (!gPair u || (!(tv u fun us => two us fun a b => gCount a) || !cnt2 u)) = !cnt2 u := by
    cases u with
    | tup us =>
      match us with
      | [] => rfl
      | [a] => rfl
      | [a, b] =>
        show (!true || (!gCount a || !(gCount a && gCount b))) = !(gCount a && gCount b)
        cases gCount a <;> cases gCount b <;> rfl
      | a :: b :: c :: r => simp [gPair, tv, two, cnt2]
    | _ => rfl
  refine s_if (b := !gPair u || (!(tv u fun us => two us fun a b => gCount a) || !cnt2 u)) (et_or (et_not (et_B (ev_long (ev_var rfl) hat))) fun q => ?_) (fun q H1 e => ?_) (fun q H1 e => ?_)
  · rw [Bool.not_eq_false'] at q
    obtain ⟨a, b, rfl⟩ := gPair_two q
    obtain ⟨p, x, y, rfl, hp, ha, hb⟩ := pair_at hat
    refine et_or (et_not (et_B (ev_J (g := gCount) (u := a) (ev_ixT (j := 0) (ev_var rfl) hp rfl) ha fi.fst))) fun q2 => et_is (et_not (et_B (ev_J (g := gCount) (u := b) (ev_ixT (j := 1) (ev_var rfl) hp rfl) hb fi.snd))) ?_
    have q3 : (!gCount a) = false := q2
    rw [Bool.not_eq_false'] at q3
    show (!gCount b) = !(gCount a && gCount b)
    rw [q3]
    rfl
  · refine s_ret ev_c fun H2 e2 => ?_
    rw [e0, Bool.not_eq_true'] at q
    rw [← stamp_cnt q]
    exact k H2 (e.trans e2)
  · rw [e0, Bool.not_eq_false'] at q
    obtain ⟨i, j, rfl, hi, hj⟩ := cnt2_two q
    obtain ⟨p, x, y, rfl, hp, ha, hb⟩ := pair_at (ex_at e hat)
    have hx := at_int ha
    have hy := at_int hb
    subst hx hy
    have gs : gStamp (.tup [.int i, .int j]) = ((decide (i = 0) && decide (j = 0)) || (decide (1 ≤ i) && (decide (1 ≤ j) && decide (j ≤ 99)))) := rfl
    have di : ∀ n : Int, decide (V.int n = V.int 0) = decide (n = 0) := fun n => by
      by_cases h : n = 0
      · rw [h]
        rfl
      · rw [decide_eq_false h]
        exact decide_eq_false fun z => h (V.int.inj z)
    refine s_if (b := decide (i = 0)) (et_test (ev_is (ev_op (ev_ixT (j := 0) (ev_var rfl) hp rfl) ev_c (rv_eq rfl)) (by rw [di]))) (fun q2 H2 e2 => ?_) (fun q2 H2 e2 => ?_)
    · refine s_ret (ev_is (ev_op (ev_ixT (j := 1) (ev_var rfl) (e2 _ _ hp) rfl) ev_c (rv_eq rfl)) (by rw [di])) fun H3 e3 => ?_
      have e4 : gStamp (.tup [.int i, .int j]) = decide (j = 0) := by
        have := of_decide_eq_true q2
        rw [gs, q2, decide_eq_false (show ¬ 1 ≤ i by omega), Bool.true_and, Bool.false_and, Bool.or_false]
      rw [← e4]
      exact k H3 ((e.trans e2).trans e3)
    · refine s_ret (ev_J (g := gHand) (u := .int j) (ev_ixT (j := 1) (ev_var rfl) (e2 _ _ hp) rfl) (ex_at e2 hb) fi.snd) fun H3 e3 => ?_
      have e4 : gStamp (.tup [.int i, .int j]) = gHand (.int j) := by
        have := of_decide_eq_false q2
        rw [gs, q2, decide_eq_true (show 1 ≤ i by omega), Bool.false_and, Bool.true_and, Bool.false_or]
        rfl
      rw [← e4]
      exact k H3 ((e.trans e2).trans e3)
theorem scRowFits : FnScope ["thing", "one"] ["thing"] (defScope lRowFits) := ⟨rfl, rfl, rfl, by decide +kernel, rfl, by decide +kernel, by decide +kernel⟩
def rowT (u : U) : Bool := tv u fun us => decide (us.length ≤ 12) && us.all gId
theorem jl_row {f f1 : Addr} {fd d1 : FuncData} (D : Df K mg "_law_row_fits" lRowFits ["thing"] f fd) (S : Bs K mg C) (J : Jd P wd K mg base C 3 "_law_id_fits" "thing" f1 d1 gId) :
    Jd P wd K mg base C 4 "_law_row_fits" "thing" f fd gRow := by
  refine ⟨D.F.ok scRowFits lenJ (fun cdv A outer s H vs Q E hr h => ?_), D.g, D.F.kp, D.b⟩
  obtain ⟨v, u, w, rfl, hat, fi, k⟩ := h
  refine ⟨_, pss_cons (ps_if (pt_cmpR op_isN1 (pv 0) pe_non (nomark _)) (pss_one (ps_ret pe_bl)) pss_nil)
    (pss_one (ps_ret (pe_and (pe_isiX S (by rfl) (by rfl) S.B.tup boot_tuple' (by decide) (pv 0) (by decide) (by decide)) (pe_and (pe_cmpR op_le (pe_callB call_len_seq (by rfl) S.B.len PySem.boot_len (pa_cons (pv 0) pa_nil)) pe_int (nomark _))
    (pe_one (pe_callB (cr_all rfl) (by rfl) S.B.all boot_all' (pa_cons (pe_lc (own := [("one", 1)]) (g := gName 1) (tt := tYes) rfl scRowFits.nd (pi_tup (pv 0)) (blkOk_by (N := ["thing", "one"]) (sc := defScope lRowFits) (by decide +kernel))
      (fun _ _ _ _ _ => pg_name (i := 1) scRowFits.nd rfl (Or.inl rfl)) (fun _ _ _ _ _ => pts_nil) (fun _ _ _ _ _ => pe_J J hr (by decide) (by rfl) pass0 (pv 1))) pa_nil))))))), ?_⟩
  refine s_if (b := isNon u) (et_test (ev_is (ev_isN (ev_var rfl)) (by rw [at_non hat]))) (fun q H1 e => ?_) (fun q H1 e => ?_)
  · refine s_ret ev_c fun H2 e2 => ?_
    have := k H2 (e.trans e2)
    cases u with
    | non => exact this
    | _ => cases q
  · have hat1 := ex_at e hat
    refine s_ret (ev_andV (b := rowT u) (ev_isi (ev_var rfl) hat1) fun q2 => ?_) fun H2 e2 => ?_
    · obtain ⟨us, rfl⟩ := isT_tup q2
      obtain ⟨a, xs, rfl, ha, _, hl⟩ := at_tup hat1
      refine ev_andV (a := decide (us.length ≤ 12)) (b := us.all gId) (ev_is (ev_op (ev_lenTU (K := K) (ev_var rfl) ha hl) ev_c rv_I0) (by rw [show (12 : Int) = ((12 : Nat) : Int) from rfl, dec_le])) fun _ => ?_
      exact ev_allT (g := gId) (ev_var rfl) ha fi.len hl (fun _ => rfl) fun x u hu hx => ev_J (ev_var rfl) hx (fi.tup u hu)
    · have e4 : (isT u "tuple" && rowT u) = gRow u := by
        unfold rowT
        rw [tv_and]
        cases u with
        | non => cases q
        | _ => rfl
      rw [e4]
      exact k H2 (e.trans e2)
theorem scMembersFit : FnScope ["thing", "one"] ["thing"] (defScope lMembersFit) := ⟨rfl, rfl, rfl, by decide +kernel, rfl, by decide +kernel, by decide +kernel⟩
theorem jl_members {f f1 f2 : Addr} {fd d1 d2 : FuncData} (D : Df K mg "_law_members_fit" lMembersFit ["thing"] f fd) (S : Bs K mg C) (J : Jd P wd K mg base C 1 "_law_count" "thing" f1 d1 gCount) (DA : Df K mg "_law_rising" lRising ["things"] f2 d2) :
    Jd P wd K mg base C 4 "_law_members_fit" "thing" f fd gMembers := by
  refine ⟨D.F.ok scMembersFit lenJ (fun cdv A outer s H vs Q E hr h => ?_), D.g, D.F.kp, D.b⟩
  obtain ⟨v, u, w, rfl, hat, fi, k⟩ := h
  have GA : FnOk P wd K mg base CX0 3 f2 d2 ["things"] spAsc := (ok_rising DA.F S.B).mono (by decide)
  refine ⟨_, pss_cons (ps_if (PW.pt (pw_or (pt_not (pt_val (pe_isiX S (by rfl) (by rfl) S.B.tup boot_tuple' (by decide) (pv 0) (by decide) (by decide))))
      (pw_or (pt_cmpR op_lt (pe_callB call_len_seq (by rfl) S.B.len PySem.boot_len (pa_cons (pv 0) pa_nil)) pe_int (nomark _))
      (pw_or1 (pt_cmpR op_gt (pe_callB call_len_seq (by rfl) S.B.len PySem.boot_len (pa_cons (pv 0) pa_nil)) pe_int (nomark _))))))
      (pss_one (ps_ret pe_bl)) pss_nil)
    (pss_one (ps_ret (pe_and (pe_callB (cr_all rfl) (by rfl) S.B.all boot_all' (pa_cons (pe_lc (own := [("one", 1)]) (g := gName 1) (tt := tYes) rfl scMembersFit.nd (pi_tup (pv 0)) (blkOk_by (N := ["thing", "one"]) (sc := defScope lMembersFit) (by decide +kernel))
      (fun _ _ _ _ _ => pg_name (i := 1) scMembersFit.nd rfl (Or.inl rfl)) (fun _ _ _ _ _ => pts_nil) (fun _ _ _ _ _ => pe_and (pe_J J hr (by decide) (by rfl) pass0 (pv 1)) (pe_one (pe_cmpR op_le (pv 1) pe_int (nomark _))))) pa_nil))
      (pe_one (pe_call GA hr (by rfl) DA.g DA.F.kp DA.b .nil pass0 (pa_cons (pv 0) pa_nil)))))), ?_⟩
  refine s_if (b := !isT u "tuple" || !lenB 1 9 u) (et_or (et_not (et_B (ev_isi (ev_var rfl) hat))) fun q => ?_) (fun q H1 e => ?_) (fun q H1 e => ?_)
  · rw [Bool.not_eq_false'] at q
    obtain ⟨us, rfl⟩ := isT_tup q
    obtain ⟨a, xs, rfl, ha, _, hl⟩ := at_tup hat
    exact et_is (et_or (et_test (ev_op (ev_lenTU (K := K) (ev_var rfl) ha hl) ev_c rv_I0)) fun _ => et_test (ev_op (ev_lenTU (K := K) (ev_var rfl) ha hl) ev_c rv_I0)) (len_tests (lo := 1) (hi := 9))
  · refine s_ret ev_c fun H2 e2 => ?_
    have e3 : gMembers u = false := by
      cases u with
      | tup us =>
        simp [isT, isS, tyU] at q
        show ((lenB 1 9 (.tup us) && _) && _) = false
        rw [q]
        rfl
      | _ => rfl
    rw [← e3]
    exact k H2 (e.trans e2)
  · rw [Bool.or_eq_false_iff, Bool.not_eq_false', Bool.not_eq_false'] at q
    obtain ⟨us, rfl⟩ := isT_tup q.1
    obtain ⟨a, xs, rfl, ha, _, hl⟩ := at_tup (ex_at e hat)
    have hb : (decide (1 ≤ us.length) && decide (us.length ≤ 9)) = true := q.2
    rw [Bool.and_eq_true] at hb
    have b1 : 1 ≤ us.length := of_decide_eq_true hb.1
    have b2 : us.length ≤ 9 := of_decide_eq_true hb.2
    refine s_ret (ev_andV (a := us.all gHome) (b := ascI (us.map intU)) (ev_allT (g := gHome) (ev_var rfl) ha fi.len hl (fun _ => rfl) fun x u hu hx => ev_is (ev_andV (b := gHome u) (ev_J (g := gCount) (u := u) (ev_var rfl) hx (fi.tup u hu)) fun q3 => ?_) ?_) fun q2 => ?_) fun H2 e2 => ?_
    · obtain ⟨i, rfl, hi⟩ := gCount_int q3
      cases at_int hx
      refine ev_is (ev_op (ev_var rfl) ev_c rv_I0) ?_
      show V.bl (decide (i ≤ 8)) = V.bl (decide (0 ≤ i) && decide (i < 9))
      rw [decide_eq_true hi, Bool.true_and]
      congr 1
      exact decide_eq_decide.mpr (by omega)
    · congr 1
      cases u with
      | int i =>
        show (decide (0 ≤ i) && (decide (0 ≤ i) && decide (i < 9))) = (decide (0 ≤ i) && decide (i < 9))
        rw [← Bool.and_assoc, Bool.and_self]
      | _ => rfl
    · have hx := ints_of hl (homes_ints q2)
      rw [hx] at ha
      exact ev_call (ea_cons (ev_var rfl) ea_nil) (spv_asc ha (by rw [List.length_map]; exact b1) (by rw [List.length_map]; omega))
    · have e3 : gMembers (.tup us) = (us.all gHome && ascI (us.map intU)) := by
        show ((lenB 1 9 (.tup us) && us.all gHome) && _) = _
        rw [q.2]
        rfl
      rw [← e3]
      exact k H2 (e.trans e2)
/-! ### all pieces fit -/
def gPieces (u : U) : Bool := tv u fun us => decide (us.length ≤ 12) && us.all gPiece
end
end Hs
/-! the law's own judges of a table's parts -/
namespace Hs
open PySem PySem.Spec PyProof.Rows L2 Hu Evl

abbrev lHeadFits : Stmt := topS 79
abbrev lHeadsFit : Stmt := topS 78
abbrev lBlockFits : Stmt := topS 80
abbrev lBlocksFit : Stmt := topS 81
abbrev lLeaseFits : Stmt := topS 82
abbrev lLeasesFit : Stmt := topS 83
abbrev lVoteFits : Stmt := topS 84
abbrev lAheadFits : Stmt := topS 85
abbrev lTableFits : Stmt := topS 86
section
variable {P : Program} {wd : World} {K : PySem.W.Frag} {mg : Str → Option Value} {base : Heap} {C : Addr}
theorem ok_risG {ri r : R2} {f : Addr} {fd : FuncData} (F : Fun K "_law_rising" "_law_rising" lRising f fd) (B : Bt mg) (hix : ∀ X : Cx, X.K = K → IxR X ri) (hop : ∀ X : Cx, X.K = K → X.A.units + 64 < cLine → OpR X (compareOp .Lt) r) :
    FnOk P wd K mg base CX0 1 f fd ["things"] (spAscG K ri r) := by
  refine F.ok scRising (fun vs H Q E h => ?_) (fun cdv A outer s H vs Q E hr h => ?_)
  · obtain ⟨n, m, _, rfl, _⟩ := h
    rfl
  · obtain ⟨a, xs, lt, rfl, ha, hz, hi, hl, k⟩ := h
    refine ⟨_, pss_one (ps_ret (pe_callB (cr_all rfl) (by rfl) B.all boot_all' (pa_cons (pe_lc (own := [("k", 1)]) (g := gName 1) (tt := tYes) rfl scRising.nd (pi_range1 (by rfl) B.range (pa_cons (pe_op op_sub (pe_callB call_len_seq (by rfl) B.len PySem.boot_len (pa_cons (pv 0) pa_nil)) pe_int) pa_nil)) (blkOk_by (N := ["things", "k"]) (sc := defScope lRising) (by decide +kernel))
      (fun _ _ _ _ _ => pg_name (i := 1) scRising.nd rfl (Or.inl rfl)) (fun _ _ _ _ _ => pts_nil) (fun _ _ _ _ _ => pe_cmpR (hop _ rfl (room_hu hr)) (pe_ix (hix _ rfl) (pv 0) (pv 1) (fun _ _ => rfl)) (pe_ix (hix _ rfl) (pv 0) (pe_op op_add (pv 1) pe_int) (fun _ _ => rfl)) (nomark _))) pa_nil))), ?_⟩
    exact s_ret (ascG_reads rfl ha hz hi hl) k
theorem ok_risZ {f : Addr} {fd : FuncData} (F : Fun K "_law_rising" "_law_rising" lRising f fd) (B : Bt mg) : FnOk P wd K mg base CX0 1 f fd ["things"] (spAscG K (rIxL K) rLtS) :=
  ok_risG F B (fun X e => e ▸ ix_list) (fun X e _ => op_lt_str)
theorem ok_risK {f : Addr} {fd : FuncData} (F : Fun K "_law_rising" "_law_rising" lRising f fd) (B : Bt mg) : FnOk P wd K mg base CX0 1 f fd ["things"] (spAscG K (rIxL K) (Hk.rLtK K)) :=
  ok_risG F B (fun X e => e ▸ ix_list) (fun X e h => e ▸ Hk.op_ltK (by omega))
def spLongM (C : Addr) : Sp := fun vs H Q _ => ∃ (m : Nat) (v : V) (u : U) (w : Addr), vs = [v, .int (m : Int)] ∧ At w C H v u ∧ ∀ H', Same H H' → Q (.bl (gTO m u)) H'
theorem ok_longM {f : Addr} {fd : FuncData} (F : Fun K "_law_long" "_law_long" lLong f fd) (S : Bs K mg C) : FnOk P wd K mg base CX0 1 f fd ["thing", "many"] (spLongM C) := by
  refine F.ok scLong (fun vs H Q E h => ?_) (fun cdv A outer s H vs Q E hr h => ?_)
  · obtain ⟨m, v, u, w, rfl, _⟩ := h
    rfl
  · obtain ⟨m, v, u, w, rfl, hat, k⟩ := h
    refine ⟨_, pss_one (ps_ret (pe_and (pe_isiX S (by rfl) (by rfl) S.B.tup boot_tuple' (by decide) (pv 0) (by decide) (by decide)) (pe_one (pe_cmpR op_eq (pe_callB call_len_seq (by rfl) S.B.len PySem.boot_len (pa_cons (pv 0) pa_nil)) (pv 1) (nomark _))))), ?_⟩
    refine s_ret (ev_andV (b := gTO m u) (ev_isi (ev_var rfl) hat) fun q => ?_) fun H1 e => ?_
    · obtain ⟨us, rfl⟩ := isT_tup q
      obtain ⟨a, xs, rfl, ha, _, hl⟩ := at_tup hat
      have := ev_op (r := rEq) (σ := [some (V.ref a), some (V.int (m : Int))]) (ev_lenT (K := K) (te := tVar 0) (ev_var rfl) ha) (ev_var (i := 1) rfl) (rv_eq rfl)
      rw [dec_eq, AtL.length hl] at this
      exact this
    · unfold gTO
      rw [tv_and]
      exact k H1 e
structure JLo (P : Program) (wd : World) (K : PySem.W.Frag) (mg : Str → Option Value) (base : Heap) (C : Addr) (f : Addr) (fd : FuncData) : Prop where
  D : Df K mg "_law_long" lLong ["thing", "many"] f fd
  ok : FnOk P wd K mg base CX0 1 f fd ["thing", "many"] (spLongM C)
theorem ev_LM {σ : L2.St} {H : Hp} {tm te : TE} {E : XK} {m : Nat} {v : V} {u : U} {w : Addr} (h : Ev te σ H v) (hm : ∀ H', Ev tm σ H' (.int (m : Int))) (hat : At w C H v u) : Ev (tCall (spLongM C) [] E (tCons te (tCons tm tNil))) σ H (.bl (gTO m u)) :=
  ev_call (ea_cons h (ea_cons (hm _) ea_nil)) fun H1 e Q q E => ⟨m, v, u, w, rfl, ex_at e hat, q⟩
/-! heads -/
theorem scHeadF : FnScope ["thing"] ["thing"] (defScope lHeadFits) := ⟨rfl, rfl, rfl, by decide +kernel, rfl, by decide +kernel, by decide +kernel⟩
def g3 (u : U) : Prop := gTO 3 u = true
def gH3 (u : U) : Bool := gNam (nth u 0) && (gStamp (nth u 1) && gRow (nth u 2))
theorem jl_headF {f f2 f3 f4 : Addr} {fd d2 d3 d4 : FuncData} (D : Df K mg "_law_head_fits" lHeadFits ["thing"] f fd) (S : Bs K mg C) (JN : Jd P wd K mg base C 2 "_law_name_fits" "thing" f2 d2 gNam)
    (JS : Jd P wd K mg base C 3 "_law_stamp_fits" "thing" f3 d3 gStamp) (JR : Jd P wd K mg base C 4 "_law_row_fits" "thing" f4 d4 gRow) : Jw P wd K mg base C 5 "_law_head_fits" "thing" f fd g3 gH3 := by
  refine ⟨D.F.ok scHeadF lenJw (fun cdv A outer s H vs Q E hr h => ?_), D.g, D.F.kp, D.b⟩
  obtain ⟨v, u, w, rfl, hat, fi, q, hw, k⟩ := h
  have q : gTO 3 u = true := q
  refine ⟨_, pss_one (ps_ret (pe_and (pe_J JN hr (by decide) (by rfl) pass0 (pe_ix ix_tup (pv 0) pe_int (fun _ _ => rfl)))
    (pe_and (pe_J JS hr (by decide) (by rfl) pass0 (pe_ix ix_tup (pv 0) pe_int (fun _ _ => rfl))) (pe_one (pe_J JR hr (by decide) (by rfl) pass0 (pe_ix ix_tup (pv 0) pe_int (fun _ _ => rfl))))))), ?_⟩
  obtain ⟨x0, e0, h0⟩ := ev_nth (K := K) (σ := [some v]) (te := tVar 0) (k := 0) (ev_var rfl) hat q (by decide)
  obtain ⟨x1, e1, h1⟩ := ev_nth (K := K) (σ := [some v]) (te := tVar 0) (k := 1) (ev_var rfl) hat q (by decide)
  obtain ⟨x2, e2, h2⟩ := ev_nth (K := K) (σ := [some v]) (te := tVar 0) (k := 2) (ev_var rfl) hat q (by decide)
  exact s_ret (ev_andV (ev_J e0 h0 (fine_nth q (by decide) fi)) fun _ => ev_andV (ev_J e1 h1 (fine_nth q (by decide) fi)) fun _ => ev_J e2 h2 (fine_nth q (by decide) fi)) fun H1 e => k H1 e
theorem scHeadsF : FnScope ["thing", "one"] ["thing"] (defScope lHeadsFit) := ⟨rfl, rfl, rfl, by decide +kernel, rfl, by decide +kernel, by decide +kernel⟩
theorem jl_headsF {f f0 f1 f2 : Addr} {fd d0 d1 d2 : FuncData} (D : Df K mg "_law_heads_fit" lHeadsFit ["thing"] f fd) (S : Bs K mg C) (J : Jw P wd K mg base C 5 "_law_head_fits" "thing" f1 d1 g3 gH3) (JL : JLo P wd K mg base C f0 d0) (DA : Df K mg "_law_rising" lRising ["things"] f2 d2) :
    Jw P wd K mg base C 6 "_law_heads_fit" "thing" f fd Sm gHeads := by
  refine ⟨D.F.ok scHeadsF lenJw (fun cdv A outer s H vs Q E hr h => ?_), D.g, D.F.kp, D.b⟩
  obtain ⟨v, u, w, rfl, hat, fi, hs, hw, k⟩ := h
  have GA : FnOk P wd K mg base CX0 5 f2 d2 ["things"] (spAscG K (rIxL K) rLtS) := (ok_risZ DA.F S.B).mono (by decide)
  refine ⟨_, pss_cons (ps_if (PW.pt (pw_or (pt_not (pt_val (pe_isiX S (by rfl) (by rfl) S.B.tup boot_tuple' (by decide) (pv 0) (by decide) (by decide))))
      (pw_or1 (pt_not (pt_val (pe_callB (cr_all rfl) (by rfl) S.B.all boot_all' (pa_cons (pe_lc (own := [("one", 1)]) (g := gName 1) (tt := tYes) rfl scHeadsF.nd (pi_tup (pv 0)) (blkOk_by (N := ["thing", "one"]) (sc := defScope lHeadsFit) (by decide +kernel))
        (fun _ _ _ _ _ => pg_name (i := 1) scHeadsF.nd rfl (Or.inl rfl)) (fun _ _ _ _ _ => pts_nil) (fun _ _ _ _ _ => pe_and (pe_call (JL.ok.mono (by decide)) hr (by rfl) JL.D.g JL.D.F.kp JL.D.b .nil pass0 (pa_cons (pv 1) (pa_cons pe_int pa_nil))) (pe_one (pe_Jw J hr (by decide) (by rfl) pass0 (pv 1))))) pa_nil)))))))
      (pss_one (ps_ret pe_bl)) pss_nil)
    (pss_one (ps_ret (pe_call GA (hr.mono (by decide)) (by rfl) DA.g DA.F.kp DA.b .nil pass0 (pa_cons (pe_lc (own := [("one", 1)]) (g := gName 1) (tt := tYes) rfl scHeadsF.nd (pi_tup (pv 0)) (blkOk_by (N := ["thing", "one"]) (sc := defScope lHeadsFit) (by decide +kernel))
        (fun _ _ _ _ _ => pg_name (i := 1) scHeadsF.nd rfl (Or.inl rfl)) (fun _ _ _ _ _ => pts_nil) (fun _ _ _ _ _ => pe_ix (show IxR _ (rIxT K) from ix_tup) (pv 1) pe_int (fun _ _ => rfl))) pa_nil)))), ?_⟩
  refine s_if (b := !isT u "tuple" || !(tv u fun us => us.all gNamed)) (et_or (et_not (et_B (ev_isi (ev_var rfl) hat))) fun q => ?_) (fun q H1 e => ?_) (fun q H1 e => ?_)
  · rw [Bool.not_eq_false'] at q
    obtain ⟨us, rfl⟩ := isT_tup q
    obtain ⟨a, xs, rfl, ha, _, hl⟩ := at_tup hat
    exact et_not (et_B (ev_allT (g := gNamed) (ev_var rfl) ha fi.len hl (fun _ => rfl) fun x u hu hx => ev_andV (a := gTO 3 u) (b := gH3 u) (ev_LM (m := 3) (ev_var rfl) (fun _ => ev_c) hx) fun q => ev_Jw (ev_var rfl) hx (fi.tup u hu) q hw))
  · refine s_ret ev_c fun H2 e2 => ?_
    have e3 : gHeads u = false := by
      cases u with
      | tup us =>
        simp [isT, isS, tyU, tv] at q
        show (us.all gNamed && _) = false
        rw [Bool.and_eq_false_iff]
        exact .inl (by simpa using q)
      | _ => rfl
    rw [← e3]
    exact k H2 (e.trans e2)
  · rw [Bool.or_eq_false_iff, Bool.not_eq_false', Bool.not_eq_false'] at q
    obtain ⟨us, rfl⟩ := isT_tup q.1
    have q2 : us.all gNamed = true := q.2
    obtain ⟨a, xs, rfl, ha, _, hl⟩ := at_tup (ex_at e hat)
    have hlen := AtL.length hl
    dsimp only [tNext]
    refine s_ret (ev_callL1 (xs := (us.map fun u => strU (nth u 0)).map V.str) (z := .bl (ascZ (us.map fun u => strU (nth u 0)))) ?_ fun p H2 h2 e2 Q q E => asc_strL h2 (by rw [List.length_map]; exact Sm.len hs) Q q E) fun H2 e2 => ?_
    · rw [← range_names _ xs.length (by rw [List.length_map]; exact hlen)]
      exact el_mapX _ (ev_var rfl) ha (by rw [hlen]; exact Sm.len hs) (fun _ => rfl) fun i x hx => by
        obtain ⟨p, ys, rfl, hp, hy⟩ := names_at hl q2 i x hx
        exact ev_ixT (j := 0) (ev_var rfl) hp hy
    · have e3 : gHeads (.tup us) = ascZ (us.map fun u => strU (nth u 0)) := by
        show (us.all gNamed && _) = _
        rw [q2]
        rfl
      rw [← e3]
      exact k H2 (e.trans e2)
/-! blocks -/
theorem scBlkF : FnScope ["thing"] ["thing"] (defScope lBlockFits) := ⟨rfl, rfl, rfl, by decide +kernel, rfl, by decide +kernel, by decide +kernel⟩
theorem pair_TO (u : U) : gTO 2 u = gPair u := by
  cases u <;> rfl
theorem jl_blkF {f f1 f2 f3 f4 : Addr} {fd d1 d2 d3 d4 : FuncData} (D : Df K mg "_law_block_fits" lBlockFits ["thing"] f fd) (S : Bs K mg C) (DL : Df K mg "_law_long" lLong ["thing", "many"] f1 d1) (JI : Jd P wd K mg base C 3 "_law_id_fits" "thing" f2 d2 gId)
    (DS : Df K mg "_law_signs_fit" lSignsFit ["thing", "least", "most"] f3 d3) (DG : Df K mg "_law_signs" sSigns [] f4 d4) : Jd P wd K mg base C 5 "_law_block_fits" "thing" f fd gBlk := by
  have GL : FnOk P wd K mg base CX0 4 f1 d1 ["thing", "many"] (spLong C) := (ok_long DL.F S).mono (by decide)
  have GF : FnOk P wd K mg base CX0 4 f3 d3 ["thing", "least", "most"] (spSF C) := (ok_signsFit DS.F S DG).mono (by decide)
  refine ⟨D.F.ok scBlkF lenJ (fun cdv A outer s H vs Q E hr h => ?_), D.g, D.F.kp, D.b⟩
  obtain ⟨v, u, w, rfl, hat, fi, k⟩ := h
  refine ⟨_, pss_one (ps_ret (pe_and (pe_call GL hr (by rfl) DL.g DL.F.kp DL.b .nil pass0 (pa_cons (pv 0) (pa_cons pe_int pa_nil))) (pe_and (pe_J JI hr (by decide) (by rfl) pass0 (pe_ix ix_tup (pv 0) pe_int (fun _ _ => rfl))) (pe_one (pe_call GF hr (by rfl) DS.g DS.F.kp DS.b .nil pass0 (pa_cons (pe_ix ix_tup (pv 0) pe_int (fun _ _ => rfl)) (pa_cons pe_int (pa_cons pe_int pa_nil)))))))), ?_⟩
  refine s_ret (ev_andV (b := gId (nth u 0) && gPiece (nth u 1)) (ev_long (ev_var rfl) hat) fun q => ?_) fun H1 e => k H1 e
  obtain ⟨a, b, rfl⟩ := gPair_two q
  obtain ⟨p, x, y, rfl, hp, ha, hb⟩ := pair_at hat
  refine ev_andV (ev_J (ev_ixT (j := 0) (ev_var rfl) hp rfl) ha fi.fst) fun _ => ev_is (ev_call (ea_cons (ev_ixT (j := 1) (ev_var rfl) hp rfl) (ea_cons ev_c (ea_cons ev_c ea_nil))) (spv_SF (lo := 1) (hi := 8) hb fi.snd)) ?_
  rw [sf_piece fi.snd]
  rfl
theorem scBlocksF : FnScope ["thing", "one"] ["thing"] (defScope lBlocksFit) := ⟨rfl, rfl, rfl, by decide +kernel, rfl, by decide +kernel, by decide +kernel⟩
theorem jl_blocksF {f f1 f2 : Addr} {fd d1 d2 : FuncData} (D : Df K mg "_law_blocks_fit" lBlocksFit ["thing"] f fd) (S : Bs K mg C) (J : Jd P wd K mg base C 5 "_law_block_fits" "thing" f1 d1 gBlk) (DA : Df K mg "_law_rising" lRising ["things"] f2 d2) :
    Jw P wd K mg base C 6 "_law_blocks_fit" "thing" f fd Sm gBlocks := by
  refine ⟨D.F.ok scBlocksF lenJw (fun cdv A outer s H vs Q E hr h => ?_), D.g, D.F.kp, D.b⟩
  obtain ⟨v, u, w, rfl, hat, fi, hs, hw, k⟩ := h
  have GA : FnOk P wd K mg base CX0 5 f2 d2 ["things"] (spAscG K (rIxL K) (Hk.rLtK K)) := (ok_risK DA.F S.B).mono (by decide)
  refine ⟨_, pss_cons (ps_if (PW.pt (pw_or (pt_not (pt_val (pe_isiX S (by rfl) (by rfl) S.B.tup boot_tuple' (by decide) (pv 0) (by decide) (by decide))))
      (pw_or1 (pt_not (pt_val (pe_callB (cr_all rfl) (by rfl) S.B.all boot_all' (pa_cons (pe_lc (own := [("one", 1)]) (g := gName 1) (tt := tYes) rfl scBlocksF.nd (pi_tup (pv 0)) (blkOk_by (N := ["thing", "one"]) (sc := defScope lBlocksFit) (by decide +kernel))
        (fun _ _ _ _ _ => pg_name (i := 1) scBlocksF.nd rfl (Or.inl rfl)) (fun _ _ _ _ _ => pts_nil) (fun _ _ _ _ _ => pe_J J hr (by decide) (by rfl) pass0 (pv 1))) pa_nil)))))))
      (pss_one (ps_ret pe_bl)) pss_nil)
    (pss_one (ps_ret (pe_call GA (hr.mono (by decide)) (by rfl) DA.g DA.F.kp DA.b .nil pass0 (pa_cons (pe_lc (own := [("one", 1)]) (g := gName 1) (tt := tYes) rfl scBlocksF.nd (pi_tup (pv 0)) (blkOk_by (N := ["thing", "one"]) (sc := defScope lBlocksFit) (by decide +kernel))
        (fun _ _ _ _ _ => pg_name (i := 1) scBlocksF.nd rfl (Or.inl rfl)) (fun _ _ _ _ _ => pts_nil) (fun _ _ _ _ _ => pe_ix (show IxR _ (rIxT K) from ix_tup) (pv 1) pe_int (fun _ _ => rfl))) pa_nil)))), ?_⟩
  refine s_if (b := !isT u "tuple" || !(tv u fun us => us.all gBlk)) (et_or (et_not (et_B (ev_isi (ev_var rfl) hat))) fun q => ?_) (fun q H1 e => ?_) (fun q H1 e => ?_)
  · rw [Bool.not_eq_false'] at q
    obtain ⟨us, rfl⟩ := isT_tup q
    obtain ⟨a, xs, rfl, ha, _, hl⟩ := at_tup hat
    exact et_not (et_B (ev_allT (g := gBlk) (ev_var rfl) ha fi.len hl (fun _ => rfl) fun x u hu hx => ev_J (ev_var rfl) hx (fi.tup u hu)))
  · refine s_ret ev_c fun H2 e2 => ?_
    have e3 : gBlocks u = false := by
      cases u with
      | tup us =>
        simp [isT, isS, tyU, tv] at q
        show (us.all gBlk && _) = false
        rw [Bool.and_eq_false_iff]
        exact .inl (by simpa using q)
      | _ => rfl
    rw [← e3]
    exact k H2 (e.trans e2)
  · rw [Bool.or_eq_false_iff, Bool.not_eq_false', Bool.not_eq_false'] at q
    obtain ⟨us, rfl⟩ := isT_tup q.1
    have q2 : us.all gBlk = true := q.2
    obtain ⟨a, xs, rfl, ha, _, hl⟩ := at_tup (ex_at e hat)
    dsimp only [tNext]
    refine s_ret (v := .bl (ascK (us.map fun u => keysU (nth u 0)))) (ev_callX (R := fun ys G => TkL G ys (us.map fun u => keysU (nth u 0))) (lc_newK (K := K) (tl := tVar 0) (j := 1) (vs := [1]) (σ := [some (.ref a), none]) (f := fun u => keysU (nth u 0)) (ev_var rfl) ha (Sm.len hs) hl (fun _ => rfl) (fun x u G hu eg hx Q q => ?_)) fun p ys H3 h3 ht Q q E =>
      asc_tkL h3 ht (kin_blks q2) (by rw [List.length_map]; exact Sm.len hs) Q q E) fun H2 e2 => ?_
    · obtain ⟨i, j, b, rfl⟩ := gBlk_is (List.all_eq_true.mp q2 u hu)
      obtain ⟨p, x1, y1, rfl, hp, hx1, _⟩ := pair_at hx
      obtain ⟨p1, rfl, hp1⟩ := two_ints hx1
      exact ev_ixT (K := K) (j := 0) (te := tVar 1) (ev_var rfl) hp rfl G (Ex.refl G) Q fun H5 e5 => q p1 H5 e5 (e5 _ _ hp1)
    · have e3 : gBlocks (.tup us) = ascK (us.map fun u => keysU (nth u 0)) := by
        show (us.all gBlk && _) = _
        rw [q2]
        rfl
      rw [← e3]
      exact k H2 (e.trans e2)
/-! leases -/
theorem scLeaseF : FnScope ["thing"] ["thing"] (defScope lLeaseFits) := ⟨rfl, rfl, rfl, by decide +kernel, rfl, by decide +kernel, by decide +kernel⟩
theorem jl_leaseF {f f1 f2 f3 f4 : Addr} {fd d1 d2 d3 d4 : FuncData} (D : Df K mg "_law_lease_fits" lLeaseFits ["thing"] f fd) (S : Bs K mg C) (JT : JLo P wd K mg base C f1 d1) (JN : Jd P wd K mg base C 2 "_law_name_fits" "thing" f2 d2 gNam)
    (JH : Jd P wd K mg base C 2 "_law_hand_fits" "thing" f3 d3 gHand) (JC : Jd P wd K mg base C 1 "_law_count" "thing" f4 d4 gCnt) : Jd P wd K mg base C 3 "_law_lease_fits" "thing" f fd gLease := by
  refine ⟨D.F.ok scLeaseF lenJ (fun cdv A outer s H vs Q E hr h => ?_), D.g, D.F.kp, D.b⟩
  obtain ⟨v, u, w, rfl, hat, fi, k⟩ := h
  refine ⟨_, pss_cons (ps_if (PW.pt (pw_or (pt_not (pt_val (pe_call JT.ok (hr.mono (by decide)) (by rfl) JT.D.g JT.D.F.kp JT.D.b .nil pass0 (pa_cons (pv 0) (pa_cons pe_int pa_nil)))))
      (pw_or (pt_not (pt_val (pe_J JN hr (by decide) (by rfl) pass0 (pe_ix ix_tup (pv 0) pe_int (fun _ _ => rfl))))) (pw_or1 (pt_not (pt_val (pe_J JH hr (by decide) (by rfl) pass0 (pe_ix ix_tup (pv 0) pe_int (fun _ _ => rfl)))))))))
      (pss_one (ps_ret pe_bl)) pss_nil)
    (pss_one (ps_ret (pe_and (pe_J JC hr (by decide) (by rfl) pass0 (pe_ix ix_tup (pv 0) pe_int (fun _ _ => rfl))) (pe_one (pe_J JC hr (by decide) (by rfl) pass0 (pe_ix ix_tup (pv 0) pe_int (fun _ _ => rfl))))))), ?_⟩
  refine s_if (b := !gTO 4 u || (!gNam (nth u 0) || !gHand (nth u 1))) (et_or (et_not (et_B (ev_LM (m := 4) (ev_var rfl) (fun _ => ev_c) hat))) fun q => ?_) (fun q H1 e => ?_) (fun q H1 e => ?_)
  · rw [Bool.not_eq_false'] at q
    obtain ⟨x0, e0, h0⟩ := ev_nth (K := K) (σ := [some v]) (te := tVar 0) (k := 0) (ev_var rfl) hat q (by decide)
    obtain ⟨x1, e1, h1⟩ := ev_nth (K := K) (σ := [some v]) (te := tVar 0) (k := 1) (ev_var rfl) hat q (by decide)
    exact et_or (et_not (et_B (ev_J e0 h0 (fine_nth q (by decide) fi)))) fun _ => et_not (et_B (ev_J e1 h1 (fine_nth q (by decide) fi)))
  · refine s_ret ev_c fun H2 e2 => ?_
    have e4 : gLease u = false := by
      unfold gLease
      revert q
      cases gTO 4 u <;> cases gNam (nth u 0) <;> cases gHand (nth u 1) <;> simp
    rw [← e4]
    exact k H2 (e.trans e2)
  · have q' : gTO 4 u = true ∧ gNam (nth u 0) = true ∧ gHand (nth u 1) = true := by
      revert q
      cases gTO 4 u <;> cases gNam (nth u 0) <;> cases gHand (nth u 1) <;> simp
    obtain ⟨q1, q2, q3⟩ := q'
    have hat1 := ex_at e hat
    obtain ⟨x2, e2, h2⟩ := ev_nth (K := K) (σ := [some v]) (te := tVar 0) (k := 2) (ev_var rfl) hat1 q1 (by decide)
    obtain ⟨x3, e3, h3⟩ := ev_nth (K := K) (σ := [some v]) (te := tVar 0) (k := 3) (ev_var rfl) hat1 q1 (by decide)
    dsimp only [tNext]
    refine s_ret (ev_andV (ev_J e2 h2 (fine_nth q1 (by decide) fi)) fun _ => ev_J e3 h3 (fine_nth q1 (by decide) fi)) fun H2 e2 => ?_
    have e4 : gLease u = (gCnt (nth u 2) && gCnt (nth u 3)) := by
      unfold gLease
      rw [q1, q2, q3]
      rfl
    rw [← e4]
    exact k H2 (e.trans e2)
end
end Hs
/-! the law's own judge of a table -/
namespace Hs
open PySem PySem.Spec PyProof.Rows L2 Hu Evl
section
variable {P : Program} {wd : World} {K : PySem.W.Frag} {mg : Str → Option Value} {base : Heap} {C : Addr}
def gV2 (u : U) : Bool := tv u fun us => two us fun a b => gStamp a && gMembers b
theorem scVoteF : FnScope ["thing"] ["thing"] (defScope lVoteFits) := ⟨rfl, rfl, rfl, by decide +kernel, rfl, by decide +kernel, by decide +kernel⟩
theorem jl_voteF {f f1 f2 f3 : Addr} {fd d1 d2 d3 : FuncData} (D : Df K mg "_law_vote_fits" lVoteFits ["thing"] f fd) (S : Bs K mg C) (DL : Df K mg "_law_long" lLong ["thing", "many"] f1 d1) (JS : Jd P wd K mg base C 3 "_law_stamp_fits" "thing" f2 d2 gStamp)
    (JM : Jd P wd K mg base C 4 "_law_members_fit" "thing" f3 d3 gMembers) : Jd P wd K mg base C 5 "_law_vote_fits" "thing" f fd gV2 := by
  have GL : FnOk P wd K mg base CX0 4 f1 d1 ["thing", "many"] (spLong C) := (ok_long DL.F S).mono (by decide)
  refine ⟨D.F.ok scVoteF lenJ (fun cdv A outer s H vs Q E hr h => ?_), D.g, D.F.kp, D.b⟩
  obtain ⟨v, u, w, rfl, hat, fi, k⟩ := h
  refine ⟨_, pss_one (ps_ret (pe_and (pe_call GL hr (by rfl) DL.g DL.F.kp DL.b .nil pass0 (pa_cons (pv 0) (pa_cons pe_int pa_nil))) (pe_and (pe_J JS hr (by decide) (by rfl) pass0 (pe_ix ix_tup (pv 0) pe_int (fun _ _ => rfl))) (pe_one (pe_J JM hr (by decide) (by rfl) pass0 (pe_ix ix_tup (pv 0) pe_int (fun _ _ => rfl))))))), ?_⟩
  refine s_ret (ev_andV (b := gV2 u) (ev_long (ev_var rfl) hat) fun q => ?_) fun H1 e => ?_
  · obtain ⟨a, b, rfl⟩ := gPair_two q
    obtain ⟨p, x, y, rfl, hp, ha, hb⟩ := pair_at hat
    exact ev_andV (ev_J (ev_ixT (j := 0) (ev_var rfl) hp rfl) ha fi.fst) fun _ => ev_J (ev_ixT (j := 1) (ev_var rfl) hp rfl) hb fi.snd
  · unfold gV2
    rw [pair_and]
    exact k H1 e
theorem scAheadF : FnScope ["thing"] ["thing"] (defScope lAheadFits) := ⟨rfl, rfl, rfl, by decide +kernel, rfl, by decide +kernel, by decide +kernel⟩
theorem nil_TO (u : U) : gTO 0 u = nilU u := by
  cases u with
  | tup us => cases us <;> rfl
  | _ => rfl
theorem jl_aheadF {f f1 f3 : Addr} {fd d1 d3 : FuncData} (D : Df K mg "_law_ahead_fits" lAheadFits ["thing"] f fd) (S : Bs K mg C) (JL : JLo P wd K mg base C f1 d1) (JM : Jd P wd K mg base C 4 "_law_members_fit" "thing" f3 d3 gMembers) : Jd P wd K mg base C 5 "_law_ahead_fits" "thing" f fd gAhead := by
  refine ⟨D.F.ok scAheadF lenJ (fun cdv A outer s H vs Q E hr h => ?_), D.g, D.F.kp, D.b⟩
  obtain ⟨v, u, w, rfl, hat, fi, k⟩ := h
  refine ⟨_, pss_one (ps_ret (pe_or (pe_call (JL.ok.mono (by decide)) hr (by rfl) JL.D.g JL.D.F.kp JL.D.b .nil pass0 (pa_cons (pv 0) (pa_cons pe_int pa_nil))) (pe_one (pe_J JM hr (by decide) (by rfl) pass0 (pv 0))))), ?_⟩
  refine s_ret (ev_orV (a := gTO 0 u) (ev_LM (m := 0) (ev_var rfl) (fun _ => ev_c) hat) fun _ => ev_J (ev_var rfl) hat fi) fun H1 e => ?_
  rw [nil_TO]
  exact k H1 e
end
end Hs
/-! the law's own judges of machines and lots -/
namespace Hs
open PySem PySem.Spec PyProof.Rows L2 Hu Evl
abbrev lMachFits : Stmt := topS 95
abbrev lIdsFit : Stmt := topS 96
abbrev lNamesFit : Stmt := topS 97
abbrev lCountsFit : Stmt := topS 98
abbrev lManyFits : Stmt := topS 99
abbrev lNamedFits : Stmt := topS 100
abbrev lToHomeF : Stmt := topS 101
abbrev lBetweenF : Stmt := topS 102
abbrev lVotingF : Stmt := topS 103
abbrev lToHandF : Stmt := topS 104
abbrev lLetterF : Stmt := topS 105
section
variable {P : Program} {wd : World} {K : PySem.W.Frag} {mg : Str → Option Value} {base : Heap} {C : Addr}
theorem ok_risZT {f : Addr} {fd : FuncData} (F : Fun K "_law_rising" "_law_rising" lRising f fd) (B : Bt mg) : FnOk P wd K mg base CX0 1 f fd ["things"] (spAscG K (rIxT K) rLtS) :=
  ok_risG F B (fun X e => e ▸ ix_tup) (fun X e _ => op_lt_str)
theorem ok_risKT {f : Addr} {fd : FuncData} (F : Fun K "_law_rising" "_law_rising" lRising f fd) (B : Bt mg) : FnOk P wd K mg base CX0 1 f fd ["things"] (spAscG K (rIxT K) (Hk.rLtK K)) :=
  ok_risG F B (fun X e => e ▸ ix_tup) (fun X e h => e ▸ Hk.op_ltK (by omega))
theorem scNamesF : FnScope ["thing", "one"] ["thing"] (defScope lNamesFit) := ⟨rfl, rfl, rfl, by decide +kernel, rfl, by decide +kernel, by decide +kernel⟩
theorem jl_namesF {f f1 f2 : Addr} {fd d1 d2 : FuncData} (D : Df K mg "_law_names_fit" lNamesFit ["thing"] f fd) (S : Bs K mg C) (J : Jd P wd K mg base C 2 "_law_name_fits" "thing" f1 d1 gNam) (DA : Df K mg "_law_rising" lRising ["things"] f2 d2) : Jw P wd K mg base C 6 "_law_names_fit" "thing" f fd Sm gNames := by
  refine ⟨D.F.ok scNamesF lenJw (fun cdv A outer s H vs Q E hr h => ?_), D.g, D.F.kp, D.b⟩
  obtain ⟨v, u, w, rfl, hat, fi, hs, hw, k⟩ := h
  have GA : FnOk P wd K mg base CX0 5 f2 d2 ["things"] (spAscG K (rIxT K) rLtS) := (ok_risZT DA.F S.B).mono (by decide)
  refine ⟨_, pss_one (ps_ret (pe_and (pe_isiX S (by rfl) (by rfl) S.B.tup boot_tuple' (by decide) (pv 0) (by decide) (by decide)) (pe_and (pe_callB (cr_all rfl) (by rfl) S.B.all boot_all' (pa_cons (pe_lc (own := [("one", 1)]) (g := gName 1) (tt := tYes) rfl scNamesF.nd (pi_tup (pv 0)) (blkOk_by (N := ["thing", "one"]) (sc := defScope lNamesFit) (by decide +kernel))
        (fun _ _ _ _ _ => pg_name (i := 1) scNamesF.nd rfl (Or.inl rfl)) (fun _ _ _ _ _ => pts_nil) (fun _ _ _ _ _ => pe_J J hr (by decide) (by rfl) pass0 (pv 1))) pa_nil))
      (pe_one (pe_call GA hr (by rfl) DA.g DA.F.kp DA.b .nil pass0 (pa_cons (pv 0) pa_nil)))))), ?_⟩
  refine s_ret (ev_andV (b := gNames u) (ev_isi (ev_var rfl) hat) fun q => ?_) fun H1 e => ?_
  · obtain ⟨us, rfl⟩ := isT_tup q
    obtain ⟨a, xs, rfl, ha, _, hl⟩ := at_tup hat
    refine ev_andV (a := us.all gNam) (b := ascZ (us.map strU)) (ev_allT (g := gNam) (ev_var rfl) ha fi.len hl (fun _ => rfl) fun x u hu hx => ev_J (ev_var rfl) hx (fi.tup u hu)) fun q2 => ?_
    have hx := names_str hl q2
    exact ev_callV (ev_var rfl) fun H1 e Q f E => asc_strT (zs := us.map strU) (by rw [← hx]; exact e _ _ ha) (by rw [List.length_map]; exact Sm.len hs) Q f E
  · have : (isT u "tuple" && gNames u) = gNames u := by
      cases u with
      | tup us => show (isT (.tup us) "tuple" && _) = _; rw [show isT (.tup us) "tuple" = true by simp [isT, isS, tyU], Bool.true_and]
      | _ => unfold gNames tv; rw [Bool.and_false]
    rw [this]
    exact k H1 e
theorem scIdsF : FnScope ["thing", "one"] ["thing"] (defScope lIdsFit) := ⟨rfl, rfl, rfl, by decide +kernel, rfl, by decide +kernel, by decide +kernel⟩
theorem jl_idsF {f f1 f2 : Addr} {fd d1 d2 : FuncData} (D : Df K mg "_law_ids_fit" lIdsFit ["thing"] f fd) (S : Bs K mg C) (J : Jd P wd K mg base C 3 "_law_id_fits" "thing" f1 d1 gId) (DA : Df K mg "_law_rising" lRising ["things"] f2 d2) : Jw P wd K mg base C 6 "_law_ids_fit" "thing" f fd Sm gIds := by
  refine ⟨D.F.ok scIdsF lenJw (fun cdv A outer s H vs Q E hr h => ?_), D.g, D.F.kp, D.b⟩
  obtain ⟨v, u, w, rfl, hat, fi, hs, hw, k⟩ := h
  have GA : FnOk P wd K mg base CX0 5 f2 d2 ["things"] (spAscG K (rIxT K) (Hk.rLtK K)) := (ok_risKT DA.F S.B).mono (by decide)
  refine ⟨_, pss_one (ps_ret (pe_and (pe_isiX S (by rfl) (by rfl) S.B.tup boot_tuple' (by decide) (pv 0) (by decide) (by decide)) (pe_and (pe_callB (cr_all rfl) (by rfl) S.B.all boot_all' (pa_cons (pe_lc (own := [("one", 1)]) (g := gName 1) (tt := tYes) rfl scIdsF.nd (pi_tup (pv 0)) (blkOk_by (N := ["thing", "one"]) (sc := defScope lIdsFit) (by decide +kernel))
        (fun _ _ _ _ _ => pg_name (i := 1) scIdsF.nd rfl (Or.inl rfl)) (fun _ _ _ _ _ => pts_nil) (fun _ _ _ _ _ => pe_J J hr (by decide) (by rfl) pass0 (pv 1))) pa_nil))
      (pe_one (pe_call GA hr (by rfl) DA.g DA.F.kp DA.b .nil pass0 (pa_cons (pv 0) pa_nil)))))), ?_⟩
  refine s_ret (ev_andV (b := gIds u) (ev_isi (ev_var rfl) hat) fun q => ?_) fun H1 e => ?_
  · obtain ⟨us, rfl⟩ := isT_tup q
    obtain ⟨a, xs, rfl, ha, _, hl⟩ := at_tup hat
    refine ev_andV (a := us.all gId) (b := ascK (us.map keysU)) (ev_allT (g := gId) (ev_var rfl) ha fi.len hl (fun _ => rfl) fun x u hu hx => ev_J (ev_var rfl) hx (fi.tup u hu)) fun q2 => ?_
    exact ev_callV (ev_var rfl) fun H1 e Q f E => asc_tkT (e _ _ ha) (ids_tk (ex_atl e hl) q2) (kin_ids q2) (by rw [List.length_map]; exact Sm.len hs) Q f E
  · have : (isT u "tuple" && gIds u) = gIds u := by
      cases u with
      | tup us => show (isT (.tup us) "tuple" && _) = _; rw [show isT (.tup us) "tuple" = true by simp [isT, isS, tyU], Bool.true_and]
      | _ => unfold gIds tv; rw [Bool.and_false]
    rw [this]
    exact k H1 e
theorem scCountsF : FnScope ["thing", "most", "one"] ["thing", "most"] (defScope lCountsFit) := ⟨rfl, rfl, rfl, by decide +kernel, rfl, by decide +kernel, by decide +kernel⟩
theorem ok_countsF {f f1 : Addr} {fd d1 : FuncData} (D : Df K mg "_law_counts_fit" lCountsFit ["thing", "most"] f fd) (S : Bs K mg C) (J : Jd P wd K mg base C 1 "_law_count" "thing" f1 d1 gCount) : FnOk P wd K mg base CX0 3 f fd ["thing", "most"] (spCts C) := by
  refine D.F.ok scCountsF (fun vs H Q E h => ?_) (fun cdv A outer s H vs Q E hr h => ?_)
  · obtain ⟨v, u, w, m, rfl, _⟩ := h
    rfl
  obtain ⟨v, u, w, m, rfl, hat, fi, k⟩ := h
  refine ⟨_, pss_one (ps_ret (pe_and (pe_isiX S (by rfl) (by rfl) S.B.tup boot_tuple' (by decide) (pv 0) (by decide) (by decide)) (pe_and (pe_cmpR op_le (pe_callB call_len_seq (by rfl) S.B.len PySem.boot_len (pa_cons (pv 0) pa_nil)) (pv 1) (nomark _))
      (pe_one (pe_callB (cr_all rfl) (by rfl) S.B.all boot_all' (pa_cons (pe_lc (own := [("one", 2)]) (g := gName 2) (tt := tYes) rfl scCountsF.nd (pi_tup (pv 0)) (blkOk_by (N := ["thing", "most", "one"]) (sc := defScope lCountsFit) (by decide +kernel))
        (fun _ _ _ _ _ => pg_name (i := 2) scCountsF.nd rfl (Or.inl rfl)) (fun _ _ _ _ _ => pts_nil) (fun _ _ _ _ _ => pe_J J hr (by decide) (by rfl) pass0 (pv 2))) pa_nil)))))), ?_⟩
  refine s_ret (ev_andV (b := gCounts m u) (ev_isi (ev_var rfl) hat) fun q => ?_) fun H1 e => ?_
  · obtain ⟨us, rfl⟩ := isT_tup q
    obtain ⟨a, xs, rfl, ha, _, hl⟩ := at_tup hat
    refine ev_andV (a := decide (us.length ≤ m)) (b := us.all gCount) (ev_is (ev_op (ev_lenTU (K := K) (ev_var rfl) ha hl) (ev_var rfl) rv_I0) ?_) fun q2 => ev_allT (g := gCount) (ev_var rfl) ha fi.len hl (fun _ => rfl) fun x u hu hx => ev_J (ev_var rfl) hx (fi.tup u hu)
    congr 1
    exact decide_eq_decide.mpr (by omega)
  · have : (isT u "tuple" && gCounts m u) = gCounts m u := by
      cases u with
      | tup us => show (isT (.tup us) "tuple" && _) = _; rw [show isT (.tup us) "tuple" = true by simp [isT, isS, tyU], Bool.true_and]
      | _ => unfold gCounts tv; rw [Bool.and_false]
    rw [this]
    exact k H1 e
end
end Hs
/-! the law's own judges of machines, of many -/
namespace Hs
open PySem PySem.Spec PyProof.Rows L2 Hu Evl
section
variable {P : Program} {wd : World} {K : PySem.W.Frag} {mg : Str → Option Value} {base : Heap} {C : Addr}
theorem scMachF : FnScope ["thing"] ["thing"] (defScope lMachFits) := ⟨rfl, rfl, rfl, by decide +kernel, rfl, by decide +kernel, by decide +kernel⟩
theorem jl_machF {f f1 f2 f3 : Addr} {fd d1 d2 d3 : FuncData} (D : Df K mg "_law_machine_fits" lMachFits ["thing"] f fd) (S : Bs K mg C) (DL : Df K mg "_law_long" lLong ["thing", "many"] f1 d1) (JC : Jd P wd K mg base C 1 "_law_count" "thing" f2 d2 gCount) (JH : Jd P wd K mg base C 2 "_law_hand_fits" "thing" f3 d3 gHand) :
    Jd P wd K mg base C 3 "_law_machine_fits" "thing" f fd gMach := by
  have GL : FnOk P wd K mg base CX0 2 f1 d1 ["thing", "many"] (spLong C) := (ok_long DL.F S).mono (by decide)
  refine ⟨D.F.ok scMachF lenJ (fun cdv A outer s H vs Q E hr h => ?_), D.g, D.F.kp, D.b⟩
  obtain ⟨v, u, w, rfl, hat, fi, k⟩ := h
  refine ⟨_, pss_cons (ps_if (PW.pt (pw_or (pt_not (pt_val (pe_call GL hr (by rfl) DL.g DL.F.kp DL.b .nil pass0 (pa_cons (pv 0) (pa_cons pe_int pa_nil))))) (pw_or (pt_not (pt_val (pe_isiX S (by rfl) (by rfl) S.B.str boot_str (by decide) (pe_ix ix_tup (pv 0) pe_int (fun _ _ => rfl)) (by decide) (by decide)))) (pw_or1 (pt_not (pt_val (pe_J JC hr (by decide) (by rfl) pass0 (pe_ix ix_tup (pv 0) pe_int (fun _ _ => rfl))))))))) (pss_one (ps_ret pe_bl)) pss_nil)
    (pss_one (ps_ret (pe_or (pe_and (pe_cmpR op_eq (pe_ix ix_tup (pv 0) pe_int (fun _ _ => rfl)) pe_str (nomark _)) (pe_one (pe_cmpR op_le (pe_ix ix_tup (pv 0) pe_int (fun _ _ => rfl)) pe_int (nomark _))))
      (pe_one (pe_and (pe_cmpR op_eq (pe_ix ix_tup (pv 0) pe_int (fun _ _ => rfl)) pe_str (nomark _)) (pe_one (pe_J JH hr (by decide) (by rfl) pass0 (pe_ix ix_tup (pv 0) pe_int (fun _ _ => rfl))))))))), ?_⟩
  refine q_when (b := !gPair u || (!isT (nth u 0) "str" || !gCount (nth u 1))) (et_or (et_not (et_B (ev_long (ev_var rfl) hat))) fun q => ?_) (fun q H1 e => ?_) (fun q H1 e => ?_)
  · rw [Bool.not_eq_false'] at q
    obtain ⟨a, b, rfl⟩ := gPair_two q
    obtain ⟨p, x, y, rfl, hp, ha, hb⟩ := pair_at hat
    exact et_or (et_not (et_B (ev_isi (ev_ixT (j := 0) (ev_var rfl) hp rfl) ha))) fun _ => et_not (et_B (ev_J (ev_ixT (j := 1) (ev_var rfl) hp rfl) hb fi.snd))
  · refine s_ret ev_c fun H2 e2 => ?_
    have e3 : gMach u = false := by
      unfold gMach
      cases hP : gPair u with
      | false => rfl
      | true =>
        obtain ⟨a, b, rfl⟩ := gPair_two hP
        rw [hP] at q
        have q' : (!isT a "str" || !gCount b) = true := q
        show (true && ((isZ "home" a && gHome b) || (isZ "hand" a && gHand b))) = false
        cases a with
        | str z =>
          have hs : isT (.str z) "str" = true := by simp [isT, isS, tyU]
          rw [hs] at q'
          have hb : gCount b = false := by simpa using q'
          have h1 : gHome b = false := by
            cases b with
            | int i =>
              have : ¬ 0 ≤ i := of_decide_eq_false hb
              show (decide (0 ≤ i) && _) = false
              rw [decide_eq_false this]
              rfl
            | _ => rfl
          have h2 : gHand b = false := by
            cases b with
            | int i =>
              have : ¬ 0 ≤ i := of_decide_eq_false hb
              show (decide (1 ≤ i) && _) = false
              rw [decide_eq_false (show ¬ 1 ≤ i by omega)]
              rfl
            | _ => rfl
          rw [h1, h2, Bool.and_false, Bool.and_false]
          rfl
        | _ => rfl
    rw [← e3]
    exact k H2 (e.trans e2)
  · obtain ⟨hP, hS, hC⟩ : gPair u = true ∧ isT (nth u 0) "str" = true ∧ gCount (nth u 1) = true := by
      revert q
      cases gPair u <;> cases isT (nth u 0) "str" <;> cases gCount (nth u 1) <;> simp
    obtain ⟨a, b, rfl⟩ := gPair_two hP
    obtain ⟨p, x, y, rfl, hp, ha, hb⟩ := pair_at (ex_at e hat)
    have hC' : gCount b = true := hC
    obtain ⟨i, rfl, hi⟩ := gCount_int hC'
    have hz : ∃ z, a = .str z := by
      have hS' : isT a "str" = true := hS
      cases a with
      | str z => exact ⟨z, rfl⟩
      | _ => exact absurd hS' (by simp [isT, isS, tyU])
    obtain ⟨z, rfl⟩ := hz
    have hx := at_str ha
    have hy := at_int hb
    subst hx hy
    have hZ : ∀ (c y : Str), decide (V.str c = V.str y) = isZ y (.str c) := fun c y => by
      show _ = (c == y)
      rw [Bool.eq_iff_iff]
      simp
    have e3 : gMach (.tup [.str z, .int i]) = ((isZ "home" (.str z) && decide (i ≤ 8)) || (isZ "hand" (.str z) && gHand (.int i))) := by
      have h8 : gHome (.int i) = decide (i ≤ 8) := by
        show (decide (0 ≤ i) && decide (i < 9)) = decide (i ≤ 8)
        rw [decide_eq_true hi, Bool.true_and]
        exact decide_eq_decide.mpr (by omega)
      show ((isZ "home" (.str z) && gHome (.int i)) || _) = _
      rw [h8]
      rfl
    rw [e3] at k
    exact s_ret (ev_orV (ev_andV (ev_is (ev_op (ev_ixT (j := 0) (ev_var rfl) hp rfl) ev_c (rv_eq rfl)) (by rw [hZ])) fun _ => ev_op (ev_ixT (j := 1) (ev_var rfl) hp rfl) ev_c rv_I0) fun _ => ev_andV (ev_is (ev_op (ev_ixT (j := 0) (ev_var rfl) hp rfl) ev_c (rv_eq rfl)) (by rw [hZ])) fun _ => ev_J (ev_ixT (j := 1) (ev_var rfl) hp rfl) hb fi.snd) fun H2 e2 => k H2 (e.trans e2)
theorem scManyF : FnScope ["thing"] ["thing"] (defScope lManyFits) := ⟨rfl, rfl, rfl, by decide +kernel, rfl, by decide +kernel, by decide +kernel⟩
theorem jl_manyF {f f2 : Addr} {fd d2 : FuncData} (D : Df K mg "_law_many_fits" lManyFits ["thing"] f fd) (JC : Jd P wd K mg base C 1 "_law_count" "thing" f2 d2 gCount) : Jd P wd K mg base C 2 "_law_many_fits" "thing" f fd gMany := by
  refine ⟨D.F.ok scManyF lenJ (fun cdv A outer s H vs Q E hr h => ?_), D.g, D.F.kp, D.b⟩
  obtain ⟨v, u, w, rfl, hat, fi, k⟩ := h
  refine ⟨_, pss_one (ps_ret (pe_and (pe_J JC hr (by decide) (by rfl) pass0 (pv 0)) (pe_and (pe_cmpR op_le pe_int (pv 0) (nomark _)) (pe_one (pe_cmpR op_le (pv 0) pe_int (nomark _)))))), ?_⟩
  refine s_ret (ev_andV (b := gMany u) (ev_J (ev_var rfl) hat fi) fun q => ?_) fun H1 e => ?_
  · obtain ⟨i, rfl, _⟩ := gCount_int q
    cases at_int hat
    exact ev_andV (ev_op ev_c (ev_var rfl) rv_I0) fun _ => ev_op (ev_var rfl) ev_c rv_I0
  · have e3 : (gCount u && gMany u) = gMany u := by
      cases u with
      | int i =>
        show (decide (0 ≤ i) && (decide (1 ≤ i) && decide (i ≤ 64))) = (decide (1 ≤ i) && decide (i ≤ 64))
        by_cases h : 1 ≤ i
        · rw [decide_eq_true h, decide_eq_true (show 0 ≤ i by omega)]
          rfl
        · rw [decide_eq_false h, Bool.false_and, Bool.and_false]
      | _ => rfl
    rw [e3]
    exact k H1 e
end
end Hs
/-! the law's own judges of letters, word by word -/
namespace Hs
open PySem PySem.Spec PyProof.Rows L2 Hu Evl
section
variable {P : Program} {wd : World} {K : PySem.W.Frag} {mg : Str → Option Value} {base : Heap} {C : Addr}
variable {σ : L2.St} {H : Hp} {te : TE} {v : V} {u : U} {w : Addr} {E : XK} {m k : Nat}
theorem ev_Jn {g : U → Bool} (h : Ev te σ H v) (hat : At w C H v u) (fi : Fine u) (hm : gTO m u = true) (hk : k < m) : Ev (tCall (spJ C g) [] E (tCons (tOp (rIxT K) te (tC (.int (k : Int)))) tNil)) σ H (.bl (g (nth u k))) := by
  obtain ⟨x, ex, ax⟩ := ev_nth (K := K) h hat hm hk
  exact ev_J ex ax (fine_nth hm hk fi)
theorem ev_Jwn {g : U → Bool} (h : Ev te σ H v) (hat : At w C H v u) (fi : Fine u) (hs : Sm u) (hw : ∃ o, H w = some o) (hm : gTO m u = true) (hk : k < m) : Ev (tCall (spJw C Sm g) [] E (tCons (tOp (rIxT K) te (tC (.int (k : Int)))) tNil)) σ H (.bl (g (nth u k))) := by
  obtain ⟨x, ex, ax⟩ := ev_nth (K := K) h hat hm hk
  exact ev_Jw ex ax (fine_nth hm hk fi) (sm_nthK hs k) hw
theorem ev_Cn {l : Nat} (h : Ev te σ H v) (hat : At w C H v u) (fi : Fine u) (hm : gTO m u = true) (hk : k < m) : Ev (tCall (spCts C) [] E (tCons (tOp (rIxT K) te (tC (.int (k : Int)))) (tCons (tC (.int (l : Int))) tNil))) σ H (.bl (gCounts l (nth u k))) := by
  obtain ⟨x, ex, ax⟩ := ev_nth (K := K) h hat hm hk
  exact ev_call (ea_cons ex (ea_cons ev_c ea_nil)) fun G eg Q q E => ⟨x, nth u k, w, l, rfl, ex_at eg ax, fine_nth hm hk fi, q⟩
theorem ev_nonN (h : Ev te σ H v) (hat : At w C H v u) (hm : gTO m u = true) (hk : k < m) : Ev (tOp rIsN (tOp (rIxT K) te (tC (.int (k : Int)))) (tC .non)) σ H (.bl (isNon (nth u k))) := by
  obtain ⟨x, ex, ax⟩ := ev_nth (K := K) h hat hm hk
  exact ev_is (ev_isN ex) (by rw [at_non ax])
theorem ev_len0 {us : List U} (h : Ev te σ H v) (hat : At w C H v (.tup us)) : Ev (tOp rEq (tCB (rLenQ K) (tCons te tNil)) (tC (.int 0))) σ H (.bl (gTO 0 (.tup us))) := by
  obtain ⟨a, xs, rfl, ha, _, hl⟩ := at_tup hat
  refine ev_is (ev_op (ev_lenTU (K := K) h ha hl) ev_c (rv_eq rfl)) ?_
  rw [show (0 : Int) = ((0 : Nat) : Int) from rfl, dec_eq]
  rfl
/-- a flag of a word and a tuple -/
def spWR (C : Addr) (g : Str → U → Bool) : Sp := fun vs H Q _ => ∃ (z : Str) (v : V) (us : List U) (w : Addr), vs = [.str z, v] ∧ At w C H v (.tup us) ∧ Fine (.tup us) ∧ Sm (.tup us) ∧ (∃ o, H w = some o) ∧ ∀ H', Same H H' → Q (.bl (g z (.tup us))) H'
theorem lenWR {C : Addr} {g : Str → U → Bool} {a b : Str} : ∀ vs H Q E, spWR C g vs H Q E → vs.length = [a, b].length := fun vs H Q E h => by
  obtain ⟨z, v, u, w, rfl, _⟩ := h
  rfl
def spNm (C : Addr) : Sp := fun vs H Q _ => ∃ (m : Nat) (v : V) (u : U) (w : Addr), vs = [v, .int (m : Int)] ∧ At w C H v u ∧ Fine u ∧ 1 ≤ m ∧ ∀ H', Same H H' → Q (.bl (gTO m u && gNam (nth u 0))) H'
theorem scNamedF : FnScope ["rest", "many"] ["rest", "many"] (defScope lNamedFits) := ⟨rfl, rfl, rfl, by decide +kernel, rfl, by decide +kernel, by decide +kernel⟩
theorem ok_namedF {f f1 f2 : Addr} {fd d1 d2 : FuncData} (F : Fun K "_law_named_fits" "_law_named_fits" lNamedFits f fd) (JL : JLo P wd K mg base C f1 d1) (JN : Jd P wd K mg base C 2 "_law_name_fits" "thing" f2 d2 gNam) : FnOk P wd K mg base CX0 3 f fd ["rest", "many"] (spNm C) := by
  refine F.ok scNamedF (fun vs H Q E h => ?_) (fun cdv A outer s H vs Q E hr h => ?_)
  · obtain ⟨m, v, u, w, rfl, _⟩ := h
    rfl
  obtain ⟨m, v, u, w, rfl, hat, fi, m1, k⟩ := h
  refine ⟨_, pss_one (ps_ret (pe_and (pe_call JL.ok (hr.mono (by decide)) (by rfl) JL.D.g JL.D.F.kp JL.D.b .nil pass0 (pa_cons (pv 0) (pa_cons (pv 1) pa_nil))) (pe_one (pe_J JN hr (by decide) (by rfl) pass0 (pe_ix ix_tup (pv 0) pe_int (fun _ _ => rfl)))))), ?_⟩
  exact s_ret (ev_andV (ev_LM (m := m) (ev_var rfl) (fun _ => ev_var rfl) hat) fun q => ev_Jn (k := 0) (ev_var rfl) hat fi q m1) fun H1 e => k H1 e
theorem ev_Nm (h : Ev te σ H v) (hat : At w C H v u) (fi : Fine u) (m1 : 1 ≤ m) : Ev (tCall (spNm C) [] E (tCons te (tCons (tC (.int (m : Int))) tNil))) σ H (.bl (gTO m u && gNam (nth u 0))) :=
  ev_call (ea_cons h (ea_cons ev_c ea_nil)) fun H1 e Q q E => ⟨m, v, u, w, rfl, ex_at e hat, fi, m1, q⟩
end
section
variable {P : Program} {wd : World} {K : PySem.W.Frag} {mg : Str → Option Value} {base : Heap} {C : Addr}
def gToHomeL (z : Str) (u : U) : Bool := if inV (.str z) [.str "ask", .str "lease", .str "free"] = true then (gTO 1 u && gNam (nth u 0)) else if eqZ z "list" = true then gTO 0 u else if eqZ z "get" = true then (gTO 1 u && gId (nth u 0)) else if eqZ z "put" = true then gBlk u else if eqZ z "head" = true then (gTO 3 u && gH3 u) else if eqZ z "prepare" = true then (gTO 1 u && gStamp (nth u 0)) else if eqZ z "accept" = true then gV2 u else if eqZ z "seal" = true then (gTO 1 u && gMembers (nth u 0)) else if (!eqZ z "install" || (!(gTO 4 u) || (!(gMembers (nth u 0))))) = true then false else (gAhead (nth u 1) && (gHeads (nth u 2) && gBlocks (nth u 3)))
theorem scgToHomeL : FnScope ["word", "rest"] ["word", "rest"] (defScope lToHomeF) := ⟨rfl, rfl, rfl, by decide +kernel, rfl, by decide +kernel, by decide +kernel⟩
theorem ok_gToHomeL {f f0 f1 f2 f3 f4 f5 f6 f7 f8 f9 f10 : Addr} {fd d0 d1 d2 d3 d4 d5 d6 d7 d8 d9 d10 : FuncData} (D : Df K mg "_law_to_home_fits" lToHomeF ["word", "rest"] f fd) (S : Bs K mg C) (JL : JLo P wd K mg base C f0 d0) (DN : Df K mg "_law_named_fits" lNamedFits ["rest", "many"] f1 d1) (GN : FnOk P wd K mg base CX0 3 f1 d1 ["rest", "many"] (spNm C))
    (J_id : Jd P wd K mg base C 3 "_law_id_fits" "thing" f2 d2 gId)
    (J_blk : Jd P wd K mg base C 5 "_law_block_fits" "thing" f3 d3 gBlk)
    (J_head : Jw P wd K mg base C 5 "_law_head_fits" "thing" f4 d4 g3 gH3)
    (J_stamp : Jd P wd K mg base C 3 "_law_stamp_fits" "thing" f5 d5 gStamp)
    (J_vote : Jd P wd K mg base C 5 "_law_vote_fits" "thing" f6 d6 gV2)
    (J_mem : Jd P wd K mg base C 4 "_law_members_fit" "thing" f7 d7 gMembers)
    (J_ahead : Jd P wd K mg base C 5 "_law_ahead_fits" "thing" f8 d8 gAhead)
    (J_heads : Jw P wd K mg base C 6 "_law_heads_fit" "thing" f9 d9 Sm gHeads)
    (J_blocks : Jw P wd K mg base C 6 "_law_blocks_fit" "thing" f10 d10 Sm gBlocks) : FnOk P wd K mg base CX0 7 f fd ["word", "rest"] (spWR C gToHomeL) := by
  refine D.F.ok scgToHomeL lenWR (fun cdv A outer s H vs Q E hr h => ?_)
  obtain ⟨z, v, us, w, rfl, hat, fi, hs, hw, k⟩ := h
  refine ⟨_, pss_cons (ps_if (pt_cmpR (show OpR _ _ (rIn K false) from op_in_seq) (pv 0) (pe_lst (pa_cons pe_str (pa_cons pe_str (pa_cons pe_str pa_nil)))) (by rfl)) (pss_one (ps_ret (pe_call (GN.mono (by decide)) hr (by rfl) DN.g DN.F.kp DN.b .nil pass0 (pa_cons (pv 1) (pa_cons pe_int pa_nil))))) pss_nil)
    (pss_cons (ps_if (pt_cmpR op_eq (pv 0) pe_str (nomark _)) (pss_one (ps_ret (pe_cmpR op_eq (pe_callB call_len_seq (by rfl) S.B.len PySem.boot_len (pa_cons (pv 1) pa_nil)) pe_int (nomark _)))) pss_nil)
    (pss_cons (ps_if (pt_cmpR op_eq (pv 0) pe_str (nomark _)) (pss_one (ps_ret (pe_and (pe_call (JL.ok.mono (by decide)) hr (by rfl) JL.D.g JL.D.F.kp JL.D.b .nil pass0 (pa_cons (pv 1) (pa_cons pe_int pa_nil))) (pe_one (pe_J J_id hr (by decide) (by rfl) pass0 (pe_ix ix_tup (pv 1) pe_int (fun _ _ => rfl))))))) pss_nil)
    (pss_cons (ps_if (pt_cmpR op_eq (pv 0) pe_str (nomark _)) (pss_one (ps_ret (pe_J J_blk hr (by decide) (by rfl) pass0 (pv 1)))) pss_nil)
    (pss_cons (ps_if (pt_cmpR op_eq (pv 0) pe_str (nomark _)) (pss_one (ps_ret (pe_and (pe_call (JL.ok.mono (by decide)) hr (by rfl) JL.D.g JL.D.F.kp JL.D.b .nil pass0 (pa_cons (pv 1) (pa_cons pe_int pa_nil))) (pe_one (pe_Jw J_head hr (by decide) (by rfl) pass0 (pv 1)))))) pss_nil)
    (pss_cons (ps_if (pt_cmpR op_eq (pv 0) pe_str (nomark _)) (pss_one (ps_ret (pe_and (pe_call (JL.ok.mono (by decide)) hr (by rfl) JL.D.g JL.D.F.kp JL.D.b .nil pass0 (pa_cons (pv 1) (pa_cons pe_int pa_nil))) (pe_one (pe_J J_stamp hr (by decide) (by rfl) pass0 (pe_ix ix_tup (pv 1) pe_int (fun _ _ => rfl))))))) pss_nil)
    (pss_cons (ps_if (pt_cmpR op_eq (pv 0) pe_str (nomark _)) (pss_one (ps_ret (pe_J J_vote hr (by decide) (by rfl) pass0 (pv 1)))) pss_nil)
    (pss_cons (ps_if (pt_cmpR op_eq (pv 0) pe_str (nomark _)) (pss_one (ps_ret (pe_and (pe_call (JL.ok.mono (by decide)) hr (by rfl) JL.D.g JL.D.F.kp JL.D.b .nil pass0 (pa_cons (pv 1) (pa_cons pe_int pa_nil))) (pe_one (pe_J J_mem hr (by decide) (by rfl) pass0 (pe_ix ix_tup (pv 1) pe_int (fun _ _ => rfl))))))) pss_nil)
    (pss_cons (ps_if (PW.pt (pw_or (pt_cmpR op_ne (pv 0) pe_str (nomark _)) (pw_or (pt_not (pt_val (pe_call (JL.ok.mono (by decide)) hr (by rfl) JL.D.g JL.D.F.kp JL.D.b .nil pass0 (pa_cons (pv 1) (pa_cons pe_int pa_nil))))) (pw_or1 (pt_not (pt_val (pe_J J_mem hr (by decide) (by rfl) pass0 (pe_ix ix_tup (pv 1) pe_int (fun _ _ => rfl))))))))) (pss_one (ps_ret pe_bl)) pss_nil)
    (pss_one (ps_ret (pe_and (pe_J J_ahead hr (by decide) (by rfl) pass0 (pe_ix ix_tup (pv 1) pe_int (fun _ _ => rfl))) (pe_and (pe_Jw J_heads hr (by decide) (by rfl) pass0 (pe_ix ix_tup (pv 1) pe_int (fun _ _ => rfl))) (pe_one (pe_Jw J_blocks hr (by decide) (by rfl) pass0 (pe_ix ix_tup (pv 1) pe_int (fun _ _ => rfl)))))))))))))))), ?_⟩
  unfold gToHomeL at k
  have E0 := Ex.refl H
  refine q_when (b := inV (.str z) [.str "ask", .str "lease", .str "free"]) (et_test (ev_opL (ev_var rfl) (el_lst (ea_cons ev_c (ea_cons ev_c (ea_cons ev_c (ea_nil)))) (by show (3 : Nat) ≤ 100000; decide)) fun q H1 hq e1 => rv_inL (neg := false) (sq_of hq) rfl rfl)) (fun q H20 e9 => ?_) (fun q0 H1 e1 => ?_)
  · rw [if_pos q] at k
    have e10 := E0.trans e9
    have a10 := ex_at e10 hat
    have w10 : ∃ o, H20 w = some o := hw.imp fun o z => e10 _ _ z
    exact s_ret (ev_Nm (m := 1) (ev_var rfl) a10 fi (by decide)) fun H21 e11 => k H21 (e10.trans e11)
  rw [if_neg (by rw [q0]; decide)] at k
  have E1 := E0.trans e1
  refine q_when (b := eqZ z "list") (et_test (ev_op (ev_var rfl) ev_c (rv_eq rfl))) (fun q H20 e9 => ?_) (fun q1 H2 e2 => ?_)
  · rw [if_pos q] at k
    have e10 := E1.trans e9
    have a10 := ex_at e10 hat
    have w10 : ∃ o, H20 w = some o := hw.imp fun o z => e10 _ _ z
    exact s_ret (ev_len0 (ev_var rfl) a10) fun H21 e11 => k H21 (e10.trans e11)
  rw [if_neg (by rw [q1]; decide)] at k
  have E2 := E1.trans e2
  refine q_when (b := eqZ z "get") (et_test (ev_op (ev_var rfl) ev_c (rv_eq rfl))) (fun q H20 e9 => ?_) (fun q2 H3 e3 => ?_)
  · rw [if_pos q] at k
    have e10 := E2.trans e9
    have a10 := ex_at e10 hat
    have w10 : ∃ o, H20 w = some o := hw.imp fun o z => e10 _ _ z
    exact s_ret (ev_andV (ev_LM (m := 1) (ev_var rfl) (fun _ => ev_c) a10) fun qT => ev_Jn (k := 0) (ev_var rfl) a10 fi qT (by decide)) fun H21 e11 => k H21 (e10.trans e11)
  rw [if_neg (by rw [q2]; decide)] at k
  have E3 := E2.trans e3
  refine q_when (b := eqZ z "put") (et_test (ev_op (ev_var rfl) ev_c (rv_eq rfl))) (fun q H20 e9 => ?_) (fun q3 H4 e4 => ?_)
  · rw [if_pos q] at k
    have e10 := E3.trans e9
    have a10 := ex_at e10 hat
    have w10 : ∃ o, H20 w = some o := hw.imp fun o z => e10 _ _ z
    exact s_ret (ev_J (ev_var rfl) a10 fi) fun H21 e11 => k H21 (e10.trans e11)
  rw [if_neg (by rw [q3]; decide)] at k
  have E4 := E3.trans e4
  refine q_when (b := eqZ z "head") (et_test (ev_op (ev_var rfl) ev_c (rv_eq rfl))) (fun q H20 e9 => ?_) (fun q4 H5 e5 => ?_)
  · rw [if_pos q] at k
    have e10 := E4.trans e9
    have a10 := ex_at e10 hat
    have w10 : ∃ o, H20 w = some o := hw.imp fun o z => e10 _ _ z
    exact s_ret (ev_andV (ev_LM (m := 3) (ev_var rfl) (fun _ => ev_c) a10) fun qT => ev_Jw (ev_var rfl) a10 fi qT w10) fun H21 e11 => k H21 (e10.trans e11)
  rw [if_neg (by rw [q4]; decide)] at k
  have E5 := E4.trans e5
  refine q_when (b := eqZ z "prepare") (et_test (ev_op (ev_var rfl) ev_c (rv_eq rfl))) (fun q H20 e9 => ?_) (fun q5 H6 e6 => ?_)
  · rw [if_pos q] at k
    have e10 := E5.trans e9
    have a10 := ex_at e10 hat
    have w10 : ∃ o, H20 w = some o := hw.imp fun o z => e10 _ _ z
    exact s_ret (ev_andV (ev_LM (m := 1) (ev_var rfl) (fun _ => ev_c) a10) fun qT => ev_Jn (k := 0) (ev_var rfl) a10 fi qT (by decide)) fun H21 e11 => k H21 (e10.trans e11)
  rw [if_neg (by rw [q5]; decide)] at k
  have E6 := E5.trans e6
  refine q_when (b := eqZ z "accept") (et_test (ev_op (ev_var rfl) ev_c (rv_eq rfl))) (fun q H20 e9 => ?_) (fun q6 H7 e7 => ?_)
  · rw [if_pos q] at k
    have e10 := E6.trans e9
    have a10 := ex_at e10 hat
    have w10 : ∃ o, H20 w = some o := hw.imp fun o z => e10 _ _ z
    exact s_ret (ev_J (ev_var rfl) a10 fi) fun H21 e11 => k H21 (e10.trans e11)
  rw [if_neg (by rw [q6]; decide)] at k
  have E7 := E6.trans e7
  refine q_when (b := eqZ z "seal") (et_test (ev_op (ev_var rfl) ev_c (rv_eq rfl))) (fun q H20 e9 => ?_) (fun q7 H8 e8 => ?_)
  · rw [if_pos q] at k
    have e10 := E7.trans e9
    have a10 := ex_at e10 hat
    have w10 : ∃ o, H20 w = some o := hw.imp fun o z => e10 _ _ z
    exact s_ret (ev_andV (ev_LM (m := 1) (ev_var rfl) (fun _ => ev_c) a10) fun qT => ev_Jn (k := 0) (ev_var rfl) a10 fi qT (by decide)) fun H21 e11 => k H21 (e10.trans e11)
  rw [if_neg (by rw [q7]; decide)] at k
  have E8 := E7.trans e8
  have a0 := ex_at E8 hat
  have w0 : ∃ o, H8 w = some o := hw.imp fun o z => E8 _ _ z
  refine q_when (b := !eqZ z "install" || (!(gTO 4 (.tup us)) || (!(gMembers (nth (.tup us) 0))))) (et_or (et_test (ev_op (ev_var rfl) ev_c (rv_ne rfl))) fun _ => et_or (et_not (et_B (ev_LM (m := 4) (ev_var rfl) (fun _ => ev_c) a0))) fun qL => et_not (et_B (ev_Jn (k := 0) (ev_var rfl) a0 fi (by simpa using qL) (by decide)))) (fun q H20 e9 => ?_) (fun q H20 e9 => ?_)
  · rw [if_pos q] at k
    exact s_ret ev_c fun H21 e11 => k H21 ((E8.trans e9).trans e11)
  · rw [if_neg (by rw [q]; decide)] at k
    have e10 := E8.trans e9
    have a10 := ex_at e10 hat
    have w10 : ∃ o, H20 w = some o := hw.imp fun o z => e10 _ _ z
    have qT : gTO 4 (.tup us) = true := by
      revert q
      cases gTO 4 (.tup us) <;> simp
    exact s_ret (ev_andV (ev_Jn (k := 1) (ev_var rfl) a10 fi qT (by decide)) fun _ => ev_andV (ev_Jwn (k := 2) (ev_var rfl) a10 fi hs w10 qT (by decide)) fun _ => ev_Jwn (k := 3) (ev_var rfl) a10 fi hs w10 qT (by decide)) fun H21 e11 => k H21 (e10.trans e11)
def gBetweenL (z : Str) (u : U) : Bool := if eqZ z "sums" = true then (gTO 1 u && gMany (nth u 0)) else if eqZ z "values" = true then (if (!(gTO 3 u) || (!(gMany (nth u 0)) || (!(gCount (nth u 1))))) = true then false else gCounts 64 (nth u 2)) else if eqZ z "roots" = true then (gTO 1 u && gCounts 65 (nth u 0)) else (eqZ z "heads" && (gTO 2 u && (gHeads (nth u 0) && gBlocks (nth u 1))))
theorem scgBetweenL : FnScope ["word", "rest"] ["word", "rest"] (defScope lBetweenF) := ⟨rfl, rfl, rfl, by decide +kernel, rfl, by decide +kernel, by decide +kernel⟩
theorem ok_gBetweenL {f f0 f1 f2 f3 f4 f5 : Addr} {fd d0 d1 d2 d3 d4 d5 : FuncData} (D : Df K mg "_law_between_fits" lBetweenF ["word", "rest"] f fd) (S : Bs K mg C) (JL : JLo P wd K mg base C f0 d0) (J_many : Jd P wd K mg base C 2 "_law_many_fits" "thing" f1 d1 gMany)
    (J_cnt : Jd P wd K mg base C 1 "_law_count" "thing" f2 d2 gCount)
    (DC : Df K mg "_law_counts_fit" lCountsFit ["thing", "most"] f3 d3) (GC : FnOk P wd K mg base CX0 3 f3 d3 ["thing", "most"] (spCts C))
    (J_heads : Jw P wd K mg base C 6 "_law_heads_fit" "thing" f4 d4 Sm gHeads)
    (J_blocks : Jw P wd K mg base C 6 "_law_blocks_fit" "thing" f5 d5 Sm gBlocks) : FnOk P wd K mg base CX0 7 f fd ["word", "rest"] (spWR C gBetweenL) := by
  refine D.F.ok scgBetweenL lenWR (fun cdv A outer s H vs Q E hr h => ?_)
  obtain ⟨z, v, us, w, rfl, hat, fi, hs, hw, k⟩ := h
  refine ⟨_, pss_cons (ps_if (pt_cmpR op_eq (pv 0) pe_str (nomark _)) (pss_one (ps_ret (pe_and (pe_call (JL.ok.mono (by decide)) hr (by rfl) JL.D.g JL.D.F.kp JL.D.b .nil pass0 (pa_cons (pv 1) (pa_cons pe_int pa_nil))) (pe_one (pe_J J_many hr (by decide) (by rfl) pass0 (pe_ix ix_tup (pv 1) pe_int (fun _ _ => rfl))))))) pss_nil)
    (pss_cons (ps_if (pt_cmpR op_eq (pv 0) pe_str (nomark _)) (pss_cons (ps_if (PW.pt (pw_or (pt_not (pt_val (pe_call (JL.ok.mono (by decide)) hr (by rfl) JL.D.g JL.D.F.kp JL.D.b .nil pass0 (pa_cons (pv 1) (pa_cons pe_int pa_nil))))) (pw_or (pt_not (pt_val (pe_J J_many hr (by decide) (by rfl) pass0 (pe_ix ix_tup (pv 1) pe_int (fun _ _ => rfl))))) (pw_or1 (pt_not (pt_val (pe_J J_cnt hr (by decide) (by rfl) pass0 (pe_ix ix_tup (pv 1) pe_int (fun _ _ => rfl))))))))) (pss_one (ps_ret pe_bl)) pss_nil) (pss_one (ps_ret (pe_call (GC.mono (by decide)) hr (by rfl) DC.g DC.F.kp DC.b .nil pass0 (pa_cons (pe_ix ix_tup (pv 1) pe_int (fun _ _ => rfl)) (pa_cons pe_int pa_nil)))))) pss_nil)
    (pss_cons (ps_if (pt_cmpR op_eq (pv 0) pe_str (nomark _)) (pss_one (ps_ret (pe_and (pe_call (JL.ok.mono (by decide)) hr (by rfl) JL.D.g JL.D.F.kp JL.D.b .nil pass0 (pa_cons (pv 1) (pa_cons pe_int pa_nil))) (pe_one (pe_call (GC.mono (by decide)) hr (by rfl) DC.g DC.F.kp DC.b .nil pass0 (pa_cons (pe_ix ix_tup (pv 1) pe_int (fun _ _ => rfl)) (pa_cons pe_int pa_nil))))))) pss_nil)
    (pss_one (ps_ret (pe_and (pe_cmpR op_eq (pv 0) pe_str (nomark _)) (pe_and (pe_call (JL.ok.mono (by decide)) hr (by rfl) JL.D.g JL.D.F.kp JL.D.b .nil pass0 (pa_cons (pv 1) (pa_cons pe_int pa_nil))) (pe_and (pe_Jw J_heads hr (by decide) (by rfl) pass0 (pe_ix ix_tup (pv 1) pe_int (fun _ _ => rfl))) (pe_one (pe_Jw J_blocks hr (by decide) (by rfl) pass0 (pe_ix ix_tup (pv 1) pe_int (fun _ _ => rfl))))))))))), ?_⟩
  unfold gBetweenL at k
  have E0 := Ex.refl H
  refine q_when (b := eqZ z "sums") (et_test (ev_op (ev_var rfl) ev_c (rv_eq rfl))) (fun q H20 e9 => ?_) (fun q0 H1 e1 => ?_)
  · rw [if_pos q] at k
    have e10 := E0.trans e9
    have a10 := ex_at e10 hat
    have w10 : ∃ o, H20 w = some o := hw.imp fun o z => e10 _ _ z
    exact s_ret (ev_andV (ev_LM (m := 1) (ev_var rfl) (fun _ => ev_c) a10) fun qT => ev_Jn (k := 0) (ev_var rfl) a10 fi qT (by decide)) fun H21 e11 => k H21 (e10.trans e11)
  rw [if_neg (by rw [q0]; decide)] at k
  have E1 := E0.trans e1
  refine q_when (b := eqZ z "values") (et_test (ev_op (ev_var rfl) ev_c (rv_eq rfl))) (fun q H20 e9 => ?_) (fun q1 H2 e2 => ?_)
  · rw [if_pos q] at k
    have e10 := E1.trans e9
    have a10 := ex_at e10 hat
    have w10 : ∃ o, H20 w = some o := hw.imp fun o z => e10 _ _ z
    refine q_when (b := !(gTO 3 (.tup us)) || (!(gMany (nth (.tup us) 0)) || (!(gCount (nth (.tup us) 1))))) (et_or (et_not (et_B (ev_LM (m := 3) (ev_var rfl) (fun _ => ev_c) a10))) fun qL => et_or (et_not (et_B (ev_Jn (k := 0) (ev_var rfl) a10 fi (by simpa using qL) (by decide)))) fun _ => et_not (et_B (ev_Jn (k := 1) (ev_var rfl) a10 fi (by simpa using qL) (by decide)))) (fun q H22 e12 => ?_) (fun q H22 e12 => ?_)
    · rw [if_pos q] at k
      exact s_ret ev_c fun H23 e13 => k H23 ((e10.trans e12).trans e13)
    · rw [if_neg (by rw [q]; decide)] at k
      have e14 := e10.trans e12
      have a14 := ex_at e14 hat
      have w14 : ∃ o, H22 w = some o := hw.imp fun o z => e14 _ _ z
      have qT : gTO 3 (.tup us) = true := by
        revert q
        cases gTO 3 (.tup us) <;> simp
      exact s_ret (ev_Cn (k := 2) (l := 64) (ev_var rfl) a14 fi qT (by decide)) fun H23 e13 => k H23 (e14.trans e13)
  rw [if_neg (by rw [q1]; decide)] at k
  have E2 := E1.trans e2
  refine q_when (b := eqZ z "roots") (et_test (ev_op (ev_var rfl) ev_c (rv_eq rfl))) (fun q H20 e9 => ?_) (fun q2 H3 e3 => ?_)
  · rw [if_pos q] at k
    have e10 := E2.trans e9
    have a10 := ex_at e10 hat
    have w10 : ∃ o, H20 w = some o := hw.imp fun o z => e10 _ _ z
    exact s_ret (ev_andV (ev_LM (m := 1) (ev_var rfl) (fun _ => ev_c) a10) fun qT => ev_Cn (k := 0) (l := 65) (ev_var rfl) a10 fi qT (by decide)) fun H21 e11 => k H21 (e10.trans e11)
  rw [if_neg (by rw [q2]; decide)] at k
  have E3 := E2.trans e3
  have a0 := ex_at E3 hat
  have w0 : ∃ o, H3 w = some o := hw.imp fun o z => E3 _ _ z
  exact s_ret (ev_andV (ev_op (ev_var rfl) ev_c (rv_eq rfl)) fun _ => ev_andV (ev_LM (m := 2) (ev_var rfl) (fun _ => ev_c) a0) fun qT => ev_andV (ev_Jwn (k := 0) (ev_var rfl) a0 fi hs w0 qT (by decide)) fun _ => ev_Jwn (k := 1) (ev_var rfl) a0 fi hs w0 qT (by decide)) fun H21 e11 => k H21 (E3.trans e11)
end
end Hs
namespace Hs
open PySem PySem.Spec PyProof.Rows L2 Hu Evl
section
variable {P : Program} {wd : World} {K : PySem.W.Frag} {mg : Str → Option Value} {base : Heap} {C : Addr}
def gVotingL (z : Str) (u : U) : Bool := if inV (.str z) [.str "voted", .str "beaten"] = true then (gTO 1 u && gStamp (nth u 0)) else if eqZ z "promised" = true then (if (!(gTO 2 u) || (!(gStamp (nth u 0)))) = true then false else (isNon (nth u 1) || gV2 (nth u 1))) else if inV (.str z) [.str "sealed", .str "stood"] = true then (if (!(gTO 3 u) || (!(gMembers (nth u 0)))) = true then false else (gHeads (nth u 1) && gBlocks (nth u 2))) else if (!eqZ z "moved" || (!(gTO 3 u) || (!(gCount (nth u 0))))) = true then false else (gMembers (nth u 1) && gAhead (nth u 2))
theorem scgVotingL : FnScope ["word", "rest"] ["word", "rest"] (defScope lVotingF) := ⟨rfl, rfl, rfl, by decide +kernel, rfl, by decide +kernel, by decide +kernel⟩
theorem ok_gVotingL {f f0 f1 f2 f3 f4 f5 f6 f7 : Addr} {fd d0 d1 d2 d3 d4 d5 d6 d7 : FuncData} (D : Df K mg "_law_voting_fits" lVotingF ["word", "rest"] f fd) (S : Bs K mg C) (JL : JLo P wd K mg base C f0 d0) (J_stamp : Jd P wd K mg base C 3 "_law_stamp_fits" "thing" f1 d1 gStamp)
    (J_vote : Jd P wd K mg base C 5 "_law_vote_fits" "thing" f2 d2 gV2)
    (J_mem : Jd P wd K mg base C 4 "_law_members_fit" "thing" f3 d3 gMembers)
    (J_heads : Jw P wd K mg base C 6 "_law_heads_fit" "thing" f4 d4 Sm gHeads)
    (J_blocks : Jw P wd K mg base C 6 "_law_blocks_fit" "thing" f5 d5 Sm gBlocks)
    (J_cnt : Jd P wd K mg base C 1 "_law_count" "thing" f6 d6 gCount)
    (J_ahead : Jd P wd K mg base C 5 "_law_ahead_fits" "thing" f7 d7 gAhead) : FnOk P wd K mg base CX0 7 f fd ["word", "rest"] (spWR C gVotingL) := by
  refine D.F.ok scgVotingL lenWR (fun cdv A outer s H vs Q E hr h => ?_)
  obtain ⟨z, v, us, w, rfl, hat, fi, hs, hw, k⟩ := h
  refine ⟨_, pss_cons (ps_if (pt_cmpR (show OpR _ _ (rIn K false) from op_in_seq) (pv 0) (pe_lst (pa_cons pe_str (pa_cons pe_str pa_nil))) (by rfl)) (pss_one (ps_ret (pe_and (pe_call (JL.ok.mono (by decide)) hr (by rfl) JL.D.g JL.D.F.kp JL.D.b .nil pass0 (pa_cons (pv 1) (pa_cons pe_int pa_nil))) (pe_one (pe_J J_stamp hr (by decide) (by rfl) pass0 (pe_ix ix_tup (pv 1) pe_int (fun _ _ => rfl))))))) pss_nil)
    (pss_cons (ps_if (pt_cmpR op_eq (pv 0) pe_str (nomark _)) (pss_cons (ps_if (PW.pt (pw_or (pt_not (pt_val (pe_call (JL.ok.mono (by decide)) hr (by rfl) JL.D.g JL.D.F.kp JL.D.b .nil pass0 (pa_cons (pv 1) (pa_cons pe_int pa_nil))))) (pw_or1 (pt_not (pt_val (pe_J J_stamp hr (by decide) (by rfl) pass0 (pe_ix ix_tup (pv 1) pe_int (fun _ _ => rfl)))))))) (pss_one (ps_ret pe_bl)) pss_nil) (pss_one (ps_ret (pe_or (pe_cmpR op_isN (pe_ix ix_tup (pv 1) pe_int (fun _ _ => rfl)) pe_non (nomark _)) (pe_one (pe_J J_vote hr (by decide) (by rfl) pass0 (pe_ix ix_tup (pv 1) pe_int (fun _ _ => rfl)))))))) pss_nil)
    (pss_cons (ps_if (pt_cmpR (show OpR _ _ (rIn K false) from op_in_seq) (pv 0) (pe_lst (pa_cons pe_str (pa_cons pe_str pa_nil))) (by rfl)) (pss_cons (ps_if (PW.pt (pw_or (pt_not (pt_val (pe_call (JL.ok.mono (by decide)) hr (by rfl) JL.D.g JL.D.F.kp JL.D.b .nil pass0 (pa_cons (pv 1) (pa_cons pe_int pa_nil))))) (pw_or1 (pt_not (pt_val (pe_J J_mem hr (by decide) (by rfl) pass0 (pe_ix ix_tup (pv 1) pe_int (fun _ _ => rfl)))))))) (pss_one (ps_ret pe_bl)) pss_nil) (pss_one (ps_ret (pe_and (pe_Jw J_heads hr (by decide) (by rfl) pass0 (pe_ix ix_tup (pv 1) pe_int (fun _ _ => rfl))) (pe_one (pe_Jw J_blocks hr (by decide) (by rfl) pass0 (pe_ix ix_tup (pv 1) pe_int (fun _ _ => rfl)))))))) pss_nil)
    (pss_cons (ps_if (PW.pt (pw_or (pt_cmpR op_ne (pv 0) pe_str (nomark _)) (pw_or (pt_not (pt_val (pe_call (JL.ok.mono (by decide)) hr (by rfl) JL.D.g JL.D.F.kp JL.D.b .nil pass0 (pa_cons (pv 1) (pa_cons pe_int pa_nil))))) (pw_or1 (pt_not (pt_val (pe_J J_cnt hr (by decide) (by rfl) pass0 (pe_ix ix_tup (pv 1) pe_int (fun _ _ => rfl))))))))) (pss_one (ps_ret pe_bl)) pss_nil)
    (pss_one (ps_ret (pe_and (pe_J J_mem hr (by decide) (by rfl) pass0 (pe_ix ix_tup (pv 1) pe_int (fun _ _ => rfl))) (pe_one (pe_J J_ahead hr (by decide) (by rfl) pass0 (pe_ix ix_tup (pv 1) pe_int (fun _ _ => rfl)))))))))), ?_⟩
  unfold gVotingL at k
  have E0 := Ex.refl H
  refine q_when (b := inV (.str z) [.str "voted", .str "beaten"]) (et_test (ev_opL (ev_var rfl) (el_lst (ea_cons ev_c (ea_cons ev_c (ea_nil))) (by show (2 : Nat) ≤ 100000; decide)) fun q H1 hq e1 => rv_inL (neg := false) (sq_of hq) rfl rfl)) (fun q H20 e9 => ?_) (fun q0 H1 e1 => ?_)
  · rw [if_pos q] at k
    have e10 := E0.trans e9
    have a10 := ex_at e10 hat
    have w10 : ∃ o, H20 w = some o := hw.imp fun o z => e10 _ _ z
    exact s_ret (ev_andV (ev_LM (m := 1) (ev_var rfl) (fun _ => ev_c) a10) fun qT => ev_Jn (k := 0) (ev_var rfl) a10 fi qT (by decide)) fun H21 e11 => k H21 (e10.trans e11)
  rw [if_neg (by rw [q0]; decide)] at k
  have E1 := E0.trans e1
  refine q_when (b := eqZ z "promised") (et_test (ev_op (ev_var rfl) ev_c (rv_eq rfl))) (fun q H20 e9 => ?_) (fun q1 H2 e2 => ?_)
  · rw [if_pos q] at k
    have e10 := E1.trans e9
    have a10 := ex_at e10 hat
    have w10 : ∃ o, H20 w = some o := hw.imp fun o z => e10 _ _ z
    refine q_when (b := !(gTO 2 (.tup us)) || (!(gStamp (nth (.tup us) 0)))) (et_or (et_not (et_B (ev_LM (m := 2) (ev_var rfl) (fun _ => ev_c) a10))) fun qL => et_not (et_B (ev_Jn (k := 0) (ev_var rfl) a10 fi (by simpa using qL) (by decide)))) (fun q H22 e12 => ?_) (fun q H22 e12 => ?_)
    · rw [if_pos q] at k
      exact s_ret ev_c fun H23 e13 => k H23 ((e10.trans e12).trans e13)
    · rw [if_neg (by rw [q]; decide)] at k
      have e14 := e10.trans e12
      have a14 := ex_at e14 hat
      have w14 : ∃ o, H22 w = some o := hw.imp fun o z => e14 _ _ z
      have qT : gTO 2 (.tup us) = true := by
        revert q
        cases gTO 2 (.tup us) <;> simp
      exact s_ret (ev_orV (ev_nonN (k := 1) (ev_var rfl) a14 qT (by decide)) fun _ => ev_Jn (k := 1) (ev_var rfl) a14 fi qT (by decide)) fun H23 e13 => k H23 (e14.trans e13)
  rw [if_neg (by rw [q1]; decide)] at k
  have E2 := E1.trans e2
  refine q_when (b := inV (.str z) [.str "sealed", .str "stood"]) (et_test (ev_opL (ev_var rfl) (el_lst (ea_cons ev_c (ea_cons ev_c (ea_nil))) (by show (2 : Nat) ≤ 100000; decide)) fun q H1 hq e1 => rv_inL (neg := false) (sq_of hq) rfl rfl)) (fun q H20 e9 => ?_) (fun q2 H3 e3 => ?_)
  · rw [if_pos q] at k
    have e10 := E2.trans e9
    have a10 := ex_at e10 hat
    have w10 : ∃ o, H20 w = some o := hw.imp fun o z => e10 _ _ z
    refine q_when (b := !(gTO 3 (.tup us)) || (!(gMembers (nth (.tup us) 0)))) (et_or (et_not (et_B (ev_LM (m := 3) (ev_var rfl) (fun _ => ev_c) a10))) fun qL => et_not (et_B (ev_Jn (k := 0) (ev_var rfl) a10 fi (by simpa using qL) (by decide)))) (fun q H22 e12 => ?_) (fun q H22 e12 => ?_)
    · rw [if_pos q] at k
      exact s_ret ev_c fun H23 e13 => k H23 ((e10.trans e12).trans e13)
    · rw [if_neg (by rw [q]; decide)] at k
      have e14 := e10.trans e12
      have a14 := ex_at e14 hat
      have w14 : ∃ o, H22 w = some o := hw.imp fun o z => e14 _ _ z
      have qT : gTO 3 (.tup us) = true := by
        revert q
        cases gTO 3 (.tup us) <;> simp
      exact s_ret (ev_andV (ev_Jwn (k := 1) (ev_var rfl) a14 fi hs w14 qT (by decide)) fun _ => ev_Jwn (k := 2) (ev_var rfl) a14 fi hs w14 qT (by decide)) fun H23 e13 => k H23 (e14.trans e13)
  rw [if_neg (by rw [q2]; decide)] at k
  have E3 := E2.trans e3
  have a0 := ex_at E3 hat
  have w0 : ∃ o, H3 w = some o := hw.imp fun o z => E3 _ _ z
  refine q_when (b := !eqZ z "moved" || (!(gTO 3 (.tup us)) || (!(gCount (nth (.tup us) 0))))) (et_or (et_test (ev_op (ev_var rfl) ev_c (rv_ne rfl))) fun _ => et_or (et_not (et_B (ev_LM (m := 3) (ev_var rfl) (fun _ => ev_c) a0))) fun qL => et_not (et_B (ev_Jn (k := 0) (ev_var rfl) a0 fi (by simpa using qL) (by decide)))) (fun q H20 e9 => ?_) (fun q H20 e9 => ?_)
  · rw [if_pos q] at k
    exact s_ret ev_c fun H21 e11 => k H21 ((E3.trans e9).trans e11)
  · rw [if_neg (by rw [q]; decide)] at k
    have e10 := E3.trans e9
    have a10 := ex_at e10 hat
    have w10 : ∃ o, H20 w = some o := hw.imp fun o z => e10 _ _ z
    have qT : gTO 3 (.tup us) = true := by
      revert q
      cases gTO 3 (.tup us) <;> simp
    exact s_ret (ev_andV (ev_Jn (k := 1) (ev_var rfl) a10 fi qT (by decide)) fun _ => ev_Jn (k := 2) (ev_var rfl) a10 fi qT (by decide)) fun H21 e11 => k H21 (e10.trans e11)
def gToHandL (z : Str) (u : U) : Bool := if inV (.str z) [.str "told", .str "granted"] = true then (gTO 3 u && gH3 u) else if eqZ z "names" = true then (gTO 1 u && gNames (nth u 0)) else if eqZ z "block" = true then gBlk u else if inV (.str z) [.str "none", .str "have"] = true then (gTO 1 u && gId (nth u 0)) else if eqZ z "kept" = true then ((gTO 2 u && gNam (nth u 0)) && gStamp (nth u 1)) else if eqZ z "lacks" = true then ((gTO 3 u && gNam (nth u 0)) && (gStamp (nth u 1) && gIds (nth u 2))) else if eqZ z "freed" = true then (gTO 1 u && gNam (nth u 0)) else if inV (.str z) [.str "leased", .str "installed", .str "behind"] = true then gTO 0 u else gVotingL z u
theorem scgToHandL : FnScope ["word", "rest"] ["word", "rest"] (defScope lToHandF) := ⟨rfl, rfl, rfl, by decide +kernel, rfl, by decide +kernel, by decide +kernel⟩
theorem ok_gToHandL {f f0 f1 f2 f3 f4 f5 f6 f7 f8 : Addr} {fd d0 d1 d2 d3 d4 d5 d6 d7 d8 : FuncData} (D : Df K mg "_law_to_hand_fits" lToHandF ["word", "rest"] f fd) (S : Bs K mg C) (JL : JLo P wd K mg base C f0 d0) (J_head : Jw P wd K mg base C 5 "_law_head_fits" "thing" f1 d1 g3 gH3)
    (J_names : Jw P wd K mg base C 6 "_law_names_fit" "thing" f2 d2 Sm gNames)
    (J_blk : Jd P wd K mg base C 5 "_law_block_fits" "thing" f3 d3 gBlk)
    (J_id : Jd P wd K mg base C 3 "_law_id_fits" "thing" f4 d4 gId)
    (DN : Df K mg "_law_named_fits" lNamedFits ["rest", "many"] f5 d5) (GN : FnOk P wd K mg base CX0 3 f5 d5 ["rest", "many"] (spNm C))
    (J_stamp : Jd P wd K mg base C 3 "_law_stamp_fits" "thing" f6 d6 gStamp)
    (J_ids : Jw P wd K mg base C 6 "_law_ids_fit" "thing" f7 d7 Sm gIds)
    (DV : Df K mg "_law_voting_fits" lVotingF ["word", "rest"] f8 d8) (GV : FnOk P wd K mg base CX0 7 f8 d8 ["word", "rest"] (spWR C gVotingL)) : FnOk P wd K mg base CX0 8 f fd ["word", "rest"] (spWR C gToHandL) := by
  refine D.F.ok scgToHandL lenWR (fun cdv A outer s H vs Q E hr h => ?_)
  obtain ⟨z, v, us, w, rfl, hat, fi, hs, hw, k⟩ := h
  refine ⟨_, pss_cons (ps_if (pt_cmpR (show OpR _ _ (rIn K false) from op_in_seq) (pv 0) (pe_lst (pa_cons pe_str (pa_cons pe_str pa_nil))) (by rfl)) (pss_one (ps_ret (pe_and (pe_call (JL.ok.mono (by decide)) hr (by rfl) JL.D.g JL.D.F.kp JL.D.b .nil pass0 (pa_cons (pv 1) (pa_cons pe_int pa_nil))) (pe_one (pe_Jw J_head hr (by decide) (by rfl) pass0 (pv 1)))))) pss_nil)
    (pss_cons (ps_if (pt_cmpR op_eq (pv 0) pe_str (nomark _)) (pss_one (ps_ret (pe_and (pe_call (JL.ok.mono (by decide)) hr (by rfl) JL.D.g JL.D.F.kp JL.D.b .nil pass0 (pa_cons (pv 1) (pa_cons pe_int pa_nil))) (pe_one (pe_Jw J_names hr (by decide) (by rfl) pass0 (pe_ix ix_tup (pv 1) pe_int (fun _ _ => rfl))))))) pss_nil)
    (pss_cons (ps_if (pt_cmpR op_eq (pv 0) pe_str (nomark _)) (pss_one (ps_ret (pe_J J_blk hr (by decide) (by rfl) pass0 (pv 1)))) pss_nil)
    (pss_cons (ps_if (pt_cmpR (show OpR _ _ (rIn K false) from op_in_seq) (pv 0) (pe_lst (pa_cons pe_str (pa_cons pe_str pa_nil))) (by rfl)) (pss_one (ps_ret (pe_and (pe_call (JL.ok.mono (by decide)) hr (by rfl) JL.D.g JL.D.F.kp JL.D.b .nil pass0 (pa_cons (pv 1) (pa_cons pe_int pa_nil))) (pe_one (pe_J J_id hr (by decide) (by rfl) pass0 (pe_ix ix_tup (pv 1) pe_int (fun _ _ => rfl))))))) pss_nil)
    (pss_cons (ps_if (pt_cmpR op_eq (pv 0) pe_str (nomark _)) (pss_one (ps_ret (pe_and (pe_call (GN.mono (by decide)) hr (by rfl) DN.g DN.F.kp DN.b .nil pass0 (pa_cons (pv 1) (pa_cons pe_int pa_nil))) (pe_one (pe_J J_stamp hr (by decide) (by rfl) pass0 (pe_ix ix_tup (pv 1) pe_int (fun _ _ => rfl))))))) pss_nil)
    (pss_cons (ps_if (pt_cmpR op_eq (pv 0) pe_str (nomark _)) (pss_one (ps_ret (pe_and (pe_call (GN.mono (by decide)) hr (by rfl) DN.g DN.F.kp DN.b .nil pass0 (pa_cons (pv 1) (pa_cons pe_int pa_nil))) (pe_and (pe_J J_stamp hr (by decide) (by rfl) pass0 (pe_ix ix_tup (pv 1) pe_int (fun _ _ => rfl))) (pe_one (pe_Jw J_ids hr (by decide) (by rfl) pass0 (pe_ix ix_tup (pv 1) pe_int (fun _ _ => rfl)))))))) pss_nil)
    (pss_cons (ps_if (pt_cmpR op_eq (pv 0) pe_str (nomark _)) (pss_one (ps_ret (pe_call (GN.mono (by decide)) hr (by rfl) DN.g DN.F.kp DN.b .nil pass0 (pa_cons (pv 1) (pa_cons pe_int pa_nil))))) pss_nil)
    (pss_cons (ps_if (pt_cmpR (show OpR _ _ (rIn K false) from op_in_seq) (pv 0) (pe_lst (pa_cons pe_str (pa_cons pe_str (pa_cons pe_str pa_nil)))) (by rfl)) (pss_one (ps_ret (pe_cmpR op_eq (pe_callB call_len_seq (by rfl) S.B.len PySem.boot_len (pa_cons (pv 1) pa_nil)) pe_int (nomark _)))) pss_nil)
    (pss_one (ps_ret (pe_call GV hr (by rfl) DV.g DV.F.kp DV.b .nil pass0 (pa_cons (pv 0) (pa_cons (pv 1) pa_nil)))))))))))), ?_⟩
  unfold gToHandL at k
  have E0 := Ex.refl H
  refine q_when (b := inV (.str z) [.str "told", .str "granted"]) (et_test (ev_opL (ev_var rfl) (el_lst (ea_cons ev_c (ea_cons ev_c (ea_nil))) (by show (2 : Nat) ≤ 100000; decide)) fun q H1 hq e1 => rv_inL (neg := false) (sq_of hq) rfl rfl)) (fun q H20 e9 => ?_) (fun q0 H1 e1 => ?_)
  · rw [if_pos q] at k
    have e10 := E0.trans e9
    have a10 := ex_at e10 hat
    have w10 : ∃ o, H20 w = some o := hw.imp fun o z => e10 _ _ z
    exact s_ret (ev_andV (ev_LM (m := 3) (ev_var rfl) (fun _ => ev_c) a10) fun qT => ev_Jw (ev_var rfl) a10 fi qT w10) fun H21 e11 => k H21 (e10.trans e11)
  rw [if_neg (by rw [q0]; decide)] at k
  have E1 := E0.trans e1
  refine q_when (b := eqZ z "names") (et_test (ev_op (ev_var rfl) ev_c (rv_eq rfl))) (fun q H20 e9 => ?_) (fun q1 H2 e2 => ?_)
  · rw [if_pos q] at k
    have e10 := E1.trans e9
    have a10 := ex_at e10 hat
    have w10 : ∃ o, H20 w = some o := hw.imp fun o z => e10 _ _ z
    exact s_ret (ev_andV (ev_LM (m := 1) (ev_var rfl) (fun _ => ev_c) a10) fun qT => ev_Jwn (k := 0) (ev_var rfl) a10 fi hs w10 qT (by decide)) fun H21 e11 => k H21 (e10.trans e11)
  rw [if_neg (by rw [q1]; decide)] at k
  have E2 := E1.trans e2
  refine q_when (b := eqZ z "block") (et_test (ev_op (ev_var rfl) ev_c (rv_eq rfl))) (fun q H20 e9 => ?_) (fun q2 H3 e3 => ?_)
  · rw [if_pos q] at k
    have e10 := E2.trans e9
    have a10 := ex_at e10 hat
    have w10 : ∃ o, H20 w = some o := hw.imp fun o z => e10 _ _ z
    exact s_ret (ev_J (ev_var rfl) a10 fi) fun H21 e11 => k H21 (e10.trans e11)
  rw [if_neg (by rw [q2]; decide)] at k
  have E3 := E2.trans e3
  refine q_when (b := inV (.str z) [.str "none", .str "have"]) (et_test (ev_opL (ev_var rfl) (el_lst (ea_cons ev_c (ea_cons ev_c (ea_nil))) (by show (2 : Nat) ≤ 100000; decide)) fun q H1 hq e1 => rv_inL (neg := false) (sq_of hq) rfl rfl)) (fun q H20 e9 => ?_) (fun q3 H4 e4 => ?_)
  · rw [if_pos q] at k
    have e10 := E3.trans e9
    have a10 := ex_at e10 hat
    have w10 : ∃ o, H20 w = some o := hw.imp fun o z => e10 _ _ z
    exact s_ret (ev_andV (ev_LM (m := 1) (ev_var rfl) (fun _ => ev_c) a10) fun qT => ev_Jn (k := 0) (ev_var rfl) a10 fi qT (by decide)) fun H21 e11 => k H21 (e10.trans e11)
  rw [if_neg (by rw [q3]; decide)] at k
  have E4 := E3.trans e4
  refine q_when (b := eqZ z "kept") (et_test (ev_op (ev_var rfl) ev_c (rv_eq rfl))) (fun q H20 e9 => ?_) (fun q4 H5 e5 => ?_)
  · rw [if_pos q] at k
    have e10 := E4.trans e9
    have a10 := ex_at e10 hat
    have w10 : ∃ o, H20 w = some o := hw.imp fun o z => e10 _ _ z
    exact s_ret (ev_andV (ev_Nm (m := 2) (ev_var rfl) a10 fi (by decide)) fun qT => ev_Jn (k := 1) (ev_var rfl) a10 fi (and2 qT).1 (by decide)) fun H21 e11 => k H21 (e10.trans e11)
  rw [if_neg (by rw [q4]; decide)] at k
  have E5 := E4.trans e5
  refine q_when (b := eqZ z "lacks") (et_test (ev_op (ev_var rfl) ev_c (rv_eq rfl))) (fun q H20 e9 => ?_) (fun q5 H6 e6 => ?_)
  · rw [if_pos q] at k
    have e10 := E5.trans e9
    have a10 := ex_at e10 hat
    have w10 : ∃ o, H20 w = some o := hw.imp fun o z => e10 _ _ z
    exact s_ret (ev_andV (ev_Nm (m := 3) (ev_var rfl) a10 fi (by decide)) fun qT => ev_andV (ev_Jn (k := 1) (ev_var rfl) a10 fi (and2 qT).1 (by decide)) fun _ => ev_Jwn (k := 2) (ev_var rfl) a10 fi hs w10 (and2 qT).1 (by decide)) fun H21 e11 => k H21 (e10.trans e11)
  rw [if_neg (by rw [q5]; decide)] at k
  have E6 := E5.trans e6
  refine q_when (b := eqZ z "freed") (et_test (ev_op (ev_var rfl) ev_c (rv_eq rfl))) (fun q H20 e9 => ?_) (fun q6 H7 e7 => ?_)
  · rw [if_pos q] at k
    have e10 := E6.trans e9
    have a10 := ex_at e10 hat
    have w10 : ∃ o, H20 w = some o := hw.imp fun o z => e10 _ _ z
    exact s_ret (ev_Nm (m := 1) (ev_var rfl) a10 fi (by decide)) fun H21 e11 => k H21 (e10.trans e11)
  rw [if_neg (by rw [q6]; decide)] at k
  have E7 := E6.trans e7
  refine q_when (b := inV (.str z) [.str "leased", .str "installed", .str "behind"]) (et_test (ev_opL (ev_var rfl) (el_lst (ea_cons ev_c (ea_cons ev_c (ea_cons ev_c (ea_nil)))) (by show (3 : Nat) ≤ 100000; decide)) fun q H1 hq e1 => rv_inL (neg := false) (sq_of hq) rfl rfl)) (fun q H20 e9 => ?_) (fun q7 H8 e8 => ?_)
  · rw [if_pos q] at k
    have e10 := E7.trans e9
    have a10 := ex_at e10 hat
    have w10 : ∃ o, H20 w = some o := hw.imp fun o z => e10 _ _ z
    exact s_ret (ev_len0 (ev_var rfl) a10) fun H21 e11 => k H21 (e10.trans e11)
  rw [if_neg (by rw [q7]; decide)] at k
  have E8 := E7.trans e8
  have a0 := ex_at E8 hat
  have w0 : ∃ o, H8 w = some o := hw.imp fun o z => E8 _ _ z
  exact s_ret (ev_call (ea_cons (ev_var rfl) (ea_cons (ev_var rfl) ea_nil)) fun G eg Q q E => ⟨z, v, us, w, rfl, ex_at (E8.trans eg) hat, fi, hs, hw.imp fun o z => (E8.trans eg) _ _ z, q⟩) fun H21 e11 => k H21 (E8.trans e11)
end
end Hs
/-! the program's tables of words and the law's tests of words tell the same -/
namespace Hs
open PySem PySem.Spec PyProof.Rows L2 Hu Evl
def toT : List (Str × List Str) := [("ask", ["epoch", "name"]), ("list", ["epoch"]), ("get", ["epoch", "id"]), ("put", ["epoch", "id", "piece"]), ("head", ["epoch", "name", "stamp", "row"]), ("lease", ["epoch", "name"]), ("free", ["epoch", "name"]), ("prepare", ["epoch", "ballot"]), ("accept", ["epoch", "ballot", "members"]), ("seal", ["epoch", "members"]), ("install", ["epoch", "members", "ahead", "heads", "blocks"])]
def amT : List (Str × List Str) := [("sums", ["epoch", "many"]), ("values", ["epoch", "many", "size", "sums"]), ("roots", ["epoch", "factor"]), ("heads", ["epoch", "heads", "blocks"])]
def thT : List (Str × List Str) := [("told", ["epoch", "name", "stamp", "row"]), ("names", ["epoch", "names"]), ("block", ["epoch", "id", "piece"]), ("none", ["epoch", "id"]), ("have", ["epoch", "id"]), ("kept", ["epoch", "name", "stamp"]), ("lacks", ["epoch", "name", "stamp", "ids"]), ("leased", ["epoch"]), ("granted", ["epoch", "name", "stamp", "row"]), ("freed", ["epoch", "name"]), ("promised", ["epoch", "ballot", "voted"]), ("voted", ["epoch", "ballot"]), ("beaten", ["epoch", "ballot"]), ("sealed", ["epoch", "members", "heads", "blocks"]), ("stood", ["epoch", "members", "heads", "blocks"]), ("installed", ["epoch"]), ("moved", ["epoch", "epoch", "members", "ahead"]), ("behind", ["epoch"])]
theorem gp_epoch (u : U) : gPart "epoch" u = gCnt u := by
  unfold gPart
  rw [if_pos (by decide +kernel)]
theorem gp_talk (u : U) : gPart "talk" u = gCnt u := by
  unfold gPart
  rw [if_pos (by decide +kernel)]
theorem gp_size (u : U) : gPart "size" u = gCnt u := by
  unfold gPart
  rw [if_pos (by decide +kernel)]
theorem gp_name (u : U) : gPart "name" u = gNam u := by
  unfold gPart
  rw [if_neg (by decide +kernel), if_pos (by decide +kernel)]
theorem gp_hand (u : U) : gPart "hand" u = gHand u := by
  unfold gPart
  rw [if_neg (by decide +kernel), if_neg (by decide +kernel), if_pos (by decide +kernel)]
theorem gp_stamp (u : U) : gPart "stamp" u = gStamp u := by
  unfold gPart
  rw [if_neg (by decide +kernel), if_neg (by decide +kernel), if_neg (by decide +kernel), if_pos (by decide +kernel)]
theorem gp_ballot (u : U) : gPart "ballot" u = gStamp u := by
  unfold gPart
  rw [if_neg (by decide +kernel), if_neg (by decide +kernel), if_neg (by decide +kernel), if_pos (by decide +kernel)]
theorem gp_row (u : U) : gPart "row" u = gRow u := by
  unfold gPart
  rw [if_neg (by decide +kernel), if_neg (by decide +kernel), if_neg (by decide +kernel), if_neg (by decide +kernel), if_pos (by decide +kernel)]
theorem gp_id (u : U) : gPart "id" u = gId u := by
  unfold gPart
  rw [if_neg (by decide +kernel), if_neg (by decide +kernel), if_neg (by decide +kernel), if_neg (by decide +kernel), if_neg (by decide +kernel), if_pos (by decide +kernel)]
theorem gp_piece (u : U) : gPart "piece" u = gPiece u := by
  unfold gPart
  rw [if_neg (by decide +kernel), if_neg (by decide +kernel), if_neg (by decide +kernel), if_neg (by decide +kernel), if_neg (by decide +kernel), if_neg (by decide +kernel), if_pos (by decide +kernel)]
theorem gp_members (u : U) : gPart "members" u = gMembers u := by
  unfold gPart
  rw [if_neg (by decide +kernel), if_neg (by decide +kernel), if_neg (by decide +kernel), if_neg (by decide +kernel), if_neg (by decide +kernel), if_neg (by decide +kernel), if_neg (by decide +kernel), if_pos (by decide +kernel)]
theorem gp_ahead (u : U) : gPart "ahead" u = gAhead u := by
  unfold gPart
  rw [if_neg (by decide +kernel), if_neg (by decide +kernel), if_neg (by decide +kernel), if_neg (by decide +kernel), if_neg (by decide +kernel), if_neg (by decide +kernel), if_neg (by decide +kernel), if_neg (by decide +kernel), if_pos (by decide +kernel)]
theorem gp_voted (u : U) : gPart "voted" u = gVote u := by
  unfold gPart
  rw [if_neg (by decide +kernel), if_neg (by decide +kernel), if_neg (by decide +kernel), if_neg (by decide +kernel), if_neg (by decide +kernel), if_neg (by decide +kernel), if_neg (by decide +kernel), if_neg (by decide +kernel), if_neg (by decide +kernel), if_pos (by decide +kernel)]
theorem gp_many (u : U) : gPart "many" u = gMany u := by
  unfold gPart
  rw [if_neg (by decide +kernel), if_neg (by decide +kernel), if_neg (by decide +kernel), if_neg (by decide +kernel), if_neg (by decide +kernel), if_neg (by decide +kernel), if_neg (by decide +kernel), if_neg (by decide +kernel), if_neg (by decide +kernel), if_neg (by decide +kernel), if_pos (by decide +kernel)]
theorem gp_heads (u : U) : gPart "heads" u = gHeads u := by
  unfold gPart
  rw [if_neg (by decide +kernel), if_neg (by decide +kernel), if_neg (by decide +kernel), if_neg (by decide +kernel), if_neg (by decide +kernel), if_neg (by decide +kernel), if_neg (by decide +kernel), if_neg (by decide +kernel), if_neg (by decide +kernel), if_neg (by decide +kernel), if_neg (by decide +kernel)]
  unfold gLot
  rw [if_pos (by decide +kernel)]
theorem gp_blocks (u : U) : gPart "blocks" u = gBlocks u := by
  unfold gPart
  rw [if_neg (by decide +kernel), if_neg (by decide +kernel), if_neg (by decide +kernel), if_neg (by decide +kernel), if_neg (by decide +kernel), if_neg (by decide +kernel), if_neg (by decide +kernel), if_neg (by decide +kernel), if_neg (by decide +kernel), if_neg (by decide +kernel), if_neg (by decide +kernel)]
  unfold gLot
  rw [if_neg (by decide +kernel), if_pos (by decide +kernel)]
theorem gp_names (u : U) : gPart "names" u = gNames u := by
  unfold gPart
  rw [if_neg (by decide +kernel), if_neg (by decide +kernel), if_neg (by decide +kernel), if_neg (by decide +kernel), if_neg (by decide +kernel), if_neg (by decide +kernel), if_neg (by decide +kernel), if_neg (by decide +kernel), if_neg (by decide +kernel), if_neg (by decide +kernel), if_neg (by decide +kernel)]
  unfold gLot
  rw [if_neg (by decide +kernel), if_neg (by decide +kernel), if_pos (by decide +kernel)]
theorem gp_ids (u : U) : gPart "ids" u = gIds u := by
  unfold gPart
  rw [if_neg (by decide +kernel), if_neg (by decide +kernel), if_neg (by decide +kernel), if_neg (by decide +kernel), if_neg (by decide +kernel), if_neg (by decide +kernel), if_neg (by decide +kernel), if_neg (by decide +kernel), if_neg (by decide +kernel), if_neg (by decide +kernel), if_neg (by decide +kernel)]
  unfold gLot
  rw [if_neg (by decide +kernel), if_neg (by decide +kernel), if_neg (by decide +kernel), if_pos (by decide +kernel)]
theorem gp_sums (u : U) : gPart "sums" u = gCounts 64 u := by
  unfold gPart
  rw [if_neg (by decide +kernel), if_neg (by decide +kernel), if_neg (by decide +kernel), if_neg (by decide +kernel), if_neg (by decide +kernel), if_neg (by decide +kernel), if_neg (by decide +kernel), if_neg (by decide +kernel), if_neg (by decide +kernel), if_neg (by decide +kernel), if_neg (by decide +kernel)]
  unfold gLot
  rw [if_neg (by decide +kernel), if_neg (by decide +kernel), if_neg (by decide +kernel), if_neg (by decide +kernel), if_pos (by decide +kernel)]
theorem gp_factor (u : U) : gPart "factor" u = gCounts 65 u := by
  unfold gPart
  rw [if_neg (by decide +kernel), if_neg (by decide +kernel), if_neg (by decide +kernel), if_neg (by decide +kernel), if_neg (by decide +kernel), if_neg (by decide +kernel), if_neg (by decide +kernel), if_neg (by decide +kernel), if_neg (by decide +kernel), if_neg (by decide +kernel), if_neg (by decide +kernel)]
  unfold gLot
  rw [if_neg (by decide +kernel), if_neg (by decide +kernel), if_neg (by decide +kernel), if_neg (by decide +kernel), if_neg (by decide +kernel)]
  have : eqZ "factor" "factor" = true := by decide +kernel
  rw [this, Bool.true_and]
theorem gParts_cons (a : Str) (as : List Str) (u : U) (us : List U) : gParts (a :: as) (u :: us) = (gPart a u && gParts as us) := by
  unfold gParts partsAll
  simp only [List.length_cons, List.range_succ_eq_map, List.all_cons, List.all_map, List.getD_cons_zero]
  have : (decide (us.length + 1 = as.length + 1) : Bool) = decide (us.length = as.length) := by simp
  rw [this, ← Bool.and_assoc, Bool.and_comm (decide _), Bool.and_assoc]
  congr 1
theorem gParts_nn : gParts [] [] = true := rfl
theorem gParts_nc (u : U) (us : List U) : gParts [] (u :: us) = false := by
  unfold gParts
  simp
theorem gParts_cn (a : Str) (as : List Str) : gParts (a :: as) [] = false := by
  unfold gParts
  simp
theorem gps0 (rs : List U) : gParts [] rs = gTO 0 (.tup rs) := by
  cases rs with
  | nil => rfl
  | cons a r => rw [gParts_nc]; rfl
theorem gps1 (a : Str) (rs : List U) : gParts [a] rs = (gTO 1 (.tup rs) && gPart a (nth (.tup rs) 0)) := by
  match rs with
  | [] => rw [gParts_cn]; rfl
  | [x] => rw [gParts_cons, gParts_nn, Bool.and_true]; exact (Bool.true_and _).symm
  | x :: y :: r =>
    rw [gParts_cons, gParts_nc, Bool.and_false]
    have : gTO 1 (.tup (x :: y :: r)) = false := by simp [gTO, tv]
    rw [this, Bool.false_and]
theorem gps2 (a b : Str) (rs : List U) : gParts [a, b] rs = (gTO 2 (.tup rs) && (gPart a (nth (.tup rs) 0) && gPart b (nth (.tup rs) 1))) := by
  match rs with
  | [] => rw [gParts_cn]; rfl
  | [x] =>
    rw [gParts_cons, gParts_cn, Bool.and_false]
    have : gTO 2 (.tup [x]) = false := by simp [gTO, tv]
    rw [this, Bool.false_and]
  | [x, y] => rw [gParts_cons, gParts_cons, gParts_nn, Bool.and_true]; exact (Bool.true_and _).symm
  | x :: y :: z :: r =>
    rw [gParts_cons, gParts_cons, gParts_nc, Bool.and_false, Bool.and_false]
    have : gTO 2 (.tup (x :: y :: z :: r)) = false := by simp [gTO, tv]
    rw [this, Bool.false_and]
theorem gps3 (a b c : Str) (rs : List U) : gParts [a, b, c] rs = (gTO 3 (.tup rs) && (gPart a (nth (.tup rs) 0) && (gPart b (nth (.tup rs) 1) && gPart c (nth (.tup rs) 2)))) := by
  match rs with
  | [] => rw [gParts_cn]; rfl
  | [x] =>
    rw [gParts_cons, gParts_cn, Bool.and_false]
    have : gTO 3 (.tup [x]) = false := by simp [gTO, tv]
    rw [this, Bool.false_and]
  | [x, y] =>
    rw [gParts_cons, gParts_cons, gParts_cn, Bool.and_false, Bool.and_false]
    have : gTO 3 (.tup [x, y]) = false := by simp [gTO, tv]
    rw [this, Bool.false_and]
  | [x, y, z] => rw [gParts_cons, gParts_cons, gParts_cons, gParts_nn, Bool.and_true]; exact (Bool.true_and _).symm
  | x :: y :: z :: w :: r =>
    rw [gParts_cons, gParts_cons, gParts_cons, gParts_nc, Bool.and_false, Bool.and_false, Bool.and_false]
    have : gTO 3 (.tup (x :: y :: z :: w :: r)) = false := by simp [gTO, tv]
    rw [this, Bool.false_and]
theorem gps4 (a b c d : Str) (rs : List U) : gParts [a, b, c, d] rs = (gTO 4 (.tup rs) && (gPart a (nth (.tup rs) 0) && (gPart b (nth (.tup rs) 1) && (gPart c (nth (.tup rs) 2) && gPart d (nth (.tup rs) 3))))) := by
  match rs with
  | [] => rw [gParts_cn]; rfl
  | [x] =>
    rw [gParts_cons, gParts_cn, Bool.and_false]
    have : gTO 4 (.tup [x]) = false := by simp [gTO, tv]
    rw [this, Bool.false_and]
  | [x, y] =>
    rw [gParts_cons, gParts_cons, gParts_cn, Bool.and_false, Bool.and_false]
    have : gTO 4 (.tup [x, y]) = false := by simp [gTO, tv]
    rw [this, Bool.false_and]
  | [x, y, z] =>
    rw [gParts_cons, gParts_cons, gParts_cons, gParts_cn, Bool.and_false, Bool.and_false, Bool.and_false]
    have : gTO 4 (.tup [x, y, z]) = false := by simp [gTO, tv]
    rw [this, Bool.false_and]
  | [x, y, z, w] => rw [gParts_cons, gParts_cons, gParts_cons, gParts_cons, gParts_nn, Bool.and_true]; exact (Bool.true_and _).symm
  | x :: y :: z :: w :: t :: r =>
    rw [gParts_cons, gParts_cons, gParts_cons, gParts_cons, gParts_nc, Bool.and_false, Bool.and_false, Bool.and_false, Bool.and_false]
    have : gTO 4 (.tup (x :: y :: z :: w :: t :: r)) = false := by simp [gTO, tv]
    rw [this, Bool.false_and]
theorem gV2_is (u : U) : gV2 u = (gTO 2 u && (gStamp (nth u 0) && gMembers (nth u 1))) := by
  cases u with
  | tup us =>
    match us with
    | [] => rfl
    | [a] => rfl
    | [a, b] => exact (Bool.true_and _).symm
    | a :: b :: c :: r =>
      have : gTO 2 (.tup (a :: b :: c :: r)) = false := by simp [gTO, tv]
      rw [this, Bool.false_and]
      rfl
  | _ => rfl
theorem gBlk_to (u : U) : gBlk u = (gTO 2 u && (gId (nth u 0) && gPiece (nth u 1))) := by
  rw [pair_TO]
  rfl
theorem gVote_is (u : U) : gVote u = (isNon u || gV2 u) := rfl
theorem gCnt_is (u : U) : gCnt u = gCount u := rfl
theorem inV_no {z : Str} : ∀ {ns : List Str}, (∀ n ∈ ns, n ≠ z) → inV (.str z) (ns.map V.str) = false
  | [], _ => rfl
  | n :: ns, h => by
    have ih := inV_no fun x hx => h x (List.mem_cons_of_mem _ hx)
    have e : eqV (.str n) (.str z) = false := by
      have := h n (by simp)
      simpa [eqV] using this
    show (eqV (.str n) (.str z) || inV (.str z) (ns.map V.str)) = false
    rw [e, ih]
    rfl
theorem eqZ_no {z y : Str} (h : y ≠ z) : eqZ z y = false := decide_eq_false fun e => h (V.str.inj e).symm
theorem lookT_pos {tab : List (Str × List Str)} {z : Str} {ks : List Str} (h : tabOf tab z = some ks) (us : List U) : lookT tab z us = gParts ks us := by
  unfold lookT
  rw [h]
theorem lookT_neg {tab : List (Str × List Str)} {z : Str} (h : tabOf tab z = none) (us : List U) : lookT tab z us = false := by
  unfold lookT
  rw [h]
theorem toT_no {z : Str} (h : (("ask" : Str) ≠ z) ∧ (("list" : Str) ≠ z) ∧ (("get" : Str) ≠ z) ∧ (("put" : Str) ≠ z) ∧ (("head" : Str) ≠ z) ∧ (("lease" : Str) ≠ z) ∧ (("free" : Str) ≠ z) ∧ (("prepare" : Str) ≠ z) ∧ (("accept" : Str) ≠ z) ∧ (("seal" : Str) ≠ z) ∧ (("install" : Str) ≠ z)) : tabOf toT z = none := by
  obtain ⟨h0, h1, h2, h3, h4, h5, h6, h7, h8, h9, h10⟩ := h
  show (if ("ask" : Str) = z then some _ else (if ("list" : Str) = z then some _ else (if ("get" : Str) = z then some _ else (if ("put" : Str) = z then some _ else (if ("head" : Str) = z then some _ else (if ("lease" : Str) = z then some _ else (if ("free" : Str) = z then some _ else (if ("prepare" : Str) = z then some _ else (if ("accept" : Str) = z then some _ else (if ("seal" : Str) = z then some _ else (if ("install" : Str) = z then some _ else none))))))))))) = none
  rw [if_neg h0, if_neg h1, if_neg h2, if_neg h3, if_neg h4, if_neg h5, if_neg h6, if_neg h7, if_neg h8, if_neg h9, if_neg h10]
theorem amT_no {z : Str} (h : (("sums" : Str) ≠ z) ∧ (("values" : Str) ≠ z) ∧ (("roots" : Str) ≠ z) ∧ (("heads" : Str) ≠ z)) : tabOf amT z = none := by
  obtain ⟨h0, h1, h2, h3⟩ := h
  show (if ("sums" : Str) = z then some _ else (if ("values" : Str) = z then some _ else (if ("roots" : Str) = z then some _ else (if ("heads" : Str) = z then some _ else none)))) = none
  rw [if_neg h0, if_neg h1, if_neg h2, if_neg h3]
theorem thT_no {z : Str} (h : (("told" : Str) ≠ z) ∧ (("names" : Str) ≠ z) ∧ (("block" : Str) ≠ z) ∧ (("none" : Str) ≠ z) ∧ (("have" : Str) ≠ z) ∧ (("kept" : Str) ≠ z) ∧ (("lacks" : Str) ≠ z) ∧ (("leased" : Str) ≠ z) ∧ (("granted" : Str) ≠ z) ∧ (("freed" : Str) ≠ z) ∧ (("promised" : Str) ≠ z) ∧ (("voted" : Str) ≠ z) ∧ (("beaten" : Str) ≠ z) ∧ (("sealed" : Str) ≠ z) ∧ (("stood" : Str) ≠ z) ∧ (("installed" : Str) ≠ z) ∧ (("moved" : Str) ≠ z) ∧ (("behind" : Str) ≠ z)) : tabOf thT z = none := by
  obtain ⟨h0, h1, h2, h3, h4, h5, h6, h7, h8, h9, h10, h11, h12, h13, h14, h15, h16, h17⟩ := h
  show (if ("told" : Str) = z then some _ else (if ("names" : Str) = z then some _ else (if ("block" : Str) = z then some _ else (if ("none" : Str) = z then some _ else (if ("have" : Str) = z then some _ else (if ("kept" : Str) = z then some _ else (if ("lacks" : Str) = z then some _ else (if ("leased" : Str) = z then some _ else (if ("granted" : Str) = z then some _ else (if ("freed" : Str) = z then some _ else (if ("promised" : Str) = z then some _ else (if ("voted" : Str) = z then some _ else (if ("beaten" : Str) = z then some _ else (if ("sealed" : Str) = z then some _ else (if ("stood" : Str) = z then some _ else (if ("installed" : Str) = z then some _ else (if ("moved" : Str) = z then some _ else (if ("behind" : Str) = z then some _ else none)))))))))))))))))) = none
  rw [if_neg h0, if_neg h1, if_neg h2, if_neg h3, if_neg h4, if_neg h5, if_neg h6, if_neg h7, if_neg h8, if_neg h9, if_neg h10, if_neg h11, if_neg h12, if_neg h13, if_neg h14, if_neg h15, if_neg h16, if_neg h17]
end Hs
namespace Hs
open PySem PySem.Spec PyProof.Rows L2 Hu Evl
theorem look_toHome (z : Str) (e : U) (rs : List U) : lookT toT z (e :: rs) = (gCount e && gToHomeL z (.tup rs)) := by
  by_cases h_ask : ("ask" : Str) = z
  · subst h_ask
    rw [lookT_pos (ks := ["epoch", "name"]) (by decide +kernel), gParts_cons]
    unfold gToHomeL
    rw [if_pos (by decide +kernel)]
    simp only [gps0, gps1, gps2, gps3, gps4, gV2_is, gBlk_to, gVote_is, gCnt_is, gH3, Bool.and_assoc, gp_epoch, gp_talk, gp_size, gp_name, gp_hand, gp_stamp, gp_ballot, gp_row, gp_id, gp_piece, gp_members, gp_ahead, gp_voted, gp_many, gp_heads, gp_blocks, gp_names, gp_ids, gp_sums, gp_factor]
  by_cases h_lease : ("lease" : Str) = z
  · subst h_lease
    rw [lookT_pos (ks := ["epoch", "name"]) (by decide +kernel), gParts_cons]
    unfold gToHomeL
    rw [if_pos (by decide +kernel)]
    simp only [gps0, gps1, gps2, gps3, gps4, gV2_is, gBlk_to, gVote_is, gCnt_is, gH3, Bool.and_assoc, gp_epoch, gp_talk, gp_size, gp_name, gp_hand, gp_stamp, gp_ballot, gp_row, gp_id, gp_piece, gp_members, gp_ahead, gp_voted, gp_many, gp_heads, gp_blocks, gp_names, gp_ids, gp_sums, gp_factor]
  by_cases h_free : ("free" : Str) = z
  · subst h_free
    rw [lookT_pos (ks := ["epoch", "name"]) (by decide +kernel), gParts_cons]
    unfold gToHomeL
    rw [if_pos (by decide +kernel)]
    simp only [gps0, gps1, gps2, gps3, gps4, gV2_is, gBlk_to, gVote_is, gCnt_is, gH3, Bool.and_assoc, gp_epoch, gp_talk, gp_size, gp_name, gp_hand, gp_stamp, gp_ballot, gp_row, gp_id, gp_piece, gp_members, gp_ahead, gp_voted, gp_many, gp_heads, gp_blocks, gp_names, gp_ids, gp_sums, gp_factor]
  by_cases h_list : ("list" : Str) = z
  · subst h_list
    rw [lookT_pos (ks := ["epoch"]) (by decide +kernel), gParts_cons]
    unfold gToHomeL
    rw [if_neg (by decide +kernel), if_pos (by decide +kernel)]
    simp only [gps0, gps1, gps2, gps3, gps4, gV2_is, gBlk_to, gVote_is, gCnt_is, gH3, Bool.and_assoc, gp_epoch, gp_talk, gp_size, gp_name, gp_hand, gp_stamp, gp_ballot, gp_row, gp_id, gp_piece, gp_members, gp_ahead, gp_voted, gp_many, gp_heads, gp_blocks, gp_names, gp_ids, gp_sums, gp_factor]
  by_cases h_get : ("get" : Str) = z
  · subst h_get
    rw [lookT_pos (ks := ["epoch", "id"]) (by decide +kernel), gParts_cons]
    unfold gToHomeL
    rw [if_neg (by decide +kernel), if_neg (by decide +kernel), if_pos (by decide +kernel)]
    simp only [gps0, gps1, gps2, gps3, gps4, gV2_is, gBlk_to, gVote_is, gCnt_is, gH3, Bool.and_assoc, gp_epoch, gp_talk, gp_size, gp_name, gp_hand, gp_stamp, gp_ballot, gp_row, gp_id, gp_piece, gp_members, gp_ahead, gp_voted, gp_many, gp_heads, gp_blocks, gp_names, gp_ids, gp_sums, gp_factor]
  by_cases h_put : ("put" : Str) = z
  · subst h_put
    rw [lookT_pos (ks := ["epoch", "id", "piece"]) (by decide +kernel), gParts_cons]
    unfold gToHomeL
    rw [if_neg (by decide +kernel), if_neg (by decide +kernel), if_neg (by decide +kernel), if_pos (by decide +kernel)]
    simp only [gps0, gps1, gps2, gps3, gps4, gV2_is, gBlk_to, gVote_is, gCnt_is, gH3, Bool.and_assoc, gp_epoch, gp_talk, gp_size, gp_name, gp_hand, gp_stamp, gp_ballot, gp_row, gp_id, gp_piece, gp_members, gp_ahead, gp_voted, gp_many, gp_heads, gp_blocks, gp_names, gp_ids, gp_sums, gp_factor]
  by_cases h_head : ("head" : Str) = z
  · subst h_head
    rw [lookT_pos (ks := ["epoch", "name", "stamp", "row"]) (by decide +kernel), gParts_cons]
    unfold gToHomeL
    rw [if_neg (by decide +kernel), if_neg (by decide +kernel), if_neg (by decide +kernel), if_neg (by decide +kernel), if_pos (by decide +kernel)]
    simp only [gps0, gps1, gps2, gps3, gps4, gV2_is, gBlk_to, gVote_is, gCnt_is, gH3, Bool.and_assoc, gp_epoch, gp_talk, gp_size, gp_name, gp_hand, gp_stamp, gp_ballot, gp_row, gp_id, gp_piece, gp_members, gp_ahead, gp_voted, gp_many, gp_heads, gp_blocks, gp_names, gp_ids, gp_sums, gp_factor]
  by_cases h_prepare : ("prepare" : Str) = z
  · subst h_prepare
    rw [lookT_pos (ks := ["epoch", "ballot"]) (by decide +kernel), gParts_cons]
    unfold gToHomeL
    rw [if_neg (by decide +kernel), if_neg (by decide +kernel), if_neg (by decide +kernel), if_neg (by decide +kernel), if_neg (by decide +kernel), if_pos (by decide +kernel)]
    simp only [gps0, gps1, gps2, gps3, gps4, gV2_is, gBlk_to, gVote_is, gCnt_is, gH3, Bool.and_assoc, gp_epoch, gp_talk, gp_size, gp_name, gp_hand, gp_stamp, gp_ballot, gp_row, gp_id, gp_piece, gp_members, gp_ahead, gp_voted, gp_many, gp_heads, gp_blocks, gp_names, gp_ids, gp_sums, gp_factor]
  by_cases h_accept : ("accept" : Str) = z
  · subst h_accept
    rw [lookT_pos (ks := ["epoch", "ballot", "members"]) (by decide +kernel), gParts_cons]
    unfold gToHomeL
    rw [if_neg (by decide +kernel), if_neg (by decide +kernel), if_neg (by decide +kernel), if_neg (by decide +kernel), if_neg (by decide +kernel), if_neg (by decide +kernel), if_pos (by decide +kernel)]
    simp only [gps0, gps1, gps2, gps3, gps4, gV2_is, gBlk_to, gVote_is, gCnt_is, gH3, Bool.and_assoc, gp_epoch, gp_talk, gp_size, gp_name, gp_hand, gp_stamp, gp_ballot, gp_row, gp_id, gp_piece, gp_members, gp_ahead, gp_voted, gp_many, gp_heads, gp_blocks, gp_names, gp_ids, gp_sums, gp_factor]
  by_cases h_seal : ("seal" : Str) = z
  · subst h_seal
    rw [lookT_pos (ks := ["epoch", "members"]) (by decide +kernel), gParts_cons]
    unfold gToHomeL
    rw [if_neg (by decide +kernel), if_neg (by decide +kernel), if_neg (by decide +kernel), if_neg (by decide +kernel), if_neg (by decide +kernel), if_neg (by decide +kernel), if_neg (by decide +kernel), if_pos (by decide +kernel)]
    simp only [gps0, gps1, gps2, gps3, gps4, gV2_is, gBlk_to, gVote_is, gCnt_is, gH3, Bool.and_assoc, gp_epoch, gp_talk, gp_size, gp_name, gp_hand, gp_stamp, gp_ballot, gp_row, gp_id, gp_piece, gp_members, gp_ahead, gp_voted, gp_many, gp_heads, gp_blocks, gp_names, gp_ids, gp_sums, gp_factor]
  by_cases h_install : ("install" : Str) = z
  · subst h_install
    rw [lookT_pos (ks := ["epoch", "members", "ahead", "heads", "blocks"]) (by decide +kernel), gParts_cons]
    unfold gToHomeL
    rw [if_neg (by decide +kernel), if_neg (by decide +kernel), if_neg (by decide +kernel), if_neg (by decide +kernel), if_neg (by decide +kernel), if_neg (by decide +kernel), if_neg (by decide +kernel), if_neg (by decide +kernel)]
    have g0 : eqZ "install" "install" = true := by decide +kernel
    rw [g0, Bool.not_true, Bool.false_or]
    have g1 : ∀ a b c : Bool, (if (a || b) = true then false else c) = (!a && (!b && c)) := by decide
    rw [g1, Bool.not_not, Bool.not_not]
    simp only [gps0, gps1, gps2, gps3, gps4, gV2_is, gBlk_to, gVote_is, gCnt_is, gH3, Bool.and_assoc, gp_epoch, gp_talk, gp_size, gp_name, gp_hand, gp_stamp, gp_ballot, gp_row, gp_id, gp_piece, gp_members, gp_ahead, gp_voted, gp_many, gp_heads, gp_blocks, gp_names, gp_ids, gp_sums, gp_factor]
  rw [lookT_neg (toT_no ⟨h_ask, h_list, h_get, h_put, h_head, h_lease, h_free, h_prepare, h_accept, h_seal, h_install⟩)]
  unfold gToHomeL
  rw [if_neg (by rw [show inV (.str z) [.str "ask", .str "lease", .str "free"] = false from inV_no (ns := ["ask", "lease", "free"]) (by simp only [List.forall_mem_cons, List.not_mem_nil, false_imp_iff, implies_true, and_true]; exact ⟨h_ask, h_lease, h_free⟩)]; decide)]
  rw [if_neg (by rw [eqZ_no h_list]; decide)]
  rw [if_neg (by rw [eqZ_no h_get]; decide)]
  rw [if_neg (by rw [eqZ_no h_put]; decide)]
  rw [if_neg (by rw [eqZ_no h_head]; decide)]
  rw [if_neg (by rw [eqZ_no h_prepare]; decide)]
  rw [if_neg (by rw [eqZ_no h_accept]; decide)]
  rw [if_neg (by rw [eqZ_no h_seal]; decide)]
  rw [eqZ_no h_install, Bool.not_false, Bool.true_or, if_pos rfl, Bool.and_false]
theorem if_not2 : ∀ a b c : Bool, (if (!a || !b) = true then false else c) = (a && (b && c)) := by decide
theorem if_not3 : ∀ a b c d : Bool, (if (!a || !b || !c) = true then false else d) = (a && (b && (c && d))) := by decide
theorem if_not3r : ∀ a b c d : Bool, (if (!a || (!b || !c)) = true then false else d) = (a && (b && (c && d))) := by decide
theorem look_among (z : Str) (e : U) (rs : List U) : lookT amT z (e :: rs) = (gCount e && gBetweenL z (.tup rs)) := by
  by_cases h_sums : ("sums" : Str) = z
  · subst h_sums
    rw [lookT_pos (ks := ["epoch", "many"]) (by decide +kernel), gParts_cons]
    unfold gBetweenL
    rw [if_pos (by decide +kernel)]
    simp only [gps0, gps1, gps2, gps3, gps4, gV2_is, gBlk_to, gVote_is, gCnt_is, gH3, Bool.and_assoc, gp_epoch, gp_talk, gp_size, gp_name, gp_hand, gp_stamp, gp_ballot, gp_row, gp_id, gp_piece, gp_members, gp_ahead, gp_voted, gp_many, gp_heads, gp_blocks, gp_names, gp_ids, gp_sums, gp_factor, if_not2, if_not3, if_not3r]
  by_cases h_values : ("values" : Str) = z
  · subst h_values
    rw [lookT_pos (ks := ["epoch", "many", "size", "sums"]) (by decide +kernel), gParts_cons]
    unfold gBetweenL
    rw [if_neg (by decide +kernel), if_pos (by decide +kernel)]
    simp only [gps0, gps1, gps2, gps3, gps4, gV2_is, gBlk_to, gVote_is, gCnt_is, gH3, Bool.and_assoc, gp_epoch, gp_talk, gp_size, gp_name, gp_hand, gp_stamp, gp_ballot, gp_row, gp_id, gp_piece, gp_members, gp_ahead, gp_voted, gp_many, gp_heads, gp_blocks, gp_names, gp_ids, gp_sums, gp_factor, if_not2, if_not3, if_not3r]
  by_cases h_roots : ("roots" : Str) = z
  · subst h_roots
    rw [lookT_pos (ks := ["epoch", "factor"]) (by decide +kernel), gParts_cons]
    unfold gBetweenL
    rw [if_neg (by decide +kernel), if_neg (by decide +kernel), if_pos (by decide +kernel)]
    simp only [gps0, gps1, gps2, gps3, gps4, gV2_is, gBlk_to, gVote_is, gCnt_is, gH3, Bool.and_assoc, gp_epoch, gp_talk, gp_size, gp_name, gp_hand, gp_stamp, gp_ballot, gp_row, gp_id, gp_piece, gp_members, gp_ahead, gp_voted, gp_many, gp_heads, gp_blocks, gp_names, gp_ids, gp_sums, gp_factor, if_not2, if_not3, if_not3r]
  by_cases h_heads : ("heads" : Str) = z
  · subst h_heads
    rw [lookT_pos (ks := ["epoch", "heads", "blocks"]) (by decide +kernel), gParts_cons]
    unfold gBetweenL
    rw [if_neg (by decide +kernel), if_neg (by decide +kernel), if_neg (by decide +kernel)]
    have g0 : eqZ "heads" "heads" = true := by decide +kernel
    rw [g0, Bool.true_and]
    simp only [gps0, gps1, gps2, gps3, gps4, gV2_is, gBlk_to, gVote_is, gCnt_is, gH3, Bool.and_assoc, gp_epoch, gp_talk, gp_size, gp_name, gp_hand, gp_stamp, gp_ballot, gp_row, gp_id, gp_piece, gp_members, gp_ahead, gp_voted, gp_many, gp_heads, gp_blocks, gp_names, gp_ids, gp_sums, gp_factor, if_not2, if_not3, if_not3r]
  rw [lookT_neg (amT_no ⟨h_sums, h_values, h_roots, h_heads⟩)]
  unfold gBetweenL
  rw [if_neg (by rw [eqZ_no h_sums]; decide)]
  rw [if_neg (by rw [eqZ_no h_values]; decide)]
  rw [if_neg (by rw [eqZ_no h_roots]; decide)]
  rw [eqZ_no h_heads, Bool.false_and, Bool.and_false]
theorem look_toHand (z : Str) (e : U) (rs : List U) : lookT thT z (e :: rs) = (gCount e && gToHandL z (.tup rs)) := by
  by_cases h_told : ("told" : Str) = z
  · subst h_told
    rw [lookT_pos (ks := ["epoch", "name", "stamp", "row"]) (by decide +kernel), gParts_cons]
    unfold gToHandL
    rw [if_pos (by decide +kernel)]
    simp only [gps0, gps1, gps2, gps3, gps4, gV2_is, gBlk_to, gVote_is, gCnt_is, gH3, Bool.and_assoc, gp_epoch, gp_talk, gp_size, gp_name, gp_hand, gp_stamp, gp_ballot, gp_row, gp_id, gp_piece, gp_members, gp_ahead, gp_voted, gp_many, gp_heads, gp_blocks, gp_names, gp_ids, gp_sums, gp_factor, if_not2, if_not3, if_not3r]
  by_cases h_granted : ("granted" : Str) = z
  · subst h_granted
    rw [lookT_pos (ks := ["epoch", "name", "stamp", "row"]) (by decide +kernel), gParts_cons]
    unfold gToHandL
    rw [if_pos (by decide +kernel)]
    simp only [gps0, gps1, gps2, gps3, gps4, gV2_is, gBlk_to, gVote_is, gCnt_is, gH3, Bool.and_assoc, gp_epoch, gp_talk, gp_size, gp_name, gp_hand, gp_stamp, gp_ballot, gp_row, gp_id, gp_piece, gp_members, gp_ahead, gp_voted, gp_many, gp_heads, gp_blocks, gp_names, gp_ids, gp_sums, gp_factor, if_not2, if_not3, if_not3r]
  by_cases h_names : ("names" : Str) = z
  · subst h_names
    rw [lookT_pos (ks := ["epoch", "names"]) (by decide +kernel), gParts_cons]
    unfold gToHandL
    rw [if_neg (by decide +kernel), if_pos (by decide +kernel)]
    simp only [gps0, gps1, gps2, gps3, gps4, gV2_is, gBlk_to, gVote_is, gCnt_is, gH3, Bool.and_assoc, gp_epoch, gp_talk, gp_size, gp_name, gp_hand, gp_stamp, gp_ballot, gp_row, gp_id, gp_piece, gp_members, gp_ahead, gp_voted, gp_many, gp_heads, gp_blocks, gp_names, gp_ids, gp_sums, gp_factor, if_not2, if_not3, if_not3r]
  by_cases h_block : ("block" : Str) = z
  · subst h_block
    rw [lookT_pos (ks := ["epoch", "id", "piece"]) (by decide +kernel), gParts_cons]
    unfold gToHandL
    rw [if_neg (by decide +kernel), if_neg (by decide +kernel), if_pos (by decide +kernel)]
    simp only [gps0, gps1, gps2, gps3, gps4, gV2_is, gBlk_to, gVote_is, gCnt_is, gH3, Bool.and_assoc, gp_epoch, gp_talk, gp_size, gp_name, gp_hand, gp_stamp, gp_ballot, gp_row, gp_id, gp_piece, gp_members, gp_ahead, gp_voted, gp_many, gp_heads, gp_blocks, gp_names, gp_ids, gp_sums, gp_factor, if_not2, if_not3, if_not3r]
  by_cases h_none : ("none" : Str) = z
  · subst h_none
    rw [lookT_pos (ks := ["epoch", "id"]) (by decide +kernel), gParts_cons]
    unfold gToHandL
    rw [if_neg (by decide +kernel), if_neg (by decide +kernel), if_neg (by decide +kernel), if_pos (by decide +kernel)]
    simp only [gps0, gps1, gps2, gps3, gps4, gV2_is, gBlk_to, gVote_is, gCnt_is, gH3, Bool.and_assoc, gp_epoch, gp_talk, gp_size, gp_name, gp_hand, gp_stamp, gp_ballot, gp_row, gp_id, gp_piece, gp_members, gp_ahead, gp_voted, gp_many, gp_heads, gp_blocks, gp_names, gp_ids, gp_sums, gp_factor, if_not2, if_not3, if_not3r]
  by_cases h_have : ("have" : Str) = z
  · subst h_have
    rw [lookT_pos (ks := ["epoch", "id"]) (by decide +kernel), gParts_cons]
    unfold gToHandL
    rw [if_neg (by decide +kernel), if_neg (by decide +kernel), if_neg (by decide +kernel), if_pos (by decide +kernel)]
    simp only [gps0, gps1, gps2, gps3, gps4, gV2_is, gBlk_to, gVote_is, gCnt_is, gH3, Bool.and_assoc, gp_epoch, gp_talk, gp_size, gp_name, gp_hand, gp_stamp, gp_ballot, gp_row, gp_id, gp_piece, gp_members, gp_ahead, gp_voted, gp_many, gp_heads, gp_blocks, gp_names, gp_ids, gp_sums, gp_factor, if_not2, if_not3, if_not3r]
  by_cases h_kept : ("kept" : Str) = z
  · subst h_kept
    rw [lookT_pos (ks := ["epoch", "name", "stamp"]) (by decide +kernel), gParts_cons]
    unfold gToHandL
    rw [if_neg (by decide +kernel), if_neg (by decide +kernel), if_neg (by decide +kernel), if_neg (by decide +kernel), if_pos (by decide +kernel)]
    simp only [gps0, gps1, gps2, gps3, gps4, gV2_is, gBlk_to, gVote_is, gCnt_is, gH3, Bool.and_assoc, gp_epoch, gp_talk, gp_size, gp_name, gp_hand, gp_stamp, gp_ballot, gp_row, gp_id, gp_piece, gp_members, gp_ahead, gp_voted, gp_many, gp_heads, gp_blocks, gp_names, gp_ids, gp_sums, gp_factor, if_not2, if_not3, if_not3r]
  by_cases h_lacks : ("lacks" : Str) = z
  · subst h_lacks
    rw [lookT_pos (ks := ["epoch", "name", "stamp", "ids"]) (by decide +kernel), gParts_cons]
    unfold gToHandL
    rw [if_neg (by decide +kernel), if_neg (by decide +kernel), if_neg (by decide +kernel), if_neg (by decide +kernel), if_neg (by decide +kernel), if_pos (by decide +kernel)]
    simp only [gps0, gps1, gps2, gps3, gps4, gV2_is, gBlk_to, gVote_is, gCnt_is, gH3, Bool.and_assoc, gp_epoch, gp_talk, gp_size, gp_name, gp_hand, gp_stamp, gp_ballot, gp_row, gp_id, gp_piece, gp_members, gp_ahead, gp_voted, gp_many, gp_heads, gp_blocks, gp_names, gp_ids, gp_sums, gp_factor, if_not2, if_not3, if_not3r]
  by_cases h_freed : ("freed" : Str) = z
  · subst h_freed
    rw [lookT_pos (ks := ["epoch", "name"]) (by decide +kernel), gParts_cons]
    unfold gToHandL
    rw [if_neg (by decide +kernel), if_neg (by decide +kernel), if_neg (by decide +kernel), if_neg (by decide +kernel), if_neg (by decide +kernel), if_neg (by decide +kernel), if_pos (by decide +kernel)]
    simp only [gps0, gps1, gps2, gps3, gps4, gV2_is, gBlk_to, gVote_is, gCnt_is, gH3, Bool.and_assoc, gp_epoch, gp_talk, gp_size, gp_name, gp_hand, gp_stamp, gp_ballot, gp_row, gp_id, gp_piece, gp_members, gp_ahead, gp_voted, gp_many, gp_heads, gp_blocks, gp_names, gp_ids, gp_sums, gp_factor, if_not2, if_not3, if_not3r]
  by_cases h_leased : ("leased" : Str) = z
  · subst h_leased
    rw [lookT_pos (ks := ["epoch"]) (by decide +kernel), gParts_cons]
    unfold gToHandL
    rw [if_neg (by decide +kernel), if_neg (by decide +kernel), if_neg (by decide +kernel), if_neg (by decide +kernel), if_neg (by decide +kernel), if_neg (by decide +kernel), if_neg (by decide +kernel), if_pos (by decide +kernel)]
    simp only [gps0, gps1, gps2, gps3, gps4, gV2_is, gBlk_to, gVote_is, gCnt_is, gH3, Bool.and_assoc, gp_epoch, gp_talk, gp_size, gp_name, gp_hand, gp_stamp, gp_ballot, gp_row, gp_id, gp_piece, gp_members, gp_ahead, gp_voted, gp_many, gp_heads, gp_blocks, gp_names, gp_ids, gp_sums, gp_factor, if_not2, if_not3, if_not3r]
  by_cases h_installed : ("installed" : Str) = z
  · subst h_installed
    rw [lookT_pos (ks := ["epoch"]) (by decide +kernel), gParts_cons]
    unfold gToHandL
    rw [if_neg (by decide +kernel), if_neg (by decide +kernel), if_neg (by decide +kernel), if_neg (by decide +kernel), if_neg (by decide +kernel), if_neg (by decide +kernel), if_neg (by decide +kernel), if_pos (by decide +kernel)]
    simp only [gps0, gps1, gps2, gps3, gps4, gV2_is, gBlk_to, gVote_is, gCnt_is, gH3, Bool.and_assoc, gp_epoch, gp_talk, gp_size, gp_name, gp_hand, gp_stamp, gp_ballot, gp_row, gp_id, gp_piece, gp_members, gp_ahead, gp_voted, gp_many, gp_heads, gp_blocks, gp_names, gp_ids, gp_sums, gp_factor, if_not2, if_not3, if_not3r]
  by_cases h_behind : ("behind" : Str) = z
  · subst h_behind
    rw [lookT_pos (ks := ["epoch"]) (by decide +kernel), gParts_cons]
    unfold gToHandL
    rw [if_neg (by decide +kernel), if_neg (by decide +kernel), if_neg (by decide +kernel), if_neg (by decide +kernel), if_neg (by decide +kernel), if_neg (by decide +kernel), if_neg (by decide +kernel), if_pos (by decide +kernel)]
    simp only [gps0, gps1, gps2, gps3, gps4, gV2_is, gBlk_to, gVote_is, gCnt_is, gH3, Bool.and_assoc, gp_epoch, gp_talk, gp_size, gp_name, gp_hand, gp_stamp, gp_ballot, gp_row, gp_id, gp_piece, gp_members, gp_ahead, gp_voted, gp_many, gp_heads, gp_blocks, gp_names, gp_ids, gp_sums, gp_factor, if_not2, if_not3, if_not3r]
  by_cases h_voted : ("voted" : Str) = z
  · subst h_voted
    rw [lookT_pos (ks := ["epoch", "ballot"]) (by decide +kernel), gParts_cons]
    unfold gToHandL
    rw [if_neg (by decide +kernel), if_neg (by decide +kernel), if_neg (by decide +kernel), if_neg (by decide +kernel), if_neg (by decide +kernel), if_neg (by decide +kernel), if_neg (by decide +kernel), if_neg (by decide +kernel)]
    unfold gVotingL
    rw [if_pos (by decide +kernel)]
    simp only [gps0, gps1, gps2, gps3, gps4, gV2_is, gBlk_to, gVote_is, gCnt_is, gH3, Bool.and_assoc, gp_epoch, gp_talk, gp_size, gp_name, gp_hand, gp_stamp, gp_ballot, gp_row, gp_id, gp_piece, gp_members, gp_ahead, gp_voted, gp_many, gp_heads, gp_blocks, gp_names, gp_ids, gp_sums, gp_factor, if_not2, if_not3, if_not3r]
  by_cases h_beaten : ("beaten" : Str) = z
  · subst h_beaten
    rw [lookT_pos (ks := ["epoch", "ballot"]) (by decide +kernel), gParts_cons]
    unfold gToHandL
    rw [if_neg (by decide +kernel), if_neg (by decide +kernel), if_neg (by decide +kernel), if_neg (by decide +kernel), if_neg (by decide +kernel), if_neg (by decide +kernel), if_neg (by decide +kernel), if_neg (by decide +kernel)]
    unfold gVotingL
    rw [if_pos (by decide +kernel)]
    simp only [gps0, gps1, gps2, gps3, gps4, gV2_is, gBlk_to, gVote_is, gCnt_is, gH3, Bool.and_assoc, gp_epoch, gp_talk, gp_size, gp_name, gp_hand, gp_stamp, gp_ballot, gp_row, gp_id, gp_piece, gp_members, gp_ahead, gp_voted, gp_many, gp_heads, gp_blocks, gp_names, gp_ids, gp_sums, gp_factor, if_not2, if_not3, if_not3r]
  by_cases h_promised : ("promised" : Str) = z
  · subst h_promised
    rw [lookT_pos (ks := ["epoch", "ballot", "voted"]) (by decide +kernel), gParts_cons]
    unfold gToHandL
    rw [if_neg (by decide +kernel), if_neg (by decide +kernel), if_neg (by decide +kernel), if_neg (by decide +kernel), if_neg (by decide +kernel), if_neg (by decide +kernel), if_neg (by decide +kernel), if_neg (by decide +kernel)]
    unfold gVotingL
    rw [if_neg (by decide +kernel), if_pos (by decide +kernel)]
    simp only [gps0, gps1, gps2, gps3, gps4, gV2_is, gBlk_to, gVote_is, gCnt_is, gH3, Bool.and_assoc, gp_epoch, gp_talk, gp_size, gp_name, gp_hand, gp_stamp, gp_ballot, gp_row, gp_id, gp_piece, gp_members, gp_ahead, gp_voted, gp_many, gp_heads, gp_blocks, gp_names, gp_ids, gp_sums, gp_factor, if_not2, if_not3, if_not3r]
  by_cases h_sealed : ("sealed" : Str) = z
  · subst h_sealed
    rw [lookT_pos (ks := ["epoch", "members", "heads", "blocks"]) (by decide +kernel), gParts_cons]
    unfold gToHandL
    rw [if_neg (by decide +kernel), if_neg (by decide +kernel), if_neg (by decide +kernel), if_neg (by decide +kernel), if_neg (by decide +kernel), if_neg (by decide +kernel), if_neg (by decide +kernel), if_neg (by decide +kernel)]
    unfold gVotingL
    rw [if_neg (by decide +kernel), if_neg (by decide +kernel), if_pos (by decide +kernel)]
    simp only [gps0, gps1, gps2, gps3, gps4, gV2_is, gBlk_to, gVote_is, gCnt_is, gH3, Bool.and_assoc, gp_epoch, gp_talk, gp_size, gp_name, gp_hand, gp_stamp, gp_ballot, gp_row, gp_id, gp_piece, gp_members, gp_ahead, gp_voted, gp_many, gp_heads, gp_blocks, gp_names, gp_ids, gp_sums, gp_factor, if_not2, if_not3, if_not3r]
  by_cases h_stood : ("stood" : Str) = z
  · subst h_stood
    rw [lookT_pos (ks := ["epoch", "members", "heads", "blocks"]) (by decide +kernel), gParts_cons]
    unfold gToHandL
    rw [if_neg (by decide +kernel), if_neg (by decide +kernel), if_neg (by decide +kernel), if_neg (by decide +kernel), if_neg (by decide +kernel), if_neg (by decide +kernel), if_neg (by decide +kernel), if_neg (by decide +kernel)]
    unfold gVotingL
    rw [if_neg (by decide +kernel), if_neg (by decide +kernel), if_pos (by decide +kernel)]
    simp only [gps0, gps1, gps2, gps3, gps4, gV2_is, gBlk_to, gVote_is, gCnt_is, gH3, Bool.and_assoc, gp_epoch, gp_talk, gp_size, gp_name, gp_hand, gp_stamp, gp_ballot, gp_row, gp_id, gp_piece, gp_members, gp_ahead, gp_voted, gp_many, gp_heads, gp_blocks, gp_names, gp_ids, gp_sums, gp_factor, if_not2, if_not3, if_not3r]
  by_cases h_moved : ("moved" : Str) = z
  · subst h_moved
    rw [lookT_pos (ks := ["epoch", "epoch", "members", "ahead"]) (by decide +kernel), gParts_cons]
    unfold gToHandL
    rw [if_neg (by decide +kernel), if_neg (by decide +kernel), if_neg (by decide +kernel), if_neg (by decide +kernel), if_neg (by decide +kernel), if_neg (by decide +kernel), if_neg (by decide +kernel), if_neg (by decide +kernel)]
    unfold gVotingL
    rw [if_neg (by decide +kernel), if_neg (by decide +kernel), if_neg (by decide +kernel)]
    have g0 : eqZ "moved" "moved" = true := by decide +kernel
    rw [g0, Bool.not_true, Bool.false_or]
    have g1 : ∀ a b c : Bool, (if (a || b) = true then false else c) = (!a && (!b && c)) := by decide
    rw [g1, Bool.not_not, Bool.not_not]
    simp only [gps0, gps1, gps2, gps3, gps4, gV2_is, gBlk_to, gVote_is, gCnt_is, gH3, Bool.and_assoc, gp_epoch, gp_talk, gp_size, gp_name, gp_hand, gp_stamp, gp_ballot, gp_row, gp_id, gp_piece, gp_members, gp_ahead, gp_voted, gp_many, gp_heads, gp_blocks, gp_names, gp_ids, gp_sums, gp_factor, if_not2, if_not3, if_not3r]
  rw [lookT_neg (thT_no ⟨h_told, h_names, h_block, h_none, h_have, h_kept, h_lacks, h_leased, h_granted, h_freed, h_promised, h_voted, h_beaten, h_sealed, h_stood, h_installed, h_moved, h_behind⟩)]
  unfold gToHandL
  rw [if_neg (by rw [show inV (.str z) [.str "told", .str "granted"] = false from inV_no (ns := ["told", "granted"]) (by simp only [List.forall_mem_cons, List.not_mem_nil, false_imp_iff, implies_true, and_true]; exact ⟨h_told, h_granted⟩)]; decide)]
  rw [if_neg (by rw [eqZ_no h_names]; decide)]
  rw [if_neg (by rw [eqZ_no h_block]; decide)]
  rw [if_neg (by rw [show inV (.str z) [.str "none", .str "have"] = false from inV_no (ns := ["none", "have"]) (by simp only [List.forall_mem_cons, List.not_mem_nil, false_imp_iff, implies_true, and_true]; exact ⟨h_none, h_have⟩)]; decide)]
  rw [if_neg (by rw [eqZ_no h_kept]; decide)]
  rw [if_neg (by rw [eqZ_no h_lacks]; decide)]
  rw [if_neg (by rw [eqZ_no h_freed]; decide)]
  rw [if_neg (by rw [show inV (.str z) [.str "leased", .str "installed", .str "behind"] = false from inV_no (ns := ["leased", "installed", "behind"]) (by simp only [List.forall_mem_cons, List.not_mem_nil, false_imp_iff, implies_true, and_true]; exact ⟨h_leased, h_installed, h_behind⟩)]; decide)]
  unfold gVotingL
  rw [if_neg (by rw [show inV (.str z) [.str "voted", .str "beaten"] = false from inV_no (ns := ["voted", "beaten"]) (by simp only [List.forall_mem_cons, List.not_mem_nil, false_imp_iff, implies_true, and_true]; exact ⟨h_voted, h_beaten⟩)]; decide)]
  rw [if_neg (by rw [eqZ_no h_promised]; decide)]
  rw [if_neg (by rw [show inV (.str z) [.str "sealed", .str "stood"] = false from inV_no (ns := ["sealed", "stood"]) (by simp only [List.forall_mem_cons, List.not_mem_nil, false_imp_iff, implies_true, and_true]; exact ⟨h_sealed, h_stood⟩)]; decide)]
  rw [eqZ_no h_moved, Bool.not_false, Bool.true_or, if_pos rfl, Bool.and_false]
end Hs
/-! the law's own judge of a letter -/
namespace Hs
open PySem PySem.Spec PyProof.Rows L2 Hu Evl
section
variable {P : Program} {wd : World} {K : PySem.W.Frag} {mg : Str → Option Value} {base : Heap} {C : Addr}
theorem at_tail {w : Addr} {H : Hp} {v : V} {e : U} {rs : List U} {Q : VK} (hw : ∃ o, H w = some o) (a : At w C H v (.tup (e :: rs))) (q : ∀ v' H', Ex H H' → At w C H' v' (.tup rs) → Q v' H') : rSlA K v (some 1) none H Q := by
  obtain ⟨p, xs, rfl, hp, np, l⟩ := at_tup a
  have hl := AtL.length l
  cases l with
  | @cons x _ xs' _ hx l =>
    refine ⟨p, _, rfl, st_of hp, fun z => ?_, fun z p2 hp2 => ?_⟩
    · exfalso
      have := z.1
      rw [show (some (1 : Int)) = some ((1 : Nat) : Int) from rfl, HT.sIx_nat, List.length_cons] at this
      omega
    · refine q _ _ (Ex.new hp2) (.tup upd_same (fun ep => ?_) (ex_atl (Ex.new hp2) ?_))
      · obtain ⟨o, ho⟩ := hw
        rw [ep, ho] at hp2
        cases hp2
      · have : cutV (x :: xs') (some 1) none = xs' := by
          unfold cutV
          rw [show (some (1 : Int)) = some ((1 : Nat) : Int) from rfl, HT.sIx_nat, HT.sIx_none, List.length_cons, show min 1 (xs'.length + 1) = 1 by omega, List.drop_succ_cons, List.drop_zero, Nat.add_sub_cancel, List.take_length]
        rw [this]
        exact l
theorem ev_WRsl {σ : L2.St} {H : Hp} {w : Addr} {E : XK} {t3 t4 : TE} {z : Str} {v4 : V} {e : U} {rs : List U} {g : Str → U → Bool} (h3 : Ev t3 σ H (.str z)) (h4 : Ev t4 σ H v4) (a4 : At w C H v4 (.tup (e :: rs))) (fi : Fine (.tup (e :: rs))) (hs : Sm (.tup (e :: rs))) (hw : ∃ o, H w = some o) :
    Ev (tCall (spWR C g) [] E (tCons t3 (tCons (tSl (rSlA K) t4 (tPart (tC (.int 1))) tNoPart) tNil))) σ H (.bl (g z (.tup rs))) := fun H1 e1 Q q =>
  h3 H1 e1 _ fun H2 e2 => h4 H2 (e1.trans e2) _ fun H3 e3 => ⟨1, rfl, by
    dsimp only [tNoPart]
    refine at_tail (C := C) (hw.imp fun o z => ((e1.trans e2).trans e3) _ _ z) (ex_at ((e1.trans e2).trans e3) a4) fun v' H4 e4 a' => ?_
    refine ⟨z, v', rs, w, rfl, a', ⟨by have := fi.w; simp only [wt, wtL] at *; omega, by have := fi.c; simp only [clean, cleanL] at *; exact this.2⟩, ?_, hw.imp fun o z => (((e1.trans e2).trans e3).trans e4) _ _ z, fun H5 e5 => q H5 (((e2.trans e3).trans e4).trans e5)⟩
    have : wt (.tup (e :: rs)) ≤ 160000 := hs
    show wt (.tup rs) ≤ 160000
    simp only [wt, wtL] at *
    omega⟩
theorem scLetF : FnScope ["thing"] ["thing"] (defScope lLetterF) := ⟨rfl, rfl, rfl, by decide +kernel, rfl, by decide +kernel, by decide +kernel⟩
theorem ev_nth2 {σ : L2.St} {H : Hp} {te : TE} {v : V} {u : U} {w : Addr} {m m2 k k2 : Nat} (h : Ev te σ H v) (hat : At w C H v u) (hm : gTO m u = true) (hk : k < m) (hm2 : gTO m2 (nth u k) = true) (hk2 : k2 < m2) : ∃ x, Ev (tOp (rIxT K) (tOp (rIxT K) te (tC (.int (k : Int)))) (tC (.int (k2 : Int)))) σ H x ∧ At w C H x (nth (nth u k) k2) := by
  obtain ⟨x, ex, ax⟩ := ev_nth (K := K) h hat hm hk
  exact ev_nth ex ax hm2 hk2
theorem gMach_pair {u : U} (h : gMach u = true) : gTO 2 u = true := by
  rw [pair_TO]
  exact (and2 (a := gPair u) h).1
theorem look_emp (tab : List (Str × List Str)) (z : Str) (h : ∀ r ∈ tab, r.2 ≠ []) : lookT tab z [] = false := by
  unfold lookT
  cases q : tabOf tab z with
  | none => rfl
  | some ks =>
    have : ∀ (l : List (Str × List Str)), (∀ r ∈ l, r.2 ≠ []) → tabOf l z = some ks → ks ≠ [] := fun l => by
      induction l with
      | nil => intro _ h; cases h
      | cons r l ih =>
        intro hl h
        have h' : (if r.1 = z then some r.2 else tabOf l z) = some ks := h
        by_cases c : r.1 = z
        · rw [if_pos c] at h'
          cases h'
          exact hl r (by simp)
        · rw [if_neg c] at h'
          exact ih (fun x hx => hl x (List.mem_cons_of_mem _ hx)) h'
    have := this tab h q
    show gParts ks [] = false
    cases ks with
    | nil => exact absurd rfl this
    | cons a as => exact gParts_cn a as
theorem thT_ne : ∀ r ∈ thT, r.2 ≠ [] := by decide +kernel
theorem toT_ne : ∀ r ∈ toT, r.2 ≠ [] := by decide +kernel
theorem amT_ne : ∀ r ∈ amT, r.2 ≠ [] := by decide +kernel
theorem told_emp (u v : U) (z : Str) : gTold thT toT amT u v z [] = false := by
  unfold gTold
  rw [look_emp _ z thT_ne, look_emp _ z toT_ne, look_emp _ z amT_ne, Bool.and_false, Bool.and_false]
  split <;> (try split) <;> rfl
theorem told_bad (u v : U) (z : Str) (e : U) (rs : List U) (h : gCount e = false) : gTold thT toT amT u v z (e :: rs) = false := by
  unfold gTold
  rw [look_toHand, look_toHome, look_among, h, Bool.false_and, Bool.false_and, Bool.false_and, Bool.and_false, Bool.and_false]
  split <;> (try split) <;> rfl
theorem isZ_not {a : Str} (h : a = "home" ∨ a = "hand") : isZ "hand" (.str a) = !isZ "home" (.str a) := by
  rcases h with rfl | rfl <;> decide +kernel
set_option maxHeartbeats 1000000 in
theorem jl_letterF {f f0 f1 f2 f3 f4 f5 : Addr} {fd d0 d1 d2 d3 d4 d5 : FuncData} (D : Df K mg "_law_letter_fits" lLetterF ["thing"] f fd) (S : Bs K mg C) (JL : JLo P wd K mg base C f0 d0) (JM : Jd P wd K mg base C 3 "_law_machine_fits" "thing" f1 d1 gMach) (JC : Jd P wd K mg base C 1 "_law_count" "thing" f2 d2 gCount)
    (D3 : Df K mg "_law_to_home_fits" lToHomeF ["word", "rest"] f3 d3) (G3 : FnOk P wd K mg base CX0 8 f3 d3 ["word", "rest"] (spWR C gToHomeL)) (D4 : Df K mg "_law_to_hand_fits" lToHandF ["word", "rest"] f4 d4) (G4 : FnOk P wd K mg base CX0 8 f4 d4 ["word", "rest"] (spWR C gToHandL))
    (D5 : Df K mg "_law_between_fits" lBetweenF ["word", "rest"] f5 d5) (G5 : FnOk P wd K mg base CX0 8 f5 d5 ["word", "rest"] (spWR C gBetweenL)) : Jw P wd K mg base C 9 "_law_letter_fits" "thing" f fd Sm (gLetter thT toT amT) := by
  refine ⟨D.F.ok scLetF lenJw (fun cdv A outer s H vs Q E hr h => ?_), D.g, D.F.kp, D.b⟩
  obtain ⟨v, u, w, rfl, hat, fi, hs, hw, k⟩ := h
  refine ⟨_, pss_cons (ps_if (PW.pt (pw_or (pt_not (pt_val (pe_call (JL.ok.mono (by decide)) hr (by rfl) JL.D.g JL.D.F.kp JL.D.b .nil pass0 (pa_cons (pv 0) (pa_cons pe_int pa_nil))))) (pw_or (pt_not (pt_val (pe_J JM hr (by decide) (by rfl) pass0 (pe_ix ix_tup (pv 0) pe_int (fun _ _ => rfl))))) (pw_or1 (pt_not (pt_val (pe_J JM hr (by decide) (by rfl) pass0 (pe_ix ix_tup (pv 0) pe_int (fun _ _ => rfl))))))))) (pss_one (ps_ret pe_bl)) pss_nil)
    (pss_cons (ps_if (PW.pt (pw_or (pt_not (pt_val (pe_J JC hr (by decide) (by rfl) pass0 (pe_ix ix_tup (pv 0) pe_int (fun _ _ => rfl))))) (pw_or (pt_not (pt_val (pe_isiX S (by rfl) (by rfl) S.B.str boot_str (by decide) (pe_ix ix_tup (pv 0) pe_int (fun _ _ => rfl)) (by decide) (by decide)))) (pw_or1 (pt_not (pt_val (pe_isiX S (by rfl) (by rfl) S.B.tup boot_tuple' (by decide) (pe_ix ix_tup (pv 0) pe_int (fun _ _ => rfl)) (by decide) (by decide)))))))) (pss_one (ps_ret pe_bl)) pss_nil)
    (pss_cons (ps_if (PW.pt (pw_or (pt_cmpR op_eq (pe_callB call_len_seq (by rfl) S.B.len PySem.boot_len (pa_cons (pe_ix ix_tup (pv 0) pe_int (fun _ _ => rfl)) pa_nil)) pe_int (nomark _)) (pw_or1 (pt_not (pt_val (pe_J JC hr (by decide) (by rfl) pass0 (pe_ix ix_tup (pe_ix ix_tup (pv 0) pe_int (fun _ _ => rfl)) pe_int (fun _ _ => rfl)))))))) (pss_one (ps_ret pe_bl)) pss_nil)
    (pss_cons (ps_if (PW.pt (pw_and (pt_cmpR op_eq (pe_ix ix_tup (pe_ix ix_tup (pv 0) pe_int (fun _ _ => rfl)) pe_int (fun _ _ => rfl)) pe_str (nomark _)) (pw_and1 (pt_cmpR op_eq (pe_ix ix_tup (pe_ix ix_tup (pv 0) pe_int (fun _ _ => rfl)) pe_int (fun _ _ => rfl)) pe_str (nomark _)))))
      (pss_one (ps_ret (pe_call G3 hr (by rfl) D3.g D3.F.kp D3.b .nil pass0 (pa_cons (pe_ix ix_tup (pv 0) pe_int (fun _ _ => rfl)) (pa_cons (pe_slice sl_tupA (pe_ix ix_tup (pv 0) pe_int (fun _ _ => rfl)) (po_some pe_int) po_none) pa_nil))))) pss_nil)
    (pss_cons (ps_if (pt_cmpR op_eq (pe_ix ix_tup (pe_ix ix_tup (pv 0) pe_int (fun _ _ => rfl)) pe_int (fun _ _ => rfl)) pe_str (nomark _))
      (pss_one (ps_ret (pe_and (pe_cmpR op_eq (pe_ix ix_tup (pe_ix ix_tup (pv 0) pe_int (fun _ _ => rfl)) pe_int (fun _ _ => rfl)) pe_str (nomark _)) (pe_one (pe_call G4 hr (by rfl) D4.g D4.F.kp D4.b .nil pass0 (pa_cons (pe_ix ix_tup (pv 0) pe_int (fun _ _ => rfl)) (pa_cons (pe_slice sl_tupA (pe_ix ix_tup (pv 0) pe_int (fun _ _ => rfl)) (po_some pe_int) po_none) pa_nil))))))) pss_nil)
    (pss_one (ps_ret (pe_and (pe_cmpR (show OpR _ _ (rNeD K) from op_neD (room_hu hr)) (pe_ix ix_tup (pv 0) pe_int (fun _ _ => rfl)) (pe_ix ix_tup (pv 0) pe_int (fun _ _ => rfl)) (nomark _)) (pe_one (pe_call G5 hr (by rfl) D5.g D5.F.kp D5.b .nil pass0 (pa_cons (pe_ix ix_tup (pv 0) pe_int (fun _ _ => rfl)) (pa_cons (pe_slice sl_tupA (pe_ix ix_tup (pv 0) pe_int (fun _ _ => rfl)) (po_some pe_int) po_none) pa_nil))))))))))), ?_⟩
  -- the form of five, its machines
  refine q_when (b := !gTO 5 u || (!gMach (nth u 0) || !gMach (nth u 1))) (et_or (et_not (et_B (ev_LM (m := 5) (ev_var rfl) (fun _ => ev_c) hat))) fun q => et_or (et_not (et_B (ev_Jn (k := 0) (ev_var rfl) hat fi (by simpa using q) (by decide)))) fun _ => et_not (et_B (ev_Jn (k := 1) (ev_var rfl) hat fi (by simpa using q) (by decide)))) (fun c H1 e => ?_) (fun c H1 e => ?_)
  · refine s_ret ev_c fun H2 e2 => ?_
    have e4 : gLetter thT toT amT u = false := by
      unfold gLetter
      revert c
      cases gTO 5 u <;> cases gMach (nth u 0) <;> cases gMach (nth u 1) <;> simp
    rw [← e4]
    exact k H2 (e.trans e2)
  obtain ⟨q, q0, q1⟩ : gTO 5 u = true ∧ gMach (nth u 0) = true ∧ gMach (nth u 1) = true := by
    revert c
    cases gTO 5 u <;> cases gMach (nth u 0) <;> cases gMach (nth u 1) <;> simp
  have a1 := ex_at e hat
  refine q_when (b := !gCount (nth u 2) || (!isT (nth u 3) "str" || !isT (nth u 4) "tuple")) (et_or (et_not (et_B (ev_Jn (k := 2) (ev_var rfl) a1 fi q (by decide)))) fun _ => et_or (et_not (et_B ?s1)) fun _ => et_not (et_B ?s2)) (fun c H2 e2 => ?_) (fun c H2 e2 => ?_)
  case s1 =>
    obtain ⟨x, ex, ax⟩ := ev_nth (K := K) (σ := [some v]) (te := tVar 0) (k := 3) (ev_var rfl) a1 q (by decide)
    exact ev_isi ex ax
  case s2 =>
    obtain ⟨x, ex, ax⟩ := ev_nth (K := K) (σ := [some v]) (te := tVar 0) (k := 4) (ev_var rfl) a1 q (by decide)
    exact ev_isi ex ax
  · refine s_ret ev_c fun H3 e3 => ?_
    have e4 : gLetter thT toT amT u = false := by
      unfold gLetter
      rw [gCnt_is]
      revert c
      cases gCount (nth u 2) <;> cases isT (nth u 3) "str" <;> cases isT (nth u 4) "tuple" <;> simp
    rw [← e4]
    exact k H3 ((e.trans e2).trans e3)
  obtain ⟨q2, q3, q4⟩ : gCount (nth u 2) = true ∧ isT (nth u 3) "str" = true ∧ isT (nth u 4) "tuple" = true := by
    revert c
    cases gCount (nth u 2) <;> cases isT (nth u 3) "str" <;> cases isT (nth u 4) "tuple" <;> simp
  have g0 : gLetter thT toT amT u = gTold thT toT amT (nth u 0) (nth u 1) (strU (nth u 3)) (tupU (nth u 4)) := by
    unfold gLetter
    rw [gCnt_is, q, q0, q1, q2, q3, q4]
    rfl
  have hz : ∃ z, nth u 3 = .str z := by
    cases hu : nth u 3 with
    | str z => exact ⟨z, rfl⟩
    | _ => rw [hu] at q3; exact absurd q3 (by simp [isT, isS, tyU])
  obtain ⟨z, e5⟩ := hz
  obtain ⟨us, e6⟩ := isT_tup q4
  have f4 : Fine (nth u 4) := fine_nth q (by decide) fi
  have s4 := sm_nthK hs 4
  obtain ⟨am, im, em, om⟩ := gMach_is q0
  obtain ⟨bm, jm, en, on⟩ := gMach_is q1
  rw [e5, e6] at g0
  rw [show strU (.str z) = z from rfl, show tupU (.tup us) = us from rfl] at g0
  have E2 := e.trans e2
  have a2 := ex_at E2 hat
  have w2 : ∃ o, H2 w = some o := hw.imp fun o z => E2 _ _ z
  have four : ∀ {G : Hp}, Ex H G → ∃ x, Ev (tOp (rIxT K) (tVar 0) (tC (.int ((4 : Nat) : Int)))) [some v] G x ∧ At w C G x (.tup us) := fun {G} eg => by
    obtain ⟨x, ex, ax⟩ := ev_nth (K := K) (σ := [some v]) (te := tVar 0) (k := 4) (ev_var rfl) (ex_at eg hat) q (by decide)
    rw [e6] at ax
    exact ⟨x, ex, ax⟩
  rw [e6] at f4 s4
  cases us with
  | nil =>
    refine q_when (b := true) (et_or (a := true) (b := false) ?t1 (fun z => by cases z)) (fun c H3 e3 => ?_) (fun c H3 e3 => by cases c)
    case t1 =>
      obtain ⟨x, ex, ax⟩ := four E2
      exact et_test (ev_is (ev_len0 ex ax) rfl)
    · refine s_ret ev_c fun H4 e4 => ?_
      rw [told_emp] at g0
      rw [← g0]
      exact k H4 ((E2.trans e3).trans e4)
  | cons d rs =>
    refine q_when (b := !gCount d) (et_or (a := false) (b := !gCount d) ?t2 fun _ => et_not (et_B ?t3)) (fun c H3 e3 => ?_) (fun c H3 e3 => ?_)
    case t2 =>
      obtain ⟨x, ex, ax⟩ := four E2
      refine et_test (ev_is (ev_len0 ex ax) ?_)
      rw [show gTO 0 (.tup (d :: rs)) = false by simp [gTO, tv]]
    case t3 =>
      obtain ⟨x, ex, ax⟩ := four E2
      obtain ⟨p, xs, rfl, hp, np, l⟩ := at_tup ax
      cases l with
      | cons hx l => exact ev_J (ev_ixT (j := 0) ex hp rfl) hx (f4.tup d (by simp))
    · refine s_ret ev_c fun H4 e4 => ?_
      rw [told_bad _ _ _ _ _ (by simpa using c)] at g0
      rw [← g0]
      exact k H4 ((E2.trans e3).trans e4)
    have qd : gCount d = true := by simpa using c
    have E3 := E2.trans e3
    -- the words of the machines
    have word : ∀ {G : Hp} {i : Nat} {a y : Str} {n : Int}, Ex H G → i < 5 → nth u i = .tup [.str a, .int n] → Ev (tOp rEq (tOp (rIxT K) (tOp (rIxT K) (tVar 0) (tC (.int (i : Int)))) (tC (.int ((0 : Nat) : Int)))) (tC (.str y))) [some v] G (.bl (isZ y (.str a))) := fun {G i a y n} eg hi hn => by
      obtain ⟨x, ex, ax⟩ := ev_nth2 (K := K) (σ := [some v]) (te := tVar 0) (k := i) (m2 := 2) (k2 := 0) (ev_var rfl) (ex_at eg hat) q hi (by rw [hn]; rfl) (by decide)
      rw [hn] at ax
      have hx := at_str (z := a) ax
      subst hx
      refine ev_is (ev_op ex ev_c (rv_eq rfl)) ?_
      show V.bl (decide (V.str a = V.str y)) = .bl (a == y)
      congr 1
      rw [Bool.eq_iff_iff]
      simp
    have call : ∀ {G : Hp} {g : Str → U → Bool} {E : XK}, Ex H G → Ev (tCall (spWR C g) [] E (tCons (tOp (rIxT K) (tVar 0) (tC (.int ((3 : Nat) : Int)))) (tCons (tSl (rSlA K) (tOp (rIxT K) (tVar 0) (tC (.int ((4 : Nat) : Int)))) (tPart (tC (.int 1))) tNoPart) tNil))) [some v] G (.bl (g z (.tup rs))) := fun {G g E} eg => by
      obtain ⟨x, ex, ax⟩ := four eg
      obtain ⟨y, ey, ay⟩ := ev_nth (K := K) (σ := [some v]) (te := tVar 0) (k := 3) (ev_var rfl) (ex_at eg hat) q (by decide)
      rw [e5] at ay
      have hy := at_str ay
      subst hy
      exact ev_WRsl ey ex ax f4 s4 (hw.imp fun o z => eg _ _ z)
    have gT : gTold thT toT amT (nth u 0) (nth u 1) z (d :: rs) = (if isZ "hand" (.str am) = true then isZ "home" (.str bm) && gToHandL z (.tup rs) else if isZ "hand" (.str bm) = true then gToHomeL z (.tup rs) else !(decide (am = bm) && decide (im = jm)) && gBetweenL z (.tup rs)) := by
      rw [em, en]
      unfold gTold
      rw [look_toHand, look_toHome, look_among, qd, Bool.true_and, Bool.true_and, Bool.true_and]
      rfl
    rw [gT] at g0
    refine q_when (b := isZ "home" (.str am) && isZ "hand" (.str bm)) (et_and (et_test (word E3 (by decide) em)) fun _ => et_test (word E3 (by decide) en)) (fun c H4 e4 => ?_) (fun c H4 e4 => ?_)
    · obtain ⟨c1, c2⟩ := and2 c
      rw [if_neg (by rw [isZ_not om, c1]; decide), if_pos c2] at g0
      rw [g0] at k
      exact s_ret (call (E3.trans e4)) fun H5 e5 => k H5 ((E3.trans e4).trans e5)
    have E4 := E3.trans e4
    refine q_when (b := isZ "hand" (.str am)) (et_test (word E4 (by decide) em)) (fun c2 H5 e5 => ?_) (fun c2 H5 e5 => ?_)
    · rw [if_pos c2] at g0
      rw [g0] at k
      exact s_ret (ev_andV (word (E4.trans e5) (by decide) en) fun _ => call (E4.trans e5)) fun H6 e6 => k H6 ((E4.trans e5).trans e6)
    have E5 := E4.trans e5
    have c3 : isZ "hand" (.str bm) = false := by
      have h1 : isZ "home" (.str am) = true := by
        rw [isZ_not om] at c2
        simpa using c2
      rw [h1, Bool.true_and] at c
      exact c
    rw [if_neg (by rw [c2]; decide), if_neg (by rw [c3]; decide)] at g0
    rw [g0] at k
    refine s_ret (ev_andV ?ne fun _ => call E5) fun H6 e6 => k H6 (E5.trans e6)
    obtain ⟨x, ex, ax⟩ := ev_nth (K := K) (σ := [some v]) (te := tVar 0) (k := 0) (ev_var rfl) (ex_at E5 hat) q (by decide)
    obtain ⟨y, ey, ay⟩ := ev_nth (K := K) (σ := [some v]) (te := tVar 0) (k := 1) (ev_var rfl) (ex_at E5 hat) q (by decide)
    rw [em] at ax
    rw [en] at ay
    obtain ⟨p, x1, x2, rfl, hp, hx1, hx2⟩ := pair_at ax
    obtain ⟨p', y1, y2, rfl, hp', hy1, hy2⟩ := pair_at ay
    rw [at_str hx1, at_int hx2] at hp
    rw [at_str hy1, at_int hy2] at hp'
    exact ev_op ex ey (rv_neM (mach_ok om) (mach_ok on) hp hp')
end
end Hs
/-! dicts with pairs of a text and an integer as keys, sorted -/
namespace Hk
open PySem PySem.Spec PyProof.Rows L2
abbrev SI : Type := Str × Int
/-- by the text, then by the integer -/
def ltSI (p q : SI) : Bool := if p.1 = q.1 then decide (p.2 < q.2) else decide (p.1.cps.toList < q.1.cps.toList)
theorem str_ext {x y : Str} (h : x.cps.toList = y.cps.toList) : x = y := by
  cases x with
  | mk a => cases y with
    | mk b =>
      congr 1
      exact Array.toList_inj.mp h
theorem ltSI_iff {p q : SI} : ltSI p q = true ↔ p.1.cps.toList < q.1.cps.toList ∨ (p.1 = q.1 ∧ p.2 < q.2) := by
  unfold ltSI
  by_cases e : p.1 = q.1
  · rw [if_pos e, decide_eq_true_eq]
    constructor
    · exact fun h => .inr ⟨e, h⟩
    · rintro (h | h)
      · rw [e] at h
        exact absurd h (List.lt_irrefl _)
      · exact h.2
  · rw [if_neg e, decide_eq_true_eq]
    constructor
    · exact fun h => .inl h
    · rintro (h | h)
      · exact h
      · exact absurd h.1 e
theorem ltSI_no {p q : SI} : ltSI p q = false ↔ ¬ (p.1.cps.toList < q.1.cps.toList ∨ (p.1 = q.1 ∧ p.2 < q.2)) := by
  rw [← ltSI_iff]
  cases ltSI p q <;> simp
theorem lt_tri (a b : List Nat) : a < b ∨ a = b ∨ b < a := by
  rcases Classical.em (a < b) with h | h
  · exact .inl h
  · rcases Classical.em (b < a) with h2 | h2
    · exact .inr (.inr h2)
    · exact .inr (.inl (List.le_antisymm (List.not_lt.mp h2) (List.not_lt.mp h)))
theorem ltSI_irr (p : SI) : ltSI p p = false := ltSI_no.mpr fun h => by
  rcases h with h | h
  · exact List.lt_irrefl _ h
  · omega
theorem ltSI_trans {p q r : SI} (h1 : ltSI p q = true) (h2 : ltSI q r = true) : ltSI p r = true := by
  rw [ltSI_iff] at *
  rcases h1 with h1 | ⟨e1, h1⟩ <;> rcases h2 with h2 | ⟨e2, h2⟩
  · exact .inl (List.lt_trans h1 h2)
  · exact .inl (by rw [← e2]; exact h1)
  · exact .inl (by rw [e1]; exact h2)
  · exact .inr ⟨e1.trans e2, by omega⟩
theorem ltSI_tri (p q : SI) : ltSI p q = true ∨ p = q ∨ ltSI q p = true := by
  rcases lt_tri p.1.cps.toList q.1.cps.toList with h | h | h
  · exact .inl (ltSI_iff.mpr (.inl h))
  · have e := str_ext h
    rcases Int.lt_trichotomy p.2 q.2 with h | h | h
    · exact .inl (ltSI_iff.mpr (.inr ⟨e, h⟩))
    · exact .inr (.inl (Prod.ext e h))
    · exact .inr (.inr (ltSI_iff.mpr (.inr ⟨e.symm, h⟩)))
  · exact .inr (.inr (ltSI_iff.mpr (.inl h)))
theorem ltSI_asym {p q : SI} (h : ltSI p q = true) : ltSI q p = false := by
  cases z : ltSI q p with
  | false => rfl
  | true =>
    have := ltSI_trans h z
    rw [ltSI_irr] at this
    cases this
theorem swo_si {α : Type} (k : α → SI) : SrtO.Swo fun v u => ltSI (k v) (k u) := by
  refine ⟨fun x y h => ltSI_asym h, fun x y z h1 h2 => ?_⟩
  cases h : ltSI (k z) (k x) with
  | false => rfl
  | true =>
    rcases ltSI_tri (k x) (k y) with q | q | q
    · have b := ltSI_trans h q
      rw [h2] at b
      cases b
    · rw [q, h2] at h
      cases h
    · rw [h1] at q
      cases q
/-- a tuple of a text and an integer -/
def IsSI (h : Heap) (v : Value) (p : SI) : Prop := ∃ (a : Addr) (o : Obj) (t u : Tok) (n : Nat), v = .ref a ∧ h.get? a = some o ∧ o.cls = .type "tuple" ∧ o.data = .seq #[.str p.1 t, .int p.2 u] n
theorem IsSI.keeps {h h' : Heap} {v : Value} {p : SI} (x : IsSI h v p) (k : ∀ b o, h.get? b = some o → o.cls = .type "tuple" → h'.get? b = some o) : IsSI h' v p := by
  obtain ⟨a, o, t, u, n, e, ho, hc, hd⟩ := x
  exact ⟨a, o, t, u, n, e, k a o ho hc, hc, hd⟩
/-- what pair stands there -/
def siOf (h : Heap) (v : Value) : SI := match v with
  | .ref a => match h.get? a with
    | some o => match o.data with
      | .seq xs _ => match xs.toList with
        | [.str z _, .int i _] => (z, i)
        | _ => default
      | _ => default
    | none => default
  | _ => default
theorem IsSI.of {h : Heap} {v : Value} {p : SI} (x : IsSI h v p) : siOf h v = p := by
  obtain ⟨a, o, t, u, n, rfl, ho, hc, hd⟩ := x
  simp only [siOf, ho, hd]
section
variable {prog : Program} {w : World} {A : Around} {s : Shared}
theorem si_cmp {vs : List Value} {k : Value → SI} (hp : ∀ v ∈ vs, IsSI s.heap v (k v)) : SrtO.Cmp prog w A s (tuples' true) (fun p => p.1 ∈ vs) (SrtO.lt2 fun v u => ltSI (k v) (k u)) := by
  intro p q hm hm'
  have h1 := hp _ hm
  have h2 := hp _ hm'
  show wpAny (model prog w) A (keyLt' (tuples' true) p.1 q.1) (fun r s' => s' = s ∧ r = ltSI (k p.1) (k q.1)) (fun _ _ => False) s
  generalize k p.1 = x at h1 ⊢
  generalize k q.1 = y at h2 ⊢
  obtain ⟨a, o, t, u, n, e, ho, hc, hd⟩ := h1
  obtain ⟨a', o', t', u', n', e', ho', hc', hd'⟩ := h2
  rw [e, e']
  refine PySem.W.kat_lt ho hd ho' hd' ?_
  show PySem.W.KatLex prog w A true (decide (2 < 2)) _ [(.str x.1 t, .str y.1 t'), (.int x.2 u, .int y.2 u')] 0 s
  refine PySem.W.kat_cons (SeqAt.EqAt.str_str x.1 t y.1 t' prog w _ _ ?_)
  refine PySem.W.kat_go (fun e1 => ?_) (fun e1 => ?_)
  · have ex : x.1 = y.1 := eq_of_beq e1
    have ef : ltSI x y = decide (x.2 < y.2) := by unfold ltSI; rw [if_pos ex]
    refine PySem.W.kat_yes (PySem.W.kat_cons (SeqAt.EqAt.int_int x.2 u y.2 u' prog w _ _ ?_))
    refine PySem.W.kat_go (fun e2 => ?_) (fun e2 => ?_)
    · have ey : x.2 = y.2 := eq_of_beq e2
      exact PySem.W.kat_yes (PySem.W.kat_nil ⟨rfl, by rw [ef, ey]; simp⟩)
    · refine PySem.W.kat_no (PySem.W.kat_one _ _ (PyProof.Rows.lt_int ?_))
      exact (show s = s ∧ decide (x.2 < y.2) = ltSI x y from ⟨rfl, ef.symm⟩)
  · have ex : ¬ x.1 = y.1 := fun q => by
      rw [q] at e1
      simp at e1
    have ef : ltSI x y = decide (x.1.cps.toList < y.1.cps.toList) := by unfold ltSI; rw [if_neg ex]
    exact PySem.W.kat_no (oneLt_str (show s = s ∧ decide (x.1.cps.toList < y.1.cps.toList) = ltSI x y from ⟨rfl, ef.symm⟩))
theorem si_firsts {h : Heap} {k : Value → SI} : ∀ vs : List Value, (∀ v ∈ vs, IsSI h v (k v)) → ∃ fs : List Value, PySem.W.KatTups h vs fs ∧ fs.length = vs.length ∧ ∀ f ∈ fs, ∃ (z : Str) (t : Tok), f = Value.str z t
  | [], _ => ⟨[], PySem.W.KatTups.nil, rfl, fun f hf => nomatch hf⟩
  | v :: vs, x => by
    obtain ⟨fs, g, hl, hi⟩ := si_firsts vs fun u hu => x u (List.mem_cons_of_mem _ hu)
    obtain ⟨a, o, t, u, n, e, ho, hc, hd⟩ := x v (List.mem_cons_self ..)
    refine ⟨.str (k v).1 t :: fs, ⟨⟨a, o, _, n, e, ho, hc, hd, rfl⟩, g⟩, by rw [List.length_cons, List.length_cons, hl], fun f hf => ?_⟩
    rcases List.mem_cons.mp hf with rfl | hf
    · exact ⟨_, _, rfl⟩
    · exact hi f hf
theorem si_sortable {a : Addr} {vs : List Value} {k : Value → SI} (h0 : 0 < vs.length) (hp : ∀ v ∈ vs, IsSI s.heap v (k v)) (ha : ∀ o, s.heap.get? a = some o → o.cls ≠ .type "tuple") : SrtO.SortableO prog w A s a vs fun v u => ltSI (k v) (k u) := by
  intro h' keep
  have hp' : ∀ v ∈ vs, IsSI h' v (k v) := fun v hm => (hp v hm).keeps fun b o e c => keep b o (fun z => by subst z; exact ha o e c) e
  obtain ⟨fs, h1, h2, h3⟩ := si_firsts vs hp'
  refine ⟨tuples' true, fun Q E hq => ?_, si_cmp hp'⟩
  refine PySem.W.kat_kind (T := .type "str") h1 (by omega) (fun f hm => ?_) (by rfl) ?_
  · obtain ⟨x, t, rfl⟩ := h3 f hm
    exact PySem.W.Looks.now
  · have e : (Value.type "str" != Value.type "tuple") = true := by first | decide +kernel | rfl | decide
    rw [e]
    exact hq
end
/-! ### the keys of a dict, in a row -/
section
variable {prog : Program} {w : World} {d : Addr} {o : Obj} {es : Array DictEntry} {ep : Nat}
theorem walks_dt {A : Around} (hh : A.handled = none) (I : Addr) (hne : d ≠ I) (hdat : o.data = .dict es ep) :
    Walks prog w A I [I, d] [I] es.size (fun i v => ∃ en, es[i]? = some en ∧ v = en.key) (fun i h => h.IsKeyIter I d i es.size ep ∧ h.get? d = some o) where
  sub := fun b hb => by simp at hb; simp [hb]
  frame := fun _ _ _ st hk => ⟨st.1.at fun o e => hk I (by simp) o e, hk d (by simp) _ st.2⟩
  item := fun i s Q E hi st hQ => by
    have hx : es[i]? = some es[i] := Array.getElem?_eq_getElem hi
    exact next_key_item st.1 st.2 hdat rfl hx fun h' hit hs => hQ _ h' s.toks ⟨_, hx, rfl⟩ ⟨hit, hs.2 d hne ▸ st.2⟩ fun b o hb e => (hs.2 b (fun h => hb (by simp [h]))).trans e
  done := fun s Q E st hQ => next_key_end hh st.1 st.2 hdat rfl (Nat.le_refl _) fun h' he => hQ h' s.toks fun b o hb e => he b o (fun h => hb (by simp [h])) e
  self := fun _ _ _ _ st hQ => wpAny_pyIter_keyiter st.1 hQ
theorem kdl_dt (lo : (d == sysModules) = false) (hx : o.ExactDict) (hdat : o.data = .dict es ep) :
    PySem.W.KdlSrc prog w "dict" d d es.size (fun i v => ∃ en, es[i]? = some en ∧ v = en.key) (fun h => h.get? d = some o) where
  type := fun _ hm => ⟨o, hm, hx.1⟩
  there := fun _ hm => ⟨Heap.lt_size hm, Heap.lt_size hm⟩
  keep := fun _ _ hm hk => hk d (.inl rfl) o hm
  notList := by decide
  notTuple := by decide
  hint := fun _ _ _ _ hm hq => PySem.W.kdl_hint_dict ⟨o, hm, hx.1⟩ hq
  iter := fun _ _ hh hm => ⟨_, _, (fun _ _ hq => iter_keys lo hm hx hdat hq), walks_dt hh _ (Nat.ne_of_lt (Heap.lt_size hm)) hdat, ⟨⟨_, Heap.get?_push_size _ rfl, rfl, rfl⟩, Heap.get?_push_of_some _ hm⟩⟩
end
abbrev keySI (p : SI) : List L2.Key := [Sum.inr p.1, Sum.inl p.2]
def adOf : Value → Addr
  | .ref a => a
  | _ => 0
section
variable {X : Cx}
/-- sorted(d): the keys' own tuples, in a new list -/
def rSortDT : List V → Hp → VK → Prop := fun xs H Q => ∃ (a : Addr) (kvs : List (List L2.Key × V)) (ks : List SI), xs = [.ref a] ∧ H a = some (.dT kvs) ∧ kvs.map (·.1) = ks.map keySI ∧
  ∀ (zs : List (Addr × SI)) (p : Addr), (zs.map (·.2)).Perm ks → (zs.map (·.2)).Pairwise (fun x y => ltSI y x = false) → (∀ z ∈ zs, H z.1 = some (.tup [.str z.2.1, .int z.2.2])) → H p = none → Q (.ref p) (upd H p (.lst (zs.map fun z => V.ref z.1)))
theorem vals_refs : ∀ zs : List (Addr × SI), Vals (zs.map fun z => V.ref z.1) (zs.map fun z => Value.ref z.1)
  | [] => .nil
  | z :: zs => .cons rfl (vals_refs zs)
theorem cr_sortDT (hc : X.calm = true) : CallR X (.builtin "sorted") rSortDT := by
  intro pins s σ H xs us Q I r h
  obtain ⟨a, kvs, ks, rfl, ha, hks, q⟩ := h
  obtain rfl := Vals.ref1 r
  obtain ⟨z, lo, xs', rel, o, es, ep, ho, hx, hdat, hes, his, hn⟩ := dt_of I.hok ha
  have l1 : kvs.length = xs'.length := Paired.length rel
  have l2 : es.size = xs'.length := size_of_entries hes
  have l3 : kvs.length = ks.length := by
    have e := congrArg List.length hks
    rw [List.length_map, List.length_map] at e
    exact e
  have h16 : es.size ≤ sizeLine := by omega
  refine Calls.call_function_entry PyProof.Rows.kind_sorted PyProof.Rows.plain_sorted PyProof.Rows.entry_sorted (PyProof.Rows.args_sorted1 _) ?_
  unfold Builtin.«sorted»
  refine wpAny_bind (m := checkCount "sorted" 1 1 _) (wpAny_pure ?_)
  refine wpAny_bind (PySem.W.kdu_collect (A := X.A.in1) (kdl_dt lo hx hdat) (I.ok.hd hc) ho h16 fun h' tk acc hk hacc => ?_)
  -- each of them is a pair that is tracked
  have pr : ∀ (j : Nat) (v : Value), acc.toList[j]? = some v → ∃ (p : SI) (b : Addr), ks[j]? = some p ∧ v = .ref b ∧ H b = some (.tup [.str p.1, .int p.2]) := by
    intro j v hj
    obtain ⟨en, he, rfl⟩ := hacc.2 j v (by rw [← Array.getElem?_toList]; exact hj)
    rw [entry_at hes j] at he
    cases hxj : xs'[j]? with
    | none =>
      rw [hxj] at he
      exact nomatch (show (none : Option DictEntry) = some en from he)
    | some x =>
      rw [hxj] at he
      have een : entryOfKey (tupleKind (mixKind X.prog X.w)) x = en := Option.some.inj he
      obtain ⟨e0, he0, r1, r2, r3⟩ := L2.DX.pget rel hxj
      have k0 : (kvs.map (·.1))[j]? = some e0.1 := by rw [List.getElem?_map, he0]; rfl
      rw [hks, List.getElem?_map] at k0
      cases hkj : ks[j]? with
      | none =>
        rw [hkj] at k0
        cases k0
      | some p =>
        rw [hkj] at k0
        have k1 : keySI p = e0.1 := Option.some.inj k0
        refine ⟨p, x.2.1, rfl, by rw [← een]; rfl, ?_⟩
        rw [r2, ← k1]
        rfl
  have hS : ∀ v ∈ acc.toList, ∃ (p : SI) (b : Addr), v = .ref b ∧ H b = some (.tup [.str p.1, .int p.2]) ∧ IsSI s.heap v p := by
    intro v hv
    obtain ⟨j, hj⟩ := List.mem_iff_getElem?.mp hv
    obtain ⟨p, b, _, rfl, hb⟩ := pr j v hj
    refine ⟨p, b, rfl, hb, ?_⟩
    obtain ⟨_, its, rv, ot, hot, hct, nt, hdt⟩ := (show ObjOk X.prog X.w H s.heap b (.tup [.str p.1, .int p.2]) from I.hok b _ hb)
    obtain ⟨u1, u2, rfl, ⟨t1, rfl⟩, ⟨t2, rfl⟩⟩ := vals2 rv
    exact ⟨b, ot, t1, t2, nt, rfl, hot, hct, hdt⟩
  have hks2 : acc.toList.map (siOf s.heap) = ks := by
    refine List.ext_getElem? fun j => ?_
    rw [List.getElem?_map]
    cases hj : acc.toList[j]? with
    | none =>
      have e1 : acc.size ≤ j := by rw [← Array.length_toList]; exact List.getElem?_eq_none_iff.mp hj
      rw [hacc.1] at e1
      rw [List.getElem?_eq_none (by omega)]
      rfl
    | some v =>
      obtain ⟨p, b, e1, rfl, hb⟩ := pr j v hj
      obtain ⟨p', b', e2, hb', si⟩ := hS _ (List.mem_of_getElem? hj)
      cases e2
      rw [hb] at hb'
      have e3 : p = p' := by
        have e4 := HO.tup.inj (Option.some.inj hb')
        injection e4 with e5 e6
        injection e6 with e7 e8
        exact Prod.ext (V.str.inj e5) (V.int.inj e7)
      rw [e1, e3]
      exact congrArg some si.of
  have hz : acc.toList.length ≤ sizeLine := by rw [Array.length_toList, hacc.1]; exact h16
  have I1 : Inv X pins σ H { s with heap := h', toks := tk } := I.kept hk
  refine wpAny_bind (wpAny_newList ?_ hz)
  have hoL : (h'.push (seqObj "list" acc.toList.toArray 0)).get? h'.objs.size = some (seqObj "list" acc.toList.toArray 0) := Heap.get?_push_size _ rfl
  have kb : ∀ b ob, s.heap.get? b = some ob → (h'.push (seqObj "list" acc.toList.toArray 0)).get? b = some ob := fun b ob e => Heap.get?_push_of_some _ (hk b ob e)
  show wpAny _ _ _ _ _ { s with heap := h'.push (seqObj "list" acc.toList.toArray 0), toks := tk }
  refine wpAny_bind (wpAny_holding (wpAny_call_entry PyProof.Rows.slot_list_sort ⟨_, hoL, rfl⟩ PyProof.Rows.entry_list_sort
    (SrtO.list_sort_ord (s := { s with heap := h'.push (seqObj "list" acc.toList.toArray 0), toks := tk }) (swo_si (siOf s.heap)) hoL hz (fun h2 => si_sortable (by omega) (fun v hv => ?_) fun ob e c => ?_) fun out hs hb => ⟨_, rfl, ?_⟩)
    (PyProof.Rows.args_list_sort _)))
  · obtain ⟨p, b, e, _, si⟩ := hS v hv
    rw [si.of]
    exact si.keeps fun b ob e _ => kb b ob e
  · have e' : some ob = some (seqObj "list" acc.toList.toArray 0) := e.symm.trans hoL
    cases e'
    exact absurd (Value.type.inj c) (by decide)
  obtain ⟨e', he'⟩ := PyProof.Rows.sortedHeap_at (vs := acc.toList) (out := out.toArray) hoL
  have ho3 : ∀ v ∈ out, ∃ (p : SI) (b : Addr), v = .ref b ∧ H b = some (.tup [.str p.1, .int p.2]) ∧ IsSI s.heap v p := fun v hv => hS v (hb.perm.mem_iff.mp hv)
  have hout : (out.map fun v => (adOf v, siOf s.heap v)).map (fun z => Value.ref z.1) = out := by
    rw [List.map_map]
    refine (List.map_congr_left fun v hv => ?_).trans (List.map_id _)
    obtain ⟨p, b, rfl, _⟩ := ho3 v hv
    rfl
  have hlen : ((out.map fun v => (adOf v, siOf s.heap v)).map fun z => V.ref z.1).length ≤ sizeLine := by
    rw [List.length_map, List.length_map, hb.perm.length_eq]
    exact hz
  refine wpAny_pure ⟨_, rfl, .ref h'.objs.size, upd H h'.objs.size (.lst ((out.map fun v => (adOf v, siOf s.heap v)).map fun z => V.ref z.1)), I1.laid (t' := tk) (fun b u e => ?_) (Nat.le_refl _)
    (show ObjOk X.prog X.w _ _ _ (.lst _) from ⟨hlen, out, e', ?_, he'⟩), rfl, q _ _ ?_ ?_ ?_ (I1.hok.fresh (Nat.le_refl _))⟩
  · have hb : b < h'.objs.size := Heap.lt_size e
    rw [PyProof.Rows.sortedHeap_old (Nat.ne_of_lt hb) (by rw [size_push']; exact Nat.lt_succ_of_lt hb)]
    exact Heap.get?_push_of_some _ e
  · have := vals_refs (out.map fun v => (adOf v, siOf s.heap v))
    rw [hout] at this
    exact this
  · rw [List.map_map, ← hks2]
    exact hb.perm.map _
  · rw [List.map_map, List.pairwise_map]
    exact hs
  · intro z hz'
    obtain ⟨v, hv, rfl⟩ := List.mem_map.mp hz'
    obtain ⟨p, b, rfl, hb2, si⟩ := ho3 v hv
    rw [si.of]
    exact hb2
end
end Hk
/-! values made anew, known by their data -/
namespace Hu
open PySem
mutual
/-- nothing, integers, texts, tuples of such -/
def pln : U → Prop
  | .tup us => plnL us
  | .lst _ | .dct _ | .exc | .bl _ => False
  | _ => True
def plnL : List U → Prop
  | [] => True
  | u :: us => pln u ∧ plnL us
end
theorem plnL_all {us : List U} : plnL us ↔ ∀ u ∈ us, pln u := by
  induction us with
  | nil => simp [plnL]
  | cons u us ih => simp [plnL, ih]
end Hu
namespace Hs
open PySem PySem.Spec PyProof.Rows L2 Hu Evl
structure Bz (mg : Str → Option Value) : Prop where
  sort : mg "sorted" = none
  zip : mg "zip" = none
theorem boot_sorted' : bootBuiltins "sorted" = some (.builtin "sorted") := by decide +kernel
section
variable {w C : Addr} {H H' : Hp}
mutual
theorem at_tups (k : ∀ b zs, b ≠ w → H b = some (.tup zs) → H' b = some (.tup zs)) : ∀ {u : U} {v : V}, pln u → At w C H v u → At w C H' v u
  | _, _, _, .non => .non
  | .bl _, _, p, _ => p.elim
  | _, _, _, .int i => .int i
  | _, _, _, .str z => .str z
  | _, _, p, .tup h n l => .tup (k _ _ n h) n (atl_tups k p l)
  | _, _, p, .lst _ _ _ => p.elim
  | _, _, p, .dct _ _ _ _ _ => p.elim
  | _, _, p, .exc _ _ _ _ => p.elim
theorem atl_tups (k : ∀ b zs, b ≠ w → H b = some (.tup zs) → H' b = some (.tup zs)) : ∀ {us : List U} {vs : List V}, plnL us → AtL w C H vs us → AtL w C H' vs us
  | _, _, _, .nil => .nil
  | _, _, p, .cons x l => .cons (at_tups k p.1 x) (atl_tups k p.2 l)
end
/-- evaluates to a value of this data -/
def EvD (w C : Addr) (te : TE) (σ : L2.St) (H : Hp) (u : U) : Prop := ∀ H1, Ex H H1 → ∀ Q : VK, (∀ v H2, Ex H1 H2 → At w C H2 v u → Q v H2) → te σ H1 Q
def EvDs (w C : Addr) (ta : TA) (σ : L2.St) (H : Hp) (us : List U) : Prop := ∀ H1, Ex H H1 → ∀ Q : List V → Hp → Prop, (∀ vs H2, Ex H1 H2 → AtL w C H2 vs us → Q vs H2) → ta σ H1 Q
/-- to a new list of this data -/
def EvLD (w C : Addr) (te : TE) (σ : L2.St) (H : Hp) (us : List U) : Prop := ∀ H1, Ex H H1 → ∀ Q : VK, (∀ p ys H2, H1 p = none → Ex H1 H2 → H2 p = some (.lst ys) → AtL w C H2 ys us → Q (.ref p) H2) → te σ H1 Q
theorem EvD.mono {te : TE} {σ : L2.St} {u : U} (e : Ex H H') (h : EvD w C te σ H u) : EvD w C te σ H' u := fun H1 e1 Q q => h H1 (e.trans e1) Q q
theorem EvLD.mono {te : TE} {σ : L2.St} {us : List U} (e : Ex H H') (h : EvLD w C te σ H us) : EvLD w C te σ H' us := fun H1 e1 Q q => h H1 (e.trans e1) Q q
section
variable {K : PySem.W.Frag} {σ : L2.St} {te tb tl : TE} {t : TT} {ta tr : TA} {v : V} {u : U} {us us1 us2 : List U} {xs : List V}
theorem ed_ev (h : Ev te σ H v) (hat : At w C H v u) : EvD w C te σ H u := fun H1 e Q q => h H1 e _ fun H2 e2 => q v H2 e2 (ex_at (e.trans e2) hat)
theorem eds_nil : EvDs w C tNil σ H [] := fun H1 e Q q => q [] H1 (Ex.refl H1) .nil
theorem eds_cons (h : EvD w C te σ H u) (hr : EvDs w C tr σ H us) : EvDs w C (tCons te tr) σ H (u :: us) := fun H1 e Q q =>
  h H1 e _ fun v H2 e2 a => hr H2 (e.trans e2) _ fun vs H3 e3 l => q (v :: vs) H3 (e2.trans e3) (.cons (ex_at e3 a) l)
theorem new_ne {p : Addr} (hw : ∃ o, H w = some o) (h : H p = none) : p ≠ w := fun z => by
  obtain ⟨o, ho⟩ := hw
  rw [← z, h] at ho
  cases ho
theorem ed_tup (hw : ∃ o, H w = some o) (h : EvDs w C ta σ H us) (hz : us.length ≤ 100000) : EvD w C (tTup ta) σ H (.tup us) := fun H1 e Q q =>
  h H1 e _ fun vs H2 e2 l => ⟨sz_of (by rw [AtL.length l]; exact hz), fun p hp => q (.ref p) _ (e2.trans (Ex.new hp)) (.tup upd_same (new_ne (hw.imp fun o z => (e.trans e2) _ _ z) hp) (ex_atl (Ex.new hp) l))⟩
def cutU (us : List U) (lo hi : Option Int) : List U := (us.drop (HT.sIx us.length 0 lo)).take (HT.sIx us.length us.length hi - HT.sIx us.length 0 lo)
theorem atl_cut {lo hi : Option Int} (l : AtL w C H xs us) : AtL w C H (cutV xs lo hi) (cutU us lo hi) := by
  unfold cutV cutU
  rw [AtL.length l]
  exact AtL.take _ (AtL.drop _ l)
theorem ed_slice {a : Addr} {tl th : TO} {lo hi : Option Int} (hw : ∃ o, H w = some o) (h : Ev te σ H (.ref a)) (hx : H a = some (.tup xs)) (na : a ≠ w) (l : AtL w C H xs us) (h1 : EvO tl σ H lo) (h2 : EvO th σ H hi) : EvD w C (tSl (rSlA K) te tl th) σ H (.tup (cutU us lo hi)) := fun H1 e Q q =>
  h H1 e _ fun H2 e2 => h1 H2 (e.trans e2) _ fun H3 e3 => h2 H3 ((e.trans e2).trans e3) _ fun H4 e4 => by
    have e5 := ((e.trans e2).trans e3).trans e4
    refine ⟨a, xs, rfl, st_of (e5 _ _ hx), fun hh => ?_, fun _ p hp => ?_⟩
    · have eu : cutU us lo hi = us := by
        unfold cutU
        rw [← AtL.length l, hh.1, hh.2, AtL.length l, List.drop_zero, Nat.sub_zero, List.take_length]
      exact q _ H4 ((e2.trans e3).trans e4) (by rw [eu]; exact .tup (e5 _ _ hx) na (ex_atl e5 l))
    · exact q _ _ (((e2.trans e3).trans e4).trans (Ex.new hp)) (.tup upd_same (new_ne (hw.imp fun o z => e5 _ _ z) hp) (ex_atl (Ex.new hp) (atl_cut (ex_atl e5 l))))
theorem ed_cat (hw : ∃ o, H w = some o) (h1 : EvD w C te σ H (.tup us1)) (h2 : EvD w C tb σ H (.tup us2)) (hz : us1.length + us2.length ≤ 100000) : EvD w C (tOp (rCatA K) te tb) σ H (.tup (us1 ++ us2)) := fun H1 e Q q =>
  h1 H1 e _ fun v1 H2 e2 a1 => h2 H2 (e.trans e2) _ fun v2 H3 e3 a2 => by
    obtain ⟨p1, x1, rfl, g1, n1, t1⟩ := at_tup (ex_at e3 a1)
    obtain ⟨p2, x2, rfl, g2, n2, t2⟩ := at_tup a2
    refine ⟨p1, p2, x1, x2, rfl, rfl, st_of g1, st_of g2, sz_of (by rw [AtL.length t1, AtL.length t2]; exact hz), fun z => ?_, fun _ z => ?_, fun _ _ p hp => ?_⟩
    · subst z
      cases t1
      exact q _ H3 (e2.trans e3) a2
    · subst z
      cases t2
      rw [List.append_nil] at q
      exact q _ H3 (e2.trans e3) (ex_at e3 a1)
    · exact q _ _ ((e2.trans e3).trans (Ex.new hp)) (.tup upd_same (new_ne (hw.imp fun o z => ((e.trans e2).trans e3) _ _ z) hp) (ex_atl (Ex.new hp) (AtL.append t1 t2)))
theorem ed_call {sp : Sp} {E : XK} {ur : U} (h : EvDs w C ta σ H us) (hs : ∀ vs H1, Ex H H1 → AtL w C H1 vs us → ∀ Q : VK, (∀ v H2, Ex H1 H2 → At w C H2 v ur → Q v H2) → ∀ E, sp vs H1 Q E) : EvD w C (tCall sp [] E ta) σ H ur :=
  fun H1 e Q q => h H1 e _ fun vs H2 e2 l => by
    have := hs vs H2 (e.trans e2) l Q (fun v H3 e3 a => q v H3 (e2.trans e3) a) E
    rwa [show vs = vs ++ [] from (List.append_nil vs).symm] at this
/-- tuple(a new list) -/
abbrev rTupO (K : PySem.W.Frag) : List V → Hp → VK → Prop := fun xs H Q => ∃ p ys, xs = [.ref p] ∧ ((SqL K H p ys ∧ ∀ l, H l = none → Q (.ref l) (upd H l (.tup ys))) ∨ (SqT K H p ys ∧ Q (.ref p) H))
theorem ed_tupL (hw : ∃ o, H w = some o) (h : EvLD w C te σ H us) : EvD w C (tCB (rTupO K) (tCons te tNil)) σ H (.tup us) := fun H1 e Q q =>
  h H1 e _ fun p ys H2 hp e2 h2 l => ⟨p, ys, rfl, .inl ⟨sq_of h2, fun b hb => q (.ref b) _ (e2.trans (Ex.new hb)) (.tup upd_same (new_ne (hw.imp fun o z => (e.trans e2) _ _ z) hb) (ex_atl (Ex.new hb) l))⟩⟩
theorem atl_append {us1 us2 : List U} {x1 x2 : List V} (h1 : AtL w C H x1 us1) (h2 : AtL w C H x2 us2) : AtL w C H (x1 ++ x2) (us1 ++ us2) := AtL.append h1 h2
theorem take_filter {us : List U} {i : Nat} {u : U} (g : U → Bool) (h : us[i]? = some u) : (us.take (i + 1)).filter g = (us.take i).filter g ++ if g u = true then [u] else [] := by
  rw [List.take_add_one, h, List.filter_append]
  congr 1
  by_cases q : g u = true
  · rw [if_pos q]
    show List.filter g [u] = _
    rw [List.filter_cons_of_pos q]
    rfl
  · rw [if_neg q]
    show List.filter g [u] = _
    rw [List.filter_cons_of_neg q]
    rfl
/-- [f(x) for x in a tuple if g(x)] -/
theorem lc_D {a : Addr} {j : Nat} {vs : List Nat} {g : U → Bool} {f : U → U} (h : Ev tl σ H (.ref a)) (hx : H a = some (.tup xs)) (hl : AtL w C H xs us) (hz : us.length ≤ 40000) (hp : ∀ u ∈ us, pln (f u)) (hw : ∀ x, wipe ((wipe σ vs).set j (some x)) vs = wipe σ vs)
    (ht : ∀ (x : V) (u : U) G, u ∈ us → Ex H G → At w C G x u → EvT t ((wipe σ vs).set j (some x)) G (g u)) (he : ∀ (x : V) (u : U) G, u ∈ us → g u = true → Ex H G → At w C G x u → EvD w C te ((wipe σ vs).set j (some x)) G (f u)) :
    EvLD w C (tLc (iTup K tl) (gName j) t te vs) σ H ((us.filter g).map f) := fun H0 e Q q => h H0 e _ fun H1 e1 => ⟨a, rfl, ⟨xs, st_of ((e.trans e1) _ _ hx)⟩, fun Dl hD =>
  lc_tup (xs := xs) (fun i H' => Ex H1 H' ∧ ∃ ys, H' Dl = some (.lst ys) ∧ ys.length ≤ i ∧ AtL w C H' ys (((us.take i).filter g).map f)) ⟨Ex.new hD, [], upd_same, Nat.le_refl _, .nil⟩ (fun i H' _ p => st_of (((e.trans e1).trans p.1) _ _ hx)) (fun i x H2 hi p => by
    obtain ⟨p1, ys, p2, p3, p4⟩ := p
    have hlen := AtL.length hl
    have hu : i < us.length := by
      have := (List.getElem?_eq_some_iff.mp hi).1
      omega
    obtain ⟨x', hx', hax⟩ := AtL.get hl (List.getElem?_eq_getElem hu)
    rw [hi] at hx'
    cases hx'
    have e2 := (e.trans e1).trans p1
    refine ⟨hw x, ht x us[i] H2 (List.getElem_mem hu) e2 (ex_at e2 hax) H2 (Ex.refl H2) _ fun H3 e3 => ?_⟩
    have eg := take_filter g (List.getElem?_eq_getElem hu)
    cases hg : g us[i] with
    | false =>
      rw [hg] at eg
      rw [if_neg Bool.false_ne_true, List.append_nil] at eg
      rw [if_neg Bool.false_ne_true]
      exact ⟨p1.trans e3, ys, e3 _ _ p2, by omega, by rw [eg]; exact ex_atl e3 p4⟩
    | true =>
      rw [hg, if_pos rfl] at eg
      rw [if_pos rfl]
      refine he x us[i] H3 (List.getElem_mem hu) hg (e2.trans e3) (ex_at (e2.trans e3) hax) H3 (Ex.refl H3) _ fun v H4 e4 a4 => ⟨ys, e4 _ _ (e3 _ _ p2), ?_, fun q o hq => ?_, ys ++ [v], upd_same, ?_, ?_⟩
      · have := bit_line
        unfold bit at this
        omega
      · rw [upd_ne (ne_of_none hq hD)]
        exact e4 _ _ (e3 _ _ (p1 _ _ hq))
      · rw [List.length_append]
        show ys.length + 1 ≤ i + 1
        omega
      · have nt : ∀ b zs, b ≠ w → H4 b = some (.tup zs) → upd H4 Dl (.lst (ys ++ [v])) b = some (.tup zs) := fun b zs _ hb => by
          rw [upd_ne (fun z => by rw [z, e4 _ _ (e3 _ _ p2)] at hb; cases hb)]
          exact hb
        rw [eg, List.map_append]
        refine AtL.append (atl_tups nt (plnL_all.mpr fun y hy => ?_) (ex_atl (e3.trans e4) p4)) (.cons (at_tups nt (hp _ (List.getElem_mem hu)) a4) .nil)
        obtain ⟨z, hz', rfl⟩ := List.mem_map.mp hy
        exact hp z (List.mem_of_mem_take (List.mem_filter.mp hz').1)) (fun H' p => by
    obtain ⟨p1, ys, p2, p3, p4⟩ := p
    rw [AtL.length hl, List.take_length] at p4
    exact q Dl ys H' (fresh_back e1 hD) (e1.trans p1) p2 p4)⟩
end
end
end Hs
/-! the law's drawn values -/
namespace Hs
open PySem PySem.Spec PyProof.Rows L2 Hu Evl
/-- what is tracked in H' at places that were free in H -/
def fresh (H H' : Hp) : Hp := fun b => match H b with | none => H' b | some _ => none
theorem fr_get {H H' : Hp} {b : Addr} (h : H b = none) : fresh H H' b = H' b := by
  unfold fresh
  rw [h]
theorem fr_new {H H' : Hp} {b : Addr} {o : HO} (h : fresh H H' b = some o) : H b = none ∧ H' b = some o := by
  cases q : H b with
  | none => exact ⟨rfl, by rw [fr_get q] at h; exact h⟩
  | some o' =>
    unfold fresh at h
    rw [q] at h
    cases h
theorem at_full {w C : Addr} {H H' : Hp} {v : V} {u : U} (h : At w C (fresh H H') v u) : At w C H' v u := h.keep fun b o _ q => (fr_new q).2
theorem atl_full {w C : Addr} {H H' : Hp} {vs : List V} {us : List U} (h : AtL w C (fresh H H') vs us) : AtL w C H' vs us := h.keep fun b o _ q => (fr_new q).2
/-! its signs are a text's or line feeds, its integers below 2 ^ 64 + b -/
mutual
def tidy (b : Nat) : U → Prop
  | .int i => i.natAbs < 2 ^ 64 + b
  | .str z => ∀ c ∈ TL.tl z, okS c = true ∨ c = 10
  | .tup us | .lst us | .dct us => tidyL b us
  | _ => True
def tidyL (b : Nat) : List U → Prop
  | [] => True
  | u :: us => tidy b u ∧ tidyL b us
end
mutual
theorem tidy_clean {b : Nat} (hb : b ≤ 100) : ∀ u : U, tidy b u → clean u
  | .non, _ => trivial
  | .bl _, _ => trivial
  | .int i, h => by simp only [tidy] at h; simp only [clean]; omega
  | .str z, h => by simpa only [clean, tidy] using h
  | .tup us, h => by simp only [clean]; exact tidyL_clean hb us (by simpa only [tidy] using h)
  | .lst us, h => by simp only [clean]; exact tidyL_clean hb us (by simpa only [tidy] using h)
  | .dct us, h => by simp only [clean]; exact tidyL_clean hb us (by simpa only [tidy] using h)
  | .exc, _ => trivial
theorem tidyL_clean {b : Nat} (hb : b ≤ 100) : ∀ us : List U, tidyL b us → cleanL us
  | [], _ => trivial
  | u :: us, h => ⟨tidy_clean hb u h.1, tidyL_clean hb us h.2⟩
end
mutual
theorem tidy_mono {b b' : Nat} (hb : b ≤ b') : ∀ u : U, tidy b u → tidy b' u
  | .non, _ => trivial
  | .bl _, _ => trivial
  | .int i, h => by simp only [tidy] at *; omega
  | .str z, h => by simpa only [tidy] using h
  | .tup us, h => by simp only [tidy] at *; exact tidyL_mono hb us h
  | .lst us, h => by simp only [tidy] at *; exact tidyL_mono hb us h
  | .dct us, h => by simp only [tidy] at *; exact tidyL_mono hb us h
  | .exc, _ => trivial
theorem tidyL_mono {b b' : Nat} (hb : b ≤ b') : ∀ us : List U, tidyL b us → tidyL b' us
  | [], _ => trivial
  | u :: us, h => ⟨tidy_mono hb u h.1, tidyL_mono hb us h.2⟩
end
/-- bounds -/
structure Bd (u : U) (m d b : Nat) : Prop where
  w : wt u ≤ m
  d : dep u ≤ d
  c : tidy b u
theorem Bd.mono {u : U} {m d b m' d' b' : Nat} (h : Bd u m d b) (hm : m ≤ m') (hd : d ≤ d') (hb : b ≤ b') : Bd u m' d' b' := ⟨Nat.le_trans h.w hm, Nat.le_trans h.d hd, tidy_mono hb _ h.c⟩
theorem Bd.fine {u : U} {m d b : Nat} (h : Bd u m d b) (hm : m ≤ 1000000) (hb : b ≤ 100) : Fine u := ⟨Nat.le_trans h.w hm, tidy_clean hb _ h.c⟩
structure BdL (us : List U) (m d b : Nat) : Prop where
  w : wtL us ≤ m
  d : depL us ≤ d
  c : tidyL b us
theorem BdL.nil {d b : Nat} : BdL [] 0 d b := ⟨Nat.le_refl _, Nat.zero_le _, trivial⟩
theorem wtL_append : ∀ us us' : List U, wtL (us ++ us') = wtL us + wtL us'
  | [], us' => by simp [wtL]
  | u :: us, us' => by simp only [List.cons_append, wtL, wtL_append us us']; omega
theorem depL_append : ∀ us us' : List U, depL (us ++ us') = max (depL us) (depL us')
  | [], us' => by simp [depL]
  | u :: us, us' => by simp only [List.cons_append, depL, depL_append us us']; omega
theorem tidyL_append {b : Nat} : ∀ {us us' : List U}, tidyL b us → tidyL b us' → tidyL b (us ++ us')
  | [], _, _, h => h
  | _ :: _, _, h, h' => ⟨h.1, tidyL_append h.2 h'⟩
theorem BdL.append {us us' : List U} {m m' d b : Nat} (h : BdL us m d b) (h' : BdL us' m' d b) : BdL (us ++ us') (m + m') d b := by
  refine ⟨?_, ?_, tidyL_append h.c h'.c⟩
  · rw [wtL_append]
    have := h.w
    have := h'.w
    omega
  · rw [depL_append]
    have := h.d
    have := h'.d
    omega
theorem BdL.one {u : U} {m d b : Nat} (h : Bd u m d b) : BdL [u] (m + 2) d b := ⟨by have := h.w; simp only [wtL]; omega, by have := h.d; simp only [depL]; omega, ⟨h.c, trivial⟩⟩
theorem BdL.snoc {us : List U} {u : U} {m m' d b : Nat} (h : BdL us m d b) (q : Bd u m' d b) : BdL (us ++ [u]) (m + (m' + 2)) d b := h.append (.one q)
theorem BdL.mono {us : List U} {m d b m' d' b' : Nat} (h : BdL us m d b) (hm : m ≤ m') (hd : d ≤ d') (hb : b ≤ b') : BdL us m' d' b' := ⟨Nat.le_trans h.w hm, Nat.le_trans h.d hd, tidyL_mono hb _ h.c⟩
theorem BdL.take {us : List U} {m d b : Nat} : ∀ (n : Nat), BdL us m d b → BdL (us.take n) m d b := fun n h => by
  have e := List.take_append_drop n us
  refine ⟨?_, ?_, ?_⟩
  · have := h.w
    rw [← e, wtL_append] at this
    omega
  · have := h.d
    rw [← e, depL_append] at this
    omega
  · have := h.c
    clear e h
    induction us generalizing n with
    | nil => rw [List.take_nil]; trivial
    | cons u us ih => cases n with
      | zero => trivial
      | succ n => exact ⟨this.1, ih n this.2⟩
theorem BdL.drop {us : List U} {m d b : Nat} : ∀ (n : Nat), BdL us m d b → BdL (us.drop n) m d b := fun n h => by
  have e := List.take_append_drop n us
  refine ⟨?_, ?_, ?_⟩
  · have := h.w
    rw [← e, wtL_append] at this
    omega
  · have := h.d
    rw [← e, depL_append] at this
    omega
  · have := h.c
    clear e h
    induction us generalizing n with
    | nil => rw [List.drop_nil]; trivial
    | cons u us ih => cases n with
      | zero => exact this
      | succ n => exact ih n this.2
theorem BdL.get {us : List U} {m d b : Nat} {u : U} (h : BdL us m d b) (hu : u ∈ us) : Bd u m d b := by
  obtain ⟨w, dd, c⟩ := h
  refine ⟨Nat.le_trans (wt_mem hu) w, Nat.le_trans ?_ dd, ?_⟩
  · clear w c dd
    induction us with
    | nil => cases hu
    | cons a r ih =>
      simp only [depL]
      rcases List.mem_cons.mp hu with rfl | hu
      · omega
      · have := ih hu
        omega
  · clear w dd
    induction us with
    | nil => cases hu
    | cons a r ih =>
      rcases List.mem_cons.mp hu with rfl | hu
      · exact c.1
      · exact ih hu c.2
theorem Bd.tup {us : List U} {m d b : Nat} (h : BdL us m d b) : Bd (.tup us) (m + 3) (d + 1) b := ⟨by have := h.w; simp only [wt]; omega, by have := h.d; simp only [dep]; omega, by simpa only [tidy] using h.c⟩
theorem Bd.lst {us : List U} {m d b : Nat} (h : BdL us m d b) : Bd (.lst us) (m + 3) (d + 1) b := ⟨by have := h.w; simp only [wt]; omega, by have := h.d; simp only [dep]; omega, by simpa only [tidy] using h.c⟩
theorem AtL.snoc {w C : Addr} {H : Hp} {vs : List V} {us : List U} {v : V} {u : U} (l : AtL w C H vs us) (h : At w C H v u) : AtL w C H (vs ++ [v]) (us ++ [u]) := AtL.append l (.cons h .nil)
theorem vi_eq {i j : Int} (h : decide (V.int i = V.int j) = true) : i = j := V.int.inj (of_decide_eq_true h)
theorem vi_ne {i j : Int} (h : ¬ decide (V.int i = V.int j) = true) : i ≠ j := fun e => h (decide_eq_true (by rw [e]))
section
variable {P : Program} {wd : World} {K : PySem.W.Frag} {mg : Str → Option Value} {base : Heap} {C : Addr}
/-- the defs that draw, ready to be called -/
structure Dd (P : Program) (wd : World) (K : PySem.W.Frag) (mg : Str → Option Value) (base : Heap) (f : Addr) (d : FuncData) : Prop where
  ok : FnOk P wd K mg base CX0 3 f d ["well", "many"] spDraw
  g : mg "_law_draw" = some (.ref f)
  kp : PySem.W.keepIn K (.ref f) = true
  b : Binds K d ["well", "many"] []
end
section
variable {X : Cx} {fD : Addr} {dD : FuncData} {e1 e2 : Expr} {t1 t2 : TE} {ps pos : Pos} {k : Nat}
theorem pe_draw (D : Dd X.prog X.w X.K X.mg X.base fD dD) (hr : Room k X.A) (h : 3 ≤ k) (hg : Gl X "_law_draw") (h1 : PE X e1 t1) (h2 : PE X e2 t2) (hst : starEach [e1, e2] X.env = (false, eval e1 X.env) :: starEach [e2] X.env := by rfl) (hst2 : starEach [e2] X.env = (false, eval e2 X.env) :: starEach [] X.env := by rfl)
    (hpl : (backTo pos (starEach [e2] X.env)).any (·.1) = false := by rfl) : PE X (.Call (.Name "_law_draw" ps) [e1, e2] [] pos) (tCall spDraw [] E0 (tCons t1 (tCons t2 tNil))) :=
  pe_call (D.ok.mono h) hr hg D.g D.kp D.b .nil pass0 (pa_cons h1 (pa_cons h2 pa_nil hst2) hst) (by decide) hst hpl
end
section
variable {P : Program} {wd : World} {K : PySem.W.Frag} {mg : Str → Option Value} {base : Heap} {C : Addr} {fD : Addr} {dD : FuncData}
def spNumber : Sp := fun vs H Q _ => ∃ wl : WA, vs = [.ref wl.w] ∧ Well H wl ∧ ∀ (d : Int) (H' : Hp), 0 ≤ d → d < 10 ^ 11 → Drawn wl H H' → Q (.int d) H'
theorem scNumber : FnScope ["well", "kind"] ["well"] (defScope lNumber) := ⟨rfl, rfl, rfl, by decide +kernel, rfl, by decide +kernel, by decide +kernel⟩
theorem ev_pow {σ : L2.St} {H : Hp} {i j : Int} {ta tb : TE} (ha : Ev ta σ H (.int i)) (hb : Ev tb σ H (.int j)) (hc : CPow i j) : Ev (tOp (rI CPow fun i j => .int (i ^ j.toNat)) ta tb) σ H (.int (i ^ j.toNat)) := ev_op ha hb (rv_I hc)
theorem ev_pick {σ : L2.St} {H : Hp} {ta : TA} {tb : TE} {xs : List V} {i : Nat} {v : V} (hl : EvA ta σ H xs) (hz : xs.length ≤ 100000) (hb : Ev tb σ H (.int (i : Int))) (hv : xs[i]? = some v) : Ev (tOp (rIxL K) (tLst ta) tb) σ H v :=
  ev_opL1 (el_lst hl hz) (fun H1 e => hb.mono e) fun p H1 h e => rv_ixL (sq_of h) (atI_nat hv)
theorem ok_number {f : Addr} {fd : FuncData} (F : Fun K "_law_number" "_law_number" lNumber f fd) (D : Dd P wd K mg base fD dD) : FnOk P wd K mg base CX0 4 f fd ["well"] spNumber := by
  refine F.ok scNumber (fun vs H Q E h => ?_) (fun cdv A outer s H vs Q E hr h => ?_)
  · obtain ⟨wl, rfl, _⟩ := h
    rfl
  obtain ⟨wl, rfl, W, k⟩ := h
  refine ⟨_, pss_cons (ps_set (i := 1) scNumber.nd rfl (.inl rfl) (pe_draw D hr (by decide) (by rfl) (pv 0) pe_int))
    (pss_cons (ps_if (pt_cmpR op_eq (pv 1) pe_int (nomark _)) (pss_one (ps_ret (pe_draw D hr (by decide) (by rfl) (pv 0) (pe_op op_pow pe_int pe_int)))) pss_nil)
    (pss_one (ps_ret (pe_draw D hr (by decide) (by rfl) (pv 0) (pe_ix ix_list (pe_lst (pa_cons pe_int (pa_cons pe_int (pa_cons (pe_op op_pow pe_int pe_int) pa_nil)))) (pv 1) (fun _ _ => rfl)))))), ?_⟩
  refine ⟨_, rfl, wl, 4, rfl, W, by decide, by decide, fun d H1 d0 d1 D1 => ⟨_, rfl, rfl, _, rfl, ite2 (fun q => ?_) (fun q => ?_)⟩⟩
  · refine ⟨_, rfl, _, _, rfl, rfl, ⟨by decide, by decide, by decide⟩, wl, 10 ^ 11, rfl, D1.well, by decide, by decide, fun d2 H2 e0 e1 D2 => k d2 H2 e0 e1 (D1.trans D2)⟩
  · have q1 := vi_ne q
    have hd : d = 0 ∨ d = 1 ∨ d = 2 := by omega
    have go : ∀ (i : Nat) (m : Int), d = (i : Int) → ([V.int 3, .int 40, .int (10 ^ 9)] : List V)[i]? = some (.int m) → 0 < m → m ≤ 10 ^ 9 → tCall spDraw [] E0 (tCons (tVar 0) (tCons (tOp (rIxL K) (tLst (tCons (tC (.int 3)) (tCons (tC (.int 40)) (tCons (tOp (rI CPow fun i j => .int (i ^ j.toNat)) (tC (.int 10)) (tC (.int 9))) tNil)))) (tVar 1)) tNil)) [some (.ref wl.w), some (.int d)] H1 Q := fun i m ei hm m0 m9 => by
      refine ⟨_, rfl, ev_pick (K := K) (i := i) (ea_cons ev_c (ea_cons ev_c (ea_cons (ev_pow ev_c ev_c ⟨by decide, by decide, by decide⟩) ea_nil))) (show (3 : Nat) ≤ 100000 by decide) (ev_var (by rw [ei]; rfl)) hm H1 (Ex.refl H1) _ fun H2 e2 => ?_⟩
      exact ⟨wl, m, rfl, D1.well.same e2, m0, by omega, fun d2 H3 f0 f1 D2 => k d2 H3 f0 (by omega) ((D1.same e2).trans D2)⟩
    rcases hd with h | h | h
    · exact go 0 3 (by rw [h]; rfl) rfl (by decide) (by decide)
    · exact go 1 40 (by rw [h]; rfl) rfl (by decide) (by decide)
    · exact go 2 (10 ^ 9) (by rw [h]; rfl) rfl (by decide) (by decide)
end
end Hs
namespace Hs
open PySem PySem.Spec PyProof.Rows L2 Hu Evl
section
variable {P : Program} {wd : World} {K : PySem.W.Frag} {mg : Str → Option Value} {base : Heap} {C : Addr} {fD : Addr} {dD : FuncData}
/-! ### ids and stamps -/
theorem idOk {i j : Int} (h : 1 ≤ i ∧ i ≤ 99 ∧ 1 ≤ j) : gId (.tup [.int i, .int j]) = true := by
  show ((decide (1 ≤ i) && decide (i ≤ 99)) && decide (1 ≤ j)) = true
  rw [decide_eq_true h.1, decide_eq_true h.2.1, decide_eq_true h.2.2]
  rfl
theorem stampOk {i j : Int} (h : (i = 0 ∧ j = 0) ∨ (1 ≤ i ∧ 1 ≤ j ∧ j ≤ 99)) : gStamp (.tup [.int i, .int j]) = true := by
  show ((decide (i = 0) && decide (j = 0)) || (decide (1 ≤ i) && (decide (1 ≤ j) && decide (j ≤ 99)))) = true
  rcases h with ⟨h1, h2⟩ | ⟨h1, h2, h3⟩
  · rw [decide_eq_true h1, decide_eq_true h2]
    rfl
  · rw [decide_eq_true h1, decide_eq_true h2, decide_eq_true h3]
    simp
def spPair (R : Int → Int → Prop) : Sp := fun vs H Q _ => ∃ wl : WA, vs = [.ref wl.w] ∧ Well H wl ∧ ∀ (i j : Int) (p : Addr) (H' : Hp), i.natAbs < 2 ^ 60 → j.natAbs < 2 ^ 60 → R i j → H p = none → Drawn wl H H' → H' p = some (.tup [.int i, .int j]) → Q (.ref p) H'
theorem scIdL : FnScope ["well"] ["well"] (defScope lId) := ⟨rfl, rfl, rfl, by decide +kernel, rfl, by decide +kernel, by decide +kernel⟩
theorem ok_idL {f fN : Addr} {fd dN : FuncData} (F : Fun K "_law_id" "_law_id" lId f fd) (D : Dd P wd K mg base fD dD) (DN : Df K mg "_law_number" lNumber ["well"] fN dN) : FnOk P wd K mg base CX0 5 f fd ["well"] (spPair fun i j => 1 ≤ i ∧ i ≤ 99 ∧ 1 ≤ j) := by
  have GN : FnOk P wd K mg base CX0 4 fN dN ["well"] spNumber := ok_number DN.F D
  refine F.ok scIdL (fun vs H Q E h => ?_) (fun cdv A outer s H vs Q E hr h => ?_)
  · obtain ⟨wl, rfl, _⟩ := h
    rfl
  obtain ⟨wl, rfl, W, k⟩ := h
  refine ⟨_, pss_cons (ps_if (pt_cmpR op_eq (pe_draw D hr (by decide) (by rfl) (pv 0) pe_int) pe_int (nomark _))
      (pss_one (ps_ret (pe_tup (pa_cons (pe_op op_add pe_int (pe_draw D hr (by decide) (by rfl) (pv 0) pe_int)) (pa_cons (pe_op op_add pe_int (pe_call GN hr (by rfl) DN.g DN.F.kp DN.b .nil pass0 (pa_cons (pv 0) pa_nil))) pa_nil))))) pss_nil)
    (pss_one (ps_ret (pe_tup (pa_cons (pe_op op_add pe_int (pe_draw D hr (by decide) (by rfl) (pv 0) pe_int)) (pa_cons (pe_op op_add pe_int (pe_draw D hr (by decide) (by rfl) (pv 0) pe_int)) pa_nil))))), ?_⟩
  refine ⟨_, rfl, wl, 3, rfl, W, by decide, by decide, fun d H1 d0 d1 D1 => ⟨rfl, _, rfl, ite2 (fun q => ?_) (fun q => ?_)⟩⟩
  · refine ⟨_, rfl, wl, 99, rfl, D1.well, by decide, by decide, fun e H2 e0 e1 D2 => ⟨_, _, rfl, rfl, _, rfl, wl, rfl, D2.well, fun g H3 g0 g1 D3 => ⟨_, _, rfl, rfl, sz_of (show (2 : Nat) ≤ 100000 by decide), fun p hp => ?_⟩⟩⟩
    have DD := (D1.trans D2).trans D3
    exact k (1 + e) (1 + g) p _ (by omega) (by omega) (by omega) (DD.free W hp) (DD.new hp) upd_same
  · refine ⟨_, rfl, wl, 2, rfl, D1.well, by decide, by decide, fun e H2 e0 e1 D2 => ⟨_, _, rfl, rfl, _, rfl, wl, 3, rfl, D2.well, by decide, by decide, fun g H3 g0 g1 D3 => ⟨_, _, rfl, rfl, sz_of (show (2 : Nat) ≤ 100000 by decide), fun p hp => ?_⟩⟩⟩
    have DD := (D1.trans D2).trans D3
    exact k (1 + e) (1 + g) p _ (by omega) (by omega) (by omega) (DD.free W hp) (DD.new hp) upd_same
theorem scStampL : FnScope ["well", "kind"] ["well"] (defScope lStamp) := ⟨rfl, rfl, rfl, by decide +kernel, rfl, by decide +kernel, by decide +kernel⟩
theorem ok_stampL {f fN : Addr} {fd dN : FuncData} (F : Fun K "_law_stamp" "_law_stamp" lStamp f fd) (D : Dd P wd K mg base fD dD) (DN : Df K mg "_law_number" lNumber ["well"] fN dN) : FnOk P wd K mg base CX0 5 f fd ["well"] (spPair fun i j => (i = 0 ∧ j = 0) ∨ (1 ≤ i ∧ 1 ≤ j ∧ j ≤ 99)) := by
  have GN : FnOk P wd K mg base CX0 4 fN dN ["well"] spNumber := ok_number DN.F D
  refine F.ok scStampL (fun vs H Q E h => ?_) (fun cdv A outer s H vs Q E hr h => ?_)
  · obtain ⟨wl, rfl, _⟩ := h
    rfl
  obtain ⟨wl, rfl, W, k⟩ := h
  refine ⟨_, pss_cons (ps_set (i := 1) scStampL.nd rfl (.inl rfl) (pe_draw D hr (by decide) (by rfl) (pv 0) pe_int))
    (pss_cons (ps_if (pt_cmpR op_eq (pv 1) pe_int (nomark _)) (pss_one (ps_ret (pe_tup (pa_cons pe_int (pa_cons pe_int pa_nil))))) pss_nil)
    (pss_cons (ps_if (pt_cmpR op_eq (pv 1) pe_int (nomark _)) (pss_one (ps_ret (pe_tup (pa_cons (pe_op op_add pe_int (pe_call GN hr (by rfl) DN.g DN.F.kp DN.b .nil pass0 (pa_cons (pv 0) pa_nil))) (pa_cons (pe_op op_add pe_int (pe_draw D hr (by decide) (by rfl) (pv 0) pe_int)) pa_nil))))) pss_nil)
    (pss_one (ps_ret (pe_tup (pa_cons (pe_op op_add pe_int (pe_draw D hr (by decide) (by rfl) (pv 0) pe_int)) (pa_cons (pe_op op_add pe_int (pe_draw D hr (by decide) (by rfl) (pv 0) pe_int)) pa_nil))))))), ?_⟩
  refine ⟨_, rfl, wl, 5, rfl, W, by decide, by decide, fun d H1 d0 d1 D1 => ⟨_, rfl, rfl, _, rfl, ite2 (fun q => ?_) (fun q => ?_)⟩⟩
  · exact ⟨sz_of (show (2 : Nat) ≤ 100000 by decide), fun p hp => k 0 0 p _ (by decide) (by decide) (by omega) (D1.free W hp) (D1.new hp) upd_same⟩
  refine ⟨_, rfl, rfl, _, rfl, ite2 (fun q => ?_) (fun q => ?_)⟩
  · refine ⟨_, rfl, wl, rfl, D1.well, fun e H2 e0 e1 D2 => ⟨_, _, rfl, rfl, _, rfl, wl, 99, rfl, D2.well, by decide, by decide, fun g H3 g0 g1 D3 => ⟨_, _, rfl, rfl, sz_of (show (2 : Nat) ≤ 100000 by decide), fun p hp => ?_⟩⟩⟩
    have DD := (D1.trans D2).trans D3
    exact k (1 + e) (1 + g) p _ (by omega) (by omega) (by omega) (DD.free W hp) (DD.new hp) upd_same
  · refine ⟨_, rfl, wl, 4, rfl, D1.well, by decide, by decide, fun e H2 e0 e1 D2 => ⟨_, _, rfl, rfl, _, rfl, wl, 3, rfl, D2.well, by decide, by decide, fun g H3 g0 g1 D3 => ⟨_, _, rfl, rfl, sz_of (show (2 : Nat) ≤ 100000 by decide), fun p hp => ?_⟩⟩⟩
    have DD := (D1.trans D2).trans D3
    exact k (1 + e) (1 + g) p _ (by omega) (by omega) (by omega) (DD.free W hp) (DD.new hp) upd_same
/-! ### members -/
def spMem : Sp := fun vs H Q _ => ∃ wl : WA, vs = [.ref wl.w] ∧ Well H wl ∧ ∀ (f : Nat → Bool) (p : Addr) (H' : Hp), (∃ i, i < 9 ∧ f i = true) → H p = none → Drawn wl H H' → H' p = some (.tup (given 9 f fun i => V.int (i : Int))) → Q (.ref p) H'
theorem scMem : FnScope ["well", "bits", "k"] ["well"] (defScope lMembers) := ⟨rfl, rfl, rfl, by decide +kernel, rfl, by decide +kernel, by decide +kernel⟩
def pows : List V := [.int 1, .int 2, .int 4, .int 8, .int 16, .int 32, .int 64, .int 128, .int 256]
theorem pows_get {i : Nat} (h : i < 9) : pows[i]? = some (.int (2 ^ i : Int)) := by
  match i, h with
  | 0, _ | 1, _ | 2, _ | 3, _ | 4, _ | 5, _ | 6, _ | 7, _ | 8, _ => rfl
abbrev rTupQ (K : PySem.W.Frag) : List V → Hp → VK → Prop := fun xs H Q => ∃ p ys, xs = [.ref p] ∧ ((SqL K H p ys ∧ ∀ l, H l = none → Q (.ref l) (upd H l (.tup ys))) ∨ (SqT K H p ys ∧ Q (.ref p) H))
theorem s_retTL {σ : L2.St} {H : Hp} {te : TE} {xs : List V} {D : Ends} (h : EvL te σ H xs) (k : ∀ p H1, H p = none → Ex H H1 → H1 p = some (.tup xs) → D.rt (.ref p) H1) : tRet (tCB (rTupQ K) (tCons te tNil)) D σ H :=
  h H (Ex.refl H) _ fun D' H2 hD e2 h2 => ⟨D', _, rfl, .inl ⟨SqL.of h2, fun p hp => k p _ (fresh_back e2 hp) (e2.trans (Ex.new hp)) upd_same⟩⟩
theorem bits_some (d : Int) (d0 : 0 ≤ d) (d1 : d < 511) : ∃ i, i < 9 ∧ decide (V.int (((1 + d) / (2 ^ i : Int)).fmod 2) = V.int 1) = true := by
  have key : ∀ n : Fin 511, ∃ i : Fin 9, ((1 + (n.1 : Int)) / (2 ^ i.1 : Int)).fmod 2 = 1 := by decide +kernel
  obtain ⟨i, hi⟩ := key ⟨d.toNat, by omega⟩
  refine ⟨i.1, i.2, decide_eq_true ?_⟩
  have e : ((d.toNat : Nat) : Int) = d := by omega
  rw [← e]
  exact congrArg V.int hi
theorem ok_mem {f : Addr} {fd : FuncData} (F : Fun K "_law_members" "_law_members" lMembers f fd) (B : Bt mg) (D : Dd P wd K mg base fD dD) : FnOk P wd K mg base CX0 4 f fd ["well"] spMem := by
  refine F.ok scMem (fun vs H Q E h => ?_) (fun cdv A outer s H vs Q E hr h => ?_)
  · obtain ⟨wl, rfl, _⟩ := h
    rfl
  obtain ⟨wl, rfl, W, k⟩ := h
  refine ⟨_, pss_cons (ps_set (i := 1) scMem.nd rfl (.inr rfl) (pe_op op_add pe_int (pe_draw D hr (by decide) (by rfl) (pv 0) pe_int)))
    (pss_one (ps_ret (pe_callTy call_tuple_of (by rfl) B.tup boot_tuple' (pa_cons (pe_lc (own := [("k", 2)]) (g := gName 2) rfl scMem.nd (pi_range1 (by rfl) B.range (pa_cons pe_int pa_nil)) (blkOk_by (N := ["well", "bits", "k"]) (sc := defScope lMembers) (by decide +kernel))
      (fun _ _ _ _ _ => pg_name (i := 2) scMem.nd rfl (Or.inl rfl)) (fun _ _ _ _ _ => pts_one (pt_cmpR op_eq (pe_op op_modN (pe_callTy call_int1 (by rfl) B.int boot_int (pa_cons (pe_op op_fdivW (pv 1) (pe_ix (show IxR _ (rIxL K) from ix_list) (pe_lst (pa_cons pe_int (pa_cons pe_int (pa_cons pe_int (pa_cons pe_int (pa_cons pe_int (pa_cons pe_int (pa_cons pe_int (pa_cons pe_int (pa_cons pe_int pa_nil)))))))))) (pv 2) (fun _ _ => rfl))) pa_nil)) pe_int) pe_int (nomark _)))
      (fun _ _ _ _ _ => pv 2)) pa_nil)))), ?_⟩
  refine ⟨_, rfl, wl, 511, rfl, W, by decide, by decide, fun d H1 d0 d1 D1 => ⟨_, _, rfl, rfl, ?_⟩⟩
  have L := el_lcR1 (σ := [some (V.ref wl.w), some (.int (1 + d)), none]) (H := H1) (j := 2) (vs := [2]) (n := 9) (t := tTest (tOp rEq (tOp (rI (fun _ j => j ≠ 0) fun i j => .int (i.fmod j)) (tCB (fun xs H Q => (∃ i, xs = [V.int i] ∧ Q (.int i) H) ∨ ∃ k, xs = [.bl k] ∧ Q (.int (if k then 1 else 0)) H) (tCons (tOp (rI CDivW fun i j => .int (i / j)) (tVar 1) (tOp (rIxL K) (tLst (tCons (tC (.int 1)) (tCons (tC (.int 2)) (tCons (tC (.int 4)) (tCons (tC (.int 8)) (tCons (tC (.int 16)) (tCons (tC (.int 32)) (tCons (tC (.int 64)) (tCons (tC (.int 128)) (tCons (tC (.int 256)) tNil)))))))))) (tVar 2))) tNil)) (tC (.int 2))) (tC (.int 1)))) (te := tVar 2)
    (fun i => decide (V.int (((1 + d) / (2 ^ i : Int)).fmod 2) = V.int 1)) (fun i => .int (i : Int)) (ea_cons ev_c ea_nil) (by decide) (fun _ => rfl) (fun i H2 e2 hi => ?_) (fun i H2 e2 hi _ => ev_var rfl)
  · dsimp only [gName]
    exact s_retTL (K := K) L fun p H2 hp e2 h2 => k _ p _ (bits_some d d0 d1) (D1.free W hp) (D1.same e2) h2
  · have h2 : (0 : Int) < 2 ^ i := by
      have : (0 : Int) < 2 := by decide
      exact Int.pow_pos this
    refine et_test (ev_op (ev_op (ev_cb (ea_cons (ev_op (ev_var rfl) (ev_pick (K := K) (xs := pows) (i := i) (ea_cons ev_c (ea_cons ev_c (ea_cons ev_c (ea_cons ev_c (ea_cons ev_c (ea_cons ev_c (ea_cons ev_c (ea_cons ev_c (ea_cons ev_c ea_nil))))))))) (by decide) (ev_var rfl) (pows_get (by omega))) (rv_I ?_)) ea_nil) fun H3 e3 Q q => .inl ⟨_, rfl, q H3 (Ex.refl H3)⟩) ev_c (rv_I (show (2 : Int) ≠ 0 by decide))) ev_c (rv_eq rfl))
    refine wide_div h2 (b := 20) ?_ (by decide) (by decide)
    have hi9 : i < 9 := by omega
    rw [Int.natAbs_pow]
    exact Nat.pow_lt_pow_right (by decide) (by omega)
end
end Hs
namespace Hs
open PySem PySem.Spec PyProof.Rows L2 Hu Evl
section
variable {P : Program} {wd : World} {K : PySem.W.Frag} {mg : Str → Option Value} {base : Heap} {C : Addr} {fD : Addr} {dD : FuncData}
theorem letters_len : (TL.tl lettersZ).length = 26 := by decide +kernel
theorem letters_ok : (TL.tl lettersZ).all lowc = true := by decide +kernel
def spName : Sp := fun vs H Q _ => ∃ wl : WA, vs = [.ref wl.w] ∧ Well H wl ∧ ∀ (z : Str) (H' : Hp), gNam (.str z) = true → Drawn wl H H' → Q (.str z) H'
theorem scName : FnScope ["well", "many", "k"] ["well"] (defScope lName) := ⟨rfl, rfl, rfl, by decide +kernel, rfl, by decide +kernel, by decide +kernel⟩
theorem join_signs : ∀ l : List Str, (∀ z ∈ l, ∃ c, z = ⟨#[c]⟩ ∧ lowc c = true) → (l.map (·.length)).sum = l.length ∧ ((l.map TL.tl).flatten).length = l.length ∧ ∀ c ∈ (l.map TL.tl).flatten, lowc c = true := by
  intro l
  induction l with
  | nil => exact fun _ => ⟨rfl, rfl, fun c hc => by cases hc⟩
  | cons a r ih =>
    intro h
    obtain ⟨i1, i2, i3⟩ := ih fun z hz => h z (List.mem_cons_of_mem _ hz)
    obtain ⟨c, ec, oc⟩ := h a List.mem_cons_self
    subst ec
    refine ⟨?_, ?_, ?_⟩
    · rw [List.map_cons, List.sum_cons, i1, List.length_cons]
      show 1 + r.length = r.length + 1
      omega
    · show (TL.tl (⟨#[c]⟩ : Str) ++ (r.map TL.tl).flatten).length = _
      rw [sgn_tl, List.length_append, i2, List.length_cons]
      show 1 + r.length = r.length + 1
      omega
    · intro b hb
      have hb' : b ∈ TL.tl (⟨#[c]⟩ : Str) ++ (r.map TL.tl).flatten := hb
      rcases List.mem_append.mp hb' with hb | hb
      · rw [sgn_tl] at hb
        rw [List.mem_singleton.mp hb]
        exact oc
      · exact i3 b hb
theorem ok_name {f : Addr} {fd : FuncData} (F : Fun K "_law_name" "_law_name" lName f fd) (B : Bt mg) (D : Dd P wd K mg base fD dD) : FnOk P wd K mg base CX0 4 f fd ["well"] spName := by
  refine F.ok scName (fun vs H Q E h => ?_) (fun cdv A outer s H vs Q E hr h => ?_)
  · obtain ⟨wl, rfl, _⟩ := h
    rfl
  obtain ⟨wl, rfl, W, k⟩ := h
  have GD : FnOk P wd K mg base CX0 3 fD dD ["well", "many"] spDraw := D.ok
  refine ⟨_, pss_cons (ps_set (i := 1) scName.nd rfl (.inl rfl) (pe_op op_add pe_int (pe_draw D hr (by decide) (by rfl) (pv 0) pe_int)))
    (Evl.pss_cut (ps_if (pt_cmpR op_eq (pe_draw D hr (by decide) (by rfl) (pv 0) pe_int) pe_int (nomark _)) (pss_one (ps_set (i := 1) scName.nd rfl (.inl rfl) (pe_op op_add pe_int (pe_draw D hr (by decide) (by rfl) (pv 0) pe_int)))) pss_nil)
    (pss_one (ps_ret (pe_join pe_str (pe_lc (own := [("k", 2)]) (g := gName 2) (tt := tYes) rfl scName.nd (pi_range1 (by rfl) B.range (pa_cons (pv 1) pa_nil)) (blkOk_by (N := ["well", "many", "k"]) (sc := defScope lName) (by decide +kernel))
        (fun _ _ _ _ _ => pg_name (i := 2) scName.nd rfl (Or.inl rfl)) (fun _ _ _ _ _ => pts_nil)
        (fun _ _ _ _ _ => pe_ix ix_str pe_str (pe_call GD hr (by rfl) D.g D.kp D.b .nil pass0 (pa_cons (pv 0) (pa_cons pe_int pa_nil))) (fun _ _ => rfl))))))), ?_⟩
  refine ⟨_, rfl, wl, 2, rfl, W, by decide, by decide, fun d H1 d0 d1 D1 => ⟨_, _, rfl, rfl, ?_⟩⟩
  refine ⟨fun σ' H' => ∃ m : Int, σ' = [some (.ref wl.w), some (.int m), none] ∧ 1 ≤ m ∧ m ≤ 8 ∧ Drawn wl H H', ?_, ?_⟩
  · refine ⟨_, rfl, wl, 4, rfl, D1.well, by decide, by decide, fun d2 H2 e0 e1 D2 => ⟨rfl, _, rfl, ite2 (fun q => ?_) (fun q => ⟨1 + d, rfl, by omega, by omega, D1.trans D2⟩)⟩⟩
    exact ⟨_, rfl, wl, 8, rfl, D2.well, by decide, by decide, fun d3 H3 f0 f1 D3 => ⟨_, _, rfl, rfl, 1 + d3, rfl, by omega, by omega, (D1.trans D2).trans D3⟩⟩
  · rintro σ' H1 ⟨m, rfl, m1, m8, D1⟩
    refine ⟨⟨_, rfl⟩, _, rfl, m, rfl, by omega, by omega, fun D' hD => ?_⟩
    refine lc_range (lo := 0) (n := m.toNat) (fun i H' => Drawn wl H1 H' ∧ ∃ zs : List Str, H' D' = some (.lst (zs.map V.str)) ∧ zs.length = i ∧ ∀ z ∈ zs, ∃ c, z = ⟨#[c]⟩ ∧ lowc c = true)
      ⟨(Drawn.refl D1.well).new hD, [], upd_same, rfl, fun z hz => by cases hz⟩ ?_ ?_
    · rintro i H2 hi ⟨D2, zs, hz, hl, hc⟩
      have nD := (D1.well.ne hD).1
      refine ⟨rfl, _, rfl, wl, 26, rfl, D2.well, by decide, by decide, fun d H3 d0 d1 D3 => ?_⟩
      have hd : d.toNat < (TL.tl lettersZ).length := by
        rw [letters_len]
        omega
      have ho : lowc (TL.tl lettersZ)[d.toNat] = true := List.all_eq_true.mp letters_ok _ (List.getElem_mem hd)
      refine ⟨lettersZ, d, (TL.tl lettersZ)[d.toNat], rfl, rfl, ?_, ?_, zs.map V.str, D3.keep D' _ nD hz, ?_, ?_⟩
      · rw [TL.len_tl] at *
        exact len_fine (by decide +kernel)
      · have e : d = ((d.toNat : Nat) : Int) := by omega
        have hg : (TL.tl lettersZ)[d.toNat]? = some (TL.tl lettersZ)[d.toNat] := List.getElem?_eq_getElem hd
        have := atI_nat hg
        rw [← e] at this
        exact this
      · rw [List.length_map]
        have := bit_line
        unfold bit at this
        omega
      · refine ⟨(D2.trans D3).put D1.well hD, zs ++ [⟨#[(TL.tl lettersZ)[d.toNat]]⟩], ?_, ?_, ?_⟩
        · rw [upd_same, List.map_append]
          rfl
        · rw [List.length_append, hl]
          rfl
        · intro z hz
          rcases List.mem_append.mp hz with hz | hz
          · exact hc z hz
          · exact ⟨_, List.mem_singleton.mp hz, ho⟩
    · rintro H2 ⟨D2, zs, hz, hl, hc⟩
      obtain ⟨s1, s2, s3⟩ := join_signs zs hc
      refine ⟨_, D', zs, rfl, rfl, .inl (SqL.of hz), ?_, k _ _ ?_ (D1.trans D2)⟩
      · show (zs.map (·.length)).sum + zs.length * 0 ≤ 16777216
        omega
      · have e1 : (Txt.join ("" : Str) zs).length = m.toNat := by
          rw [TL.len_tl, join_tl, s2, hl]
        have e2 : (TL.tl (Txt.join ("" : Str) zs)).all lowc = true := by
          rw [join_tl]
          exact List.all_eq_true.mpr s3
        show ((decide (1 ≤ (Txt.join ("" : Str) zs).length) && decide ((Txt.join ("" : Str) zs).length ≤ 8)) && (TL.tl (Txt.join ("" : Str) zs)).all lowc) = true
        rw [e1, e2, decide_eq_true (by omega), decide_eq_true (by omega)]
        rfl
end
end Hs
namespace Hs
open PySem PySem.Spec PyProof.Rows L2 Hu Evl
abbrev lUnlike : Stmt := topS 54
def ltZ (a b : Str) : Prop := a.cps.toList < b.cps.toList
theorem not_lt_of {a b : Str} (h : ltCps b.cps.toList a.cps.toList = false) : ¬ b.cps.toList < a.cps.toList := by
  rw [ltCps_eq] at h
  exact of_decide_eq_false h
theorem rising_pw : ∀ {l : List Str} {p : Str}, risingS p l = true → (p :: l).Pairwise fun a b => ¬ b.cps.toList < a.cps.toList
  | [], p, _ => List.pairwise_singleton _ _
  | x :: r, p, h => by
    have h' : (!ltCps x.cps.toList p.cps.toList && risingS x r) = true := h
    obtain ⟨h1, h2⟩ := and2 h'
    have n1 := not_lt_of (by simpa using h1)
    have ih := rising_pw h2
    rw [List.pairwise_cons]
    refine ⟨fun y hy => ?_, ih⟩
    rcases List.mem_cons.mp hy with e | hy
    · rw [e]
      exact n1
    · have n2 := (List.pairwise_cons.mp ih).1 y hy
      exact List.not_lt.mpr (List.le_trans (List.not_lt.mp n1) (List.not_lt.mp n2))
theorem sorted_lt {l : List Str} (h : sortedS l = true) (n : l.Nodup) : l.Pairwise ltZ := by
  cases l with
  | nil => exact .nil
  | cons x r =>
    refine ((rising_pw h).and n).imp fun {a b} q => ?_
    rcases Hk.lt_tri a.cps.toList b.cps.toList with z | z | z
    · exact z
    · exact absurd (Hk.str_ext z) q.2
    · exact absurd z q.1
/-- the pairs of integers of these values -/
inductive P2 (H : Hp) : List V → List (Int × Int) → Prop
  | nil : P2 H [] []
  | cons {p : Addr} {k : Int × Int} {vs : List V} {ks : List (Int × Int)} : H p = some (.tup [.int k.1, .int k.2]) → P2 H vs ks → P2 H (.ref p :: vs) (k :: ks)
theorem P2.tups {H H' : Hp} {vs : List V} {ks : List (Int × Int)} (e : ∀ b zs, H b = some (.tup zs) → H' b = some (.tup zs)) (h : P2 H vs ks) : P2 H' vs ks := by
  induction h with
  | nil => exact .nil
  | cons h _ ih => exact .cons (e _ _ h) ih
theorem P2.len {H : Hp} {vs : List V} {ks : List (Int × Int)} (h : P2 H vs ks) : vs.length = ks.length := by
  induction h with
  | nil => rfl
  | cons _ _ ih => rw [List.length_cons, List.length_cons, ih]
theorem P2.snoc {H : Hp} {vs : List V} {ks : List (Int × Int)} {p : Addr} {k : Int × Int} (h : P2 H vs ks) (hp : H p = some (.tup [.int k.1, .int k.2])) : P2 H (vs ++ [.ref p]) (ks ++ [k]) := by
  induction h with
  | nil => exact .cons hp .nil
  | cons h _ ih => exact .cons h ih
theorem P2.get {H : Hp} {vs : List V} {ks : List (Int × Int)} (h : P2 H vs ks) : ∀ {j : Nat} {v : V}, vs[j]? = some v → ∃ p k, v = .ref p ∧ ks[j]? = some k ∧ H p = some (.tup [.int k.1, .int k.2]) := by
  induction h with
  | nil => exact fun e => by simp at e
  | cons h _ ih =>
    intro j v e
    cases j with
    | zero =>
      cases e
      exact ⟨_, _, rfl, rfl, h⟩
    | succ j => exact ih e
def kf (H : Hp) (v : V) : Int × Int := match v with
  | .ref p => match H p with
    | some (.tup [.int i, .int j]) => (i, j)
    | _ => (0, 0)
  | _ => (0, 0)
theorem P2.kf {H : Hp} {vs : List V} {ks : List (Int × Int)} (h : P2 H vs ks) : ks = vs.map (kf H) := by
  induction h with
  | nil => rfl
  | cons h _ ih =>
    rw [List.map_cons, ← ih]
    congr 1
    show _ = match H _ with | some (.tup [.int i, .int j]) => (i, j) | _ => (0, 0)
    rw [h]
theorem P2.of {H : Hp} : ∀ {vs : List V}, (∀ v ∈ vs, ∃ p, v = .ref p ∧ H p = some (.tup [.int (Hs.kf H v).1, .int (Hs.kf H v).2])) → P2 H vs (vs.map (Hs.kf H))
  | [], _ => .nil
  | v :: vs, h => by
    obtain ⟨p, rfl, hp⟩ := h v (List.mem_cons_self ..)
    exact .cons hp (P2.of fun u hu => h u (List.mem_cons_of_mem _ hu))
theorem shp_list {ds : List PyData} (h : ∀ d ∈ ds, d.canLay0 = true ∧ d.depth ≤ 5) : SeqAt.shaped (.list ds) = true := by
  have h1 : PyData.canLayAll0 ds = true := by
    induction ds with
    | nil => rfl
    | cons d ds ih =>
      simp only [PyData.canLayAll0, Bool.and_eq_true]
      exact ⟨(h d (List.mem_cons_self ..)).1, ih fun x hx => h x (List.mem_cons_of_mem _ hx)⟩
  have h2 : PyData.depthAll ds ≤ 5 := by
    clear h1
    induction ds with
    | nil => simp [PyData.depthAll]
    | cons d ds ih =>
      simp only [PyData.depthAll]
      have := (h d (List.mem_cons_self ..)).2
      have := ih fun x hx => h x (List.mem_cons_of_mem _ hx)
      omega
  show ((PyData.list ds).canLay0 && decide ((PyData.list ds).depth ≤ 64)) = true
  have e1 : (PyData.list ds).canLay0 = true := by
    simp only [PyData.canLay0]
    exact h1
  have e2 : (PyData.list ds).depth ≤ 64 := by
    simp only [PyData.depth]
    omega
  rw [e1, decide_eq_true e2]
  rfl
section
variable {P : Program} {wd : World} {K : PySem.W.Frag} {mg : Str → Option Value} {base : Heap} {C : Addr}
theorem scUn : FnScope ["things", "found", "thing"] ["things"] (defScope lUnlike) := ⟨rfl, rfl, rfl, by decide +kernel, rfl, by decide +kernel, by decide +kernel⟩
/-! ### texts -/
theorem dp_strs {H : Hp} : ∀ zs : List Str, DpAll K H (zs.map V.str) (zs.map PyData.str)
  | [] => .nil
  | z :: zs => .cons (.str z) (dp_strs zs)
theorem any_strs (zs : List Str) (z : Str) : ((zs.map PyData.str).any fun d => PyData.eqv d (.str z)) = decide (z ∈ zs) := by
  induction zs with
  | nil => rfl
  | cons x zs ih =>
    rw [List.map_cons, List.any_cons, ih]
    have e : PyData.eqv (.str x) (.str z) = decide (x = z) := by
      simp only [PyData.eqv]
      by_cases q : x = z
      · rw [q]
        simp
      · rw [decide_eq_false q]
        exact beq_eq_false_iff_ne.mpr q
    rw [e]
    by_cases q : x = z
    · simp [q]
    · simp [q, Ne.symm q, fun e : z = x => q e.symm]
theorem rv_notStr {H : Hp} {l : Addr} {zs : List Str} {z : Str} (hl : H l = some (.lst (zs.map V.str))) (hz : ∀ x ∈ zs, PyData.strOk x = true) (h1 : PyData.strOk z = true) : RV (rNotInD K) (.str z) (.ref l) H (.bl (!decide (z ∈ zs))) := fun H1 e Q q =>
  ⟨_, _, .str z, .lst (sq_of (e _ _ hl)) (dp_strs zs), by
    show ((PyData.str z).canLay0 && decide ((PyData.str z).depth ≤ 64)) = true
    simp [PyData.canLay0, PyData.depth, h1], shp_list fun d hd => by
    obtain ⟨x, hx, rfl⟩ := List.mem_map.mp hd
    exact ⟨by simp [PyData.canLay0, hz x hx], by simp [PyData.depth]⟩, by
    rw [any_strs]
    exact q H1 (Ex.refl H1)⟩
def spUnS : Sp := fun vs H Q _ => ∃ (a : Addr) (zs : List Str), vs = [.ref a] ∧ H a = some (.lst (zs.map V.str)) ∧ 1 ≤ zs.length ∧ zs.length ≤ 50 ∧ (∀ z ∈ zs, PyData.strOk z = true) ∧
  ∀ (p : Addr) (ys : List Str) H', H p = none → Same H H' → H' p = some (.lst (ys.map V.str)) → 1 ≤ ys.length → ys.length ≤ zs.length → (∀ y ∈ ys, y ∈ zs) → ys.Pairwise ltZ → Q (.ref p) H'
theorem ok_unS {f : Addr} {fd : FuncData} (F : Fun K "_law_unlike" "_law_unlike" lUnlike f fd) (Z : Bz mg) : FnOk P wd K mg base CX0 2 f fd ["things"] spUnS := by
  refine F.ok scUn (fun vs H Q E h => ?_) (fun cdv A outer s H vs Q E hr h => ?_)
  · obtain ⟨a, zs, rfl, _⟩ := h
    rfl
  obtain ⟨a, zs, rfl, ha, z1, z50, hz, k⟩ := h
  have u65 : ∀ {k : Nat} {A : Around}, Room k A → A.units + 65 < cLine := fun {k A} r => by
    have := r.un
    omega
  refine ⟨_, pss_cons (ps_set (i := 1) scUn.nd rfl (.inl rfl) (pe_lst pa_nil))
    (pss_cons (ps_for PassesOwn.never rfl (pi_list (pv 0)) (pg_name (i := 2) scUn.nd rfl (Or.inl rfl))
      (pss_one (ps_if (pt_cmpR (show OpR _ _ (rNotInD K) from op_notInD (u65 hr)) (pv 2) (pv 1) (by rfl)) (pss_one (ps_expr (pe_bm PySem.F.plainAttrs_list PySem.F.slot_list_append PySem.F.type_list_append mt_append (pv 1) (pa_cons (pv 2) pa_nil)))) pss_nil)))
    (pss_one (ps_ret (pe_callB cr_sortedS (by rfl) Z.sort boot_sorted' (pa_cons (pv 1) pa_nil))))), ?_⟩
  refine q_asgL (el_lst ea_nil (by decide)) fun l H1 hl e1 h1 => ?_
  refine q_forL (ev_var rfl) (sq_of (e1 _ _ ha)) (fun i σ' H' => ∃ (x2 : Option V) (fs : List Str), σ' = [some (.ref a), some (.ref l), x2] ∧ Ex H H' ∧ H' l = some (.lst (fs.map V.str)) ∧ fs.length ≤ i ∧ (1 ≤ i → 1 ≤ fs.length) ∧ fs.Nodup ∧ ∀ y ∈ fs, y ∈ zs)
    (fun H2 e2 => ⟨_, [], rfl, e1.trans e2, e2 _ _ h1, Nat.le_refl _, fun h => absurd h (by decide), .nil, fun y hy => by cases hy⟩) (fun i σ' H' _ ⟨x2, fs, _, e, _⟩ => sq_of (e _ _ ha)) ?_ ?_
  · rintro i x σ' H2 hi ⟨x2, fs, rfl, e2, h2, l1, l2, nd, mem⟩
    rw [List.getElem?_map] at hi
    cases hzi : zs[i]? with
    | none => rw [hzi] at hi; cases hi
    | some z =>
      rw [hzi] at hi
      cases hi
      have hzm := List.mem_of_getElem? hzi
      show tIfS _ _ tNext _ [some (V.ref a), some (.ref l), some (.str z)] H2
      refine s_when (et_test (ev_op (ev_var rfl) (ev_var rfl) (rv_notStr h2 (fun y hy => hz y (mem y hy)) (hz z hzm)))) (fun q H3 e3 => ?_) (fun q H3 e3 => ?_)
      · have q' : z ∉ fs := by simpa using q
        refine s_app (K := K) (e3 _ _ h2) (ev_var rfl) (ev_var rfl) (by rw [List.length_map]; have := (List.getElem?_eq_some_iff.mp hzi).1; omega) fun H4 e4 => ⟨_, fs ++ [z], rfl, Ex.mut ((e2.trans e3).trans e4) hl, by rw [upd_same, List.map_append]; rfl, by rw [List.length_append]; show fs.length + 1 ≤ i + 1; omega, fun _ => by rw [List.length_append]; show 1 ≤ fs.length + 1; omega, ?_, ?_⟩
        · rw [List.nodup_append]
          refine ⟨nd, by simp, fun y hy c hc => ?_⟩
          rw [List.mem_singleton] at hc
          subst hc
          exact fun e => q' (e ▸ hy)
        · intro y hy
          rcases List.mem_append.mp hy with h | h
          · exact mem y h
          · rw [List.mem_singleton.mp h]
            exact hzm
      · have q' : z ∈ fs := by simpa using q
        exact ⟨_, fs, rfl, e2.trans e3, e3 _ _ h2, by omega, fun _ => List.length_pos_of_mem q', nd, mem⟩
  · rintro σ' H2 ⟨x2, fs, rfl, e2, h2, l1, l2, nd, mem⟩
    rw [List.length_map] at l1 l2
    refine ⟨.ref l, rfl, l, fs, rfl, sq_of h2, by omega, fun ys p perm hs hp => ?_⟩
    refine k p ys _ (fresh_back e2 hp) (e2.trans (Ex.new hp)) upd_same (by rw [perm.length_eq]; exact l2 z1) (by rw [perm.length_eq]; exact l1) (fun y hy => mem y (perm.mem_iff.mp hy)) (sorted_lt hs (perm.nodup_iff.mpr nd))
end
end Hs
namespace Hs
open PySem PySem.Spec PyProof.Rows L2 Hu Evl
def ltI2 (a b : Int × Int) : Prop := a.1 < b.1 ∨ (a.1 = b.1 ∧ a.2 < b.2)
theorem P2.dp {K : PySem.W.Frag} {H : Hp} {vs : List V} {ks : List (Int × Int)} (h : P2 H vs ks) : DpAll K H vs (ks.map fun k => PyData.tuple [.int k.1, .int k.2]) := by
  induction h with
  | nil => exact .nil
  | cons h _ ih => exact .cons (dp2 h) ih
theorem any_p2 (ks : List (Int × Int)) (k : Int × Int) : ((ks.map fun k => PyData.tuple [.int k.1, .int k.2]).any fun d => PyData.eqv d (.tuple [.int k.1, .int k.2])) = decide (k ∈ ks) := by
  induction ks with
  | nil => rfl
  | cons x ks ih =>
    rw [List.map_cons, List.any_cons, ih, eqv2]
    have e : (decide (x.1 = k.1) && decide (x.2 = k.2)) = decide (x = k) := by
      by_cases q : x = k
      · rw [q]
        simp
      · rw [decide_eq_false q]
        by_cases q1 : x.1 = k.1
        · rw [decide_eq_true q1, decide_eq_false fun q2 => q (Prod.ext q1 q2)]
          rfl
        · rw [decide_eq_false q1]
          rfl
    rw [e]
    by_cases q : x = k
    · simp [q]
    · simp [q]
      exact fun e => absurd e.symm q
theorem rv_notP2 {K : PySem.W.Frag} {H : Hp} {l p : Addr} {vs : List V} {ks : List (Int × Int)} {k : Int × Int} (hl : H l = some (.lst vs)) (h : P2 H vs ks) (hp : H p = some (.tup [.int k.1, .int k.2])) : RV (rNotInD K) (.ref p) (.ref l) H (.bl (!decide (k ∈ ks))) := fun H1 e Q q =>
  ⟨_, _, dp2 (e _ _ hp), .lst (sq_of (e _ _ hl)) (P2.dp (h.tups fun b zs hb => e _ _ hb)), shp2 _ _, shp_list fun d hd => by
    obtain ⟨x, hx, rfl⟩ := List.mem_map.mp hd
    exact ⟨by simp [PyData.canLay0, PyData.canLayAll0], by simp [PyData.depth, PyData.depthAll]⟩, by
    rw [any_p2]
    exact q H1 (Ex.refl H1)⟩
section
variable {P : Program} {wd : World} {K : PySem.W.Frag} {mg : Str → Option Value} {base : Heap} {C : Addr}
def spUnP : Sp := fun vs H Q _ => ∃ (a : Addr) (xs : List V) (ks : List (Int × Int)), vs = [.ref a] ∧ H a = some (.lst xs) ∧ P2 H xs ks ∧ 1 ≤ ks.length ∧ ks.length ≤ 50 ∧
  ∀ (p : Addr) (ys : List V) (js : List (Int × Int)) H', H p = none → Same H H' → H' p = some (.lst ys) → P2 H' ys js → 1 ≤ js.length → js.length ≤ ks.length → (∀ y ∈ js, y ∈ ks) → js.Pairwise ltI2 → Q (.ref p) H'
theorem ok_unP {f : Addr} {fd : FuncData} (F : Fun K "_law_unlike" "_law_unlike" lUnlike f fd) (Z : Bz mg) : FnOk P wd K mg base CX0 2 f fd ["things"] spUnP := by
  refine F.ok scUn (fun vs H Q E h => ?_) (fun cdv A outer s H vs Q E hr h => ?_)
  · obtain ⟨a, xs, ks, rfl, _⟩ := h
    rfl
  obtain ⟨a, xs, ks, rfl, ha, hp2, z1, z50, k⟩ := h
  have u65 : ∀ {k : Nat} {A : Around}, Room k A → A.units + 65 < cLine := fun {k A} r => by
    have := r.un
    omega
  refine ⟨_, pss_cons (ps_set (i := 1) scUn.nd rfl (.inl rfl) (pe_lst pa_nil))
    (pss_cons (ps_for PassesOwn.never rfl (pi_list (pv 0)) (pg_name (i := 2) scUn.nd rfl (Or.inl rfl))
      (pss_one (ps_if (pt_cmpR (show OpR _ _ (rNotInD K) from op_notInD (u65 hr)) (pv 2) (pv 1) (by rfl)) (pss_one (ps_expr (pe_bm PySem.F.plainAttrs_list PySem.F.slot_list_append PySem.F.type_list_append mt_append (pv 1) (pa_cons (pv 2) pa_nil)))) pss_nil)))
    (pss_one (ps_ret (pe_callB cr_sortedPO (by rfl) Z.sort boot_sorted' (pa_cons (pv 1) pa_nil))))), ?_⟩
  have hlen := hp2.len
  refine q_asgL (el_lst ea_nil (by decide)) fun l H1 hl e1 h1 => ?_
  refine q_forL (ev_var rfl) (sq_of (e1 _ _ ha)) (fun i σ' H' => ∃ (x2 : Option V) (vs : List V) (js : List (Int × Int)), σ' = [some (.ref a), some (.ref l), x2] ∧ Ex H H' ∧ H' l = some (.lst vs) ∧ P2 H' vs js ∧ js.length ≤ i ∧ (1 ≤ i → 1 ≤ js.length) ∧ js.Nodup ∧ ∀ y ∈ js, y ∈ ks)
    (fun H2 e2 => ⟨_, [], [], rfl, e1.trans e2, e2 _ _ h1, .nil, Nat.le_refl _, fun h => absurd h (by decide), .nil, fun y hy => by cases hy⟩) (fun i σ' H' _ ⟨x2, vs, js, _, e, _⟩ => sq_of (e _ _ ha)) ?_ ?_
  · rintro i x σ' H2 hi ⟨x2, vs, js, rfl, e2, h2, p2, l1, l2, nd, mem⟩
    have hi' := (List.getElem?_eq_some_iff.mp hi).1
    obtain ⟨p, z, rfl, hz, hp⟩ := hp2.get hi
    have hzm := List.mem_of_getElem? hz
    have hpx := e2 _ _ hp
    show tIfS _ _ tNext _ [some (V.ref a), some (.ref l), some (.ref p)] H2
    refine s_when (et_test (ev_op (ev_var rfl) (ev_var rfl) (rv_notP2 h2 p2 hpx))) (fun q H3 e3 => ?_) (fun q H3 e3 => ?_)
    · have q' : z ∉ js := by simpa using q
      have lv := p2.len
      refine s_app (K := K) (e3 _ _ h2) (ev_var rfl) (ev_var rfl) (by omega) fun H4 e4 => ⟨_, vs ++ [.ref p], js ++ [z], rfl, Ex.mut ((e2.trans e3).trans e4) hl, upd_same, ?_, by rw [List.length_append]; show js.length + 1 ≤ i + 1; omega, fun _ => by rw [List.length_append]; show 1 ≤ js.length + 1; omega, ?_, ?_⟩
      · have nt : ∀ b zs, H4 b = some (.tup zs) → upd H4 l (.lst (vs ++ [.ref p])) b = some (.tup zs) := fun b zs hb => by
          rw [upd_ne (fun z => by rw [z, e4 _ _ (e3 _ _ h2)] at hb; cases hb)]
          exact hb
        exact ((p2.tups fun b zs hb => e4 _ _ (e3 _ _ hb)).snoc (e4 _ _ (e3 _ _ hpx))).tups nt
      · rw [List.nodup_append]
        refine ⟨nd, by simp, fun y hy c hc => ?_⟩
        rw [List.mem_singleton] at hc
        subst hc
        exact fun e => q' (e ▸ hy)
      · intro y hy
        rcases List.mem_append.mp hy with h | h
        · exact mem y h
        · rw [List.mem_singleton.mp h]
          exact hzm
    · have q' : z ∈ js := by simpa using q
      exact ⟨_, vs, js, rfl, e2.trans e3, e3 _ _ h2, p2.tups (fun b zs hb => e3 _ _ hb), by omega, fun _ => List.length_pos_of_mem q', nd, mem⟩
  · rintro σ' H2 ⟨x2, vs, js, rfl, e2, h2, p2, l1, l2, nd, mem⟩
    rw [hlen] at l1 l2
    have ek := p2.kf
    have hget : ∀ v ∈ vs, ∃ t, v = .ref t ∧ H2 t = some (.tup [.int (Hs.kf H2 v).1, .int (Hs.kf H2 v).2]) := fun v hv => by
      obtain ⟨j, hj⟩ := List.mem_iff_getElem?.mp hv
      obtain ⟨p, z, rfl, hz, hp⟩ := p2.get hj
      refine ⟨p, rfl, ?_⟩
      have : Hs.kf H2 (.ref p) = z := by
        show (match H2 p with | some (.tup [.int i, .int j]) => (i, j) | _ => (0, 0)) = z
        rw [hp]
      rw [this]
      exact hp
    refine ⟨.ref l, rfl, l, vs, Hs.kf H2, rfl, sq_of h2, hget, fun ys p hs hb hp => ?_⟩
    have perm := hb.perm
    have hget2 : ∀ v ∈ ys, ∃ t, v = .ref t ∧ H2 t = some (.tup [.int (Hs.kf H2 v).1, .int (Hs.kf H2 v).2]) := fun v hv => hget v (perm.mem_iff.mp hv)
    have pm : (ys.map (Hs.kf H2)).Perm js := by
      rw [ek]
      exact perm.map _
    have nd2 : (ys.map (Hs.kf H2)).Nodup := pm.nodup_iff.mpr nd
    refine k p ys (ys.map (Hs.kf H2)) _ (fresh_back e2 hp) (e2.trans (Ex.new hp)) upd_same ((P2.of hget2).tups fun b zs hb => Ex.new hp _ _ hb) (by rw [pm.length_eq]; exact l2 z1) (by rw [pm.length_eq]; exact l1) (fun y hy => mem y (pm.mem_iff.mp hy)) ?_
    rw [List.pairwise_map]
    have nd3 : ys.Pairwise fun a b => Hs.kf H2 a ≠ Hs.kf H2 b := List.pairwise_map.mp nd2
    refine (List.Pairwise.and hs nd3).imp fun {a b} q => ?_
    have q1 := SrtO.lexB_no.mp q.1
    by_cases h1 : (Hs.kf H2 a).1 = (Hs.kf H2 b).1
    · refine .inr ⟨h1, ?_⟩
      have : (Hs.kf H2 a).2 ≠ (Hs.kf H2 b).2 := fun h2 => q.2 (Prod.ext h1 h2)
      omega
    · refine .inl ?_
      omega
end
end Hs
namespace Hs
open PySem PySem.Spec PyProof.Rows L2 Hu Evl
section
variable {P : Program} {wd : World} {K : PySem.W.Frag} {mg : Str → Option Value} {base : Heap} {C : Addr} {fD : Addr} {dD : FuncData}
theorem At.drawn {wl : WA} {H H' : Hp} {v : V} {u : U} (D : Drawn wl H H') (h : At wl.w C H v u) : At wl.w C H' v u := h.keep fun b o nb q => D.keep b o nb q
theorem AtL.drawn {wl : WA} {H H' : Hp} {vs : List V} {us : List U} (D : Drawn wl H H') (h : AtL wl.w C H vs us) : AtL wl.w C H' vs us := h.keep fun b o nb q => D.keep b o nb q
/-! ### rows -/
def spRow (C : Addr) : Sp := fun vs H Q _ => ∃ (wl : WA) (L : Addr) (xs : List V) (us : List U), vs = [.ref wl.w, .ref L] ∧ Well H wl ∧ H L = some (.lst xs) ∧ L ≠ wl.w ∧ AtL wl.w C H xs us ∧ 1 ≤ us.length ∧ us.length ≤ 10 ∧ (∀ u ∈ us, Bd u 200 1 0 ∧ gId u = true) ∧
  ∀ (v : V) (u : U) (H' : Hp), Drawn wl H H' → At wl.w C H' v u → Bd u 3000 2 0 → gRow u = true → Q v H'
theorem scRowL : FnScope ["well", "ids", "kind", "many", "k"] ["well", "ids"] (defScope lRow) := ⟨rfl, rfl, rfl, by decide +kernel, rfl, by decide +kernel, by decide +kernel⟩
theorem ok_rowL {f : Addr} {fd : FuncData} (F : Fun K "_law_row" "_law_row" lRow f fd) (B : Bt mg) (D : Dd P wd K mg base fD dD) : FnOk P wd K mg base CX0 4 f fd ["well", "ids"] (spRow C) := by
  refine F.ok scRowL (fun vs H Q E h => ?_) (fun cdv A outer s H vs Q E hr h => ?_)
  · obtain ⟨wl, L, xs, us, rfl, _⟩ := h
    rfl
  obtain ⟨wl, L, xs, us, rfl, W, hL, nL, hl, u1, u10, hb, k⟩ := h
  have GD : FnOk P wd K mg base CX0 3 fD dD ["well", "many"] spDraw := D.ok
  refine ⟨_, pss_cons (ps_set (i := 2) scRowL.nd rfl (.inl rfl) (pe_draw D hr (by decide) (by rfl) (pv 0) pe_int))
    (pss_cons (ps_if (pt_cmpR op_eq (pv 2) pe_int (nomark _)) (pss_one (ps_ret pe_non)) pss_nil)
    (Evl.pss_cut (ps_set (i := 3) scRowL.nd rfl (.inl rfl) (pe_draw D hr (by decide) (by rfl) (pv 0) (pe_ix ix_list (pe_lst (pa_cons pe_int (pa_cons pe_int pa_nil))) (pe_callTy call_int1 (by rfl) B.int boot_int (pa_cons (pe_cmpR op_eq (pv 2) pe_int (nomark _)) pa_nil)) (fun _ _ => rfl))))
    (pss_one (ps_ret (pe_callTy call_tuple_of (by rfl) B.tup boot_tuple' (pa_cons (pe_lc (own := [("k", 4)]) (g := gName 4) (tt := tYes) rfl scRowL.nd (pi_range1 (by rfl) B.range (pa_cons (pv 3) pa_nil)) (blkOk_by (N := ["well", "ids", "kind", "many", "k"]) (sc := defScope lRow) (by decide +kernel))
      (fun _ _ _ _ _ => pg_name (i := 4) scRowL.nd rfl (Or.inl rfl)) (fun _ _ _ _ _ => pts_nil)
      (fun _ _ _ _ _ => pe_ix (show IxR _ (rIxL K) from ix_list) (pv 1) (pe_call GD hr (by rfl) D.g D.kp D.b .nil pass0 (pa_cons (pv 0) (pa_cons (pe_callB (show CallR _ _ (rLenQ K) from call_len_seq) (by rfl) B.len PySem.boot_len (pa_cons (pv 1) pa_nil)) pa_nil))) (fun _ _ => rfl))) pa_nil)))))), ?_⟩
  refine ⟨_, rfl, wl, 5, rfl, W, by decide, by decide, fun d H1 d0 d1 D1 => ⟨_, rfl, rfl, _, rfl, ite2 (fun q => ?_) (fun q => ?_)⟩⟩
  · exact k _ .non H1 D1 .non ⟨by simp only [wt]; omega, Nat.zero_le _, trivial⟩ rfl
  refine ⟨fun σ' H' => ∃ m : Int, σ' = [some (.ref wl.w), some (.ref L), some (.int d), some (.int m), none] ∧ 0 ≤ m ∧ m ≤ 12 ∧ Drawn wl H H', ?_, ?_⟩
  · have go : ∀ (i : Nat) (m : Int), (if decide (V.int d = V.int 1) = true then (1 : Int) else 0) = (i : Int) → ([V.int 4, .int 13] : List V)[i]? = some (.int m) → 0 < m → m ≤ 13 → Ev (tOp (rIxL K) (tLst (tCons (tC (.int 4)) (tCons (tC (.int 13)) tNil))) (tCB (fun xs H Q => (∃ i, xs = [V.int i] ∧ Q (.int i) H) ∨ ∃ k, xs = [.bl k] ∧ Q (.int (if k then 1 else 0)) H) (tCons (tOp rEq (tVar 2) (tC (.int 1))) tNil)))
        [some (V.ref wl.w), some (.ref L), some (.int d), none, none] H1 (.int m) := fun i m ei hm _ _ =>
      ev_pick (K := K) (i := i) (ea_cons ev_c (ea_cons ev_c ea_nil)) (by decide) (ev_is (ev_cb (ea_cons (ev_op (ev_var rfl) ev_c (rv_eq rfl)) ea_nil) fun H3 e3 Q q => .inr ⟨_, rfl, q H3 (Ex.refl H3)⟩) (congrArg V.int ei)) hm
    have fin : ∀ m : Int, 0 < m → m ≤ 13 → Ev (tOp (rIxL K) (tLst (tCons (tC (.int 4)) (tCons (tC (.int 13)) tNil))) (tCB (fun xs H Q => (∃ i, xs = [V.int i] ∧ Q (.int i) H) ∨ ∃ k, xs = [.bl k] ∧ Q (.int (if k then 1 else 0)) H) (tCons (tOp rEq (tVar 2) (tC (.int 1))) tNil)))
        [some (V.ref wl.w), some (.ref L), some (.int d), none, none] H1 (.int m) → ∀ Q' : V → Hp → Prop, (∀ e H2, 0 ≤ e → e < m → Drawn wl H H2 → Q' (.int e) H2) → tCall spDraw [] E0 (tCons (tVar 0) (tCons (tOp (rIxL K) (tLst (tCons (tC (.int 4)) (tCons (tC (.int 13)) tNil))) (tCB (fun xs H Q => (∃ i, xs = [V.int i] ∧ Q (.int i) H) ∨ ∃ k, xs = [.bl k] ∧ Q (.int (if k then 1 else 0)) H) (tCons (tOp rEq (tVar 2) (tC (.int 1))) tNil))) tNil)) [some (V.ref wl.w), some (.ref L), some (.int d), none, none] H1 Q' := fun m m0 m13 ev Q' q' =>
      ⟨_, rfl, ev H1 (Ex.refl H1) _ fun H2 e2 => ⟨wl, m, rfl, D1.well.same e2, m0, by omega, fun e H3 e0 e1 D3 => q' e H3 e0 e1 ((D1.same e2).trans D3)⟩⟩
    by_cases h : d = 1
    · exact fin 13 (by decide) (by decide) (go 1 13 (by rw [h]; rfl) rfl (by decide) (by decide)) _ fun e H2 e0 e1 D2 => ⟨e, rfl, e0, by omega, D2⟩
    · exact fin 4 (by decide) (by decide) (go 0 4 (by rw [decide_eq_false (fun z => h (V.int.inj z))]; rfl) rfl (by decide) (by decide)) _ fun e H2 e0 e1 D2 => ⟨e, rfl, e0, by omega, D2⟩
  · rintro σ' H2 ⟨m, rfl, m0, m12, D2⟩
    refine ⟨_, rfl, m, rfl, by omega, by omega, fun D' hD => ?_⟩
    refine lc_range (lo := 0) (n := m.toNat) (fun i H' => Drawn wl H2 H' ∧ ∃ (vs : List V) (us' : List U), H' D' = some (.lst vs) ∧ vs.length = i ∧ AtL wl.w C H vs us' ∧ BdL us' (i * 202) 1 0 ∧ ∀ u ∈ us', gId u = true)
      ⟨(Drawn.refl D2.well).new hD, [], [], upd_same, rfl, .nil, ⟨by simp [wtL], by simp [depL], trivial⟩, fun u hu => by cases hu⟩ ?_ ?_
    · rintro i H3 hi ⟨D3, vs, us', hz, hv, ha, hbl, hgi⟩
      have nD := (D2.well.ne hD).1
      have hL3 : H3 L = some (.lst xs) := (D2.trans D3).keep L _ nL hL
      have hxl := AtL.length hl
      refine ⟨rfl, _, rfl, _, rfl, _, rfl, L, xs, rfl, .inl (SqL.of hL3), wl, _, rfl, D3.well, by omega, by omega, fun d2 H4 e0 e1 D4 => ?_⟩
      obtain ⟨j, rfl⟩ : ∃ j : Nat, d2 = (j : Int) := ⟨d2.toNat, by omega⟩
      have hj : j < us.length := by omega
      obtain ⟨x, hx, hax⟩ := AtL.get hl (List.getElem?_eq_getElem hj)
      refine ⟨L, xs, _, x, rfl, rfl, SqL.of (D4.keep L _ nL hL3), atI_nat hx, vs, D4.keep D' _ nD hz, ?_, (D3.trans D4).put D2.well hD, vs ++ [x], us' ++ [us[j]], upd_same, ?_, AtL.snoc ha hax, ?_, ?_⟩
      · have := bit_line
        unfold bit at this
        omega
      · rw [List.length_append, hv]
        rfl
      · have := hbl.snoc (hb _ (List.getElem_mem hj)).1
        rw [show (i + 1) * 202 = i * 202 + (200 + 2) by omega]
        exact this
      · intro u hu
        rcases List.mem_append.mp hu with h | h
        · exact hgi u h
        · rw [List.mem_singleton.mp h]
          exact (hb _ (List.getElem_mem hj)).2
    · rintro H3 ⟨D3, vs, us', hz, hv, ha, hbl, hgi⟩
      have DD := D2.trans D3
      refine ⟨D', vs, rfl, .inl ⟨SqL.of hz, fun p hp => k _ (.tup us') _ (DD.new hp) (.tup upd_same (D3.well.ne hp).1 (ex_atl (Ex.new hp) (AtL.drawn DD ha))) ((Bd.tup hbl).mono ?_ (by omega) (Nat.le_refl _)) ?_⟩⟩
      · have : m.toNat ≤ 12 := by omega
        omega
      · show (decide (us'.length ≤ 12) && us'.all gId) = true
        have hle := AtL.length ha
        rw [decide_eq_true (by omega), List.all_eq_true.mpr hgi]
        rfl
end
end Hs
namespace Hs
open PySem PySem.Spec PyProof.Rows L2 Hu Evl
open Hk (SI ltSI)
/-! ### right things are plain -/
theorem gId_pln {u : U} (h : gId u = true) : pln u := by
  obtain ⟨i, j, rfl⟩ := gId_two h
  simp [pln, plnL]
theorem gRow_pln {u : U} (h : gRow u = true) : pln u := by
  cases u with
  | tup us =>
    have h2 : (decide (us.length ≤ 12) && us.all gId) = true := h
    exact plnL_all.mpr fun x hx => gId_pln (List.all_eq_true.mp (and2 h2).2 x hx)
  | non => trivial
  | _ => cases h
theorem gStamp_two {u : U} (h : gStamp u = true) : ∃ i j, u = .tup [.int i, .int j] := by
  cases u with
  | tup us =>
    match us, h with
    | [a, b], h =>
      cases a with
      | int i => cases b with
        | int j => exact ⟨i, j, rfl⟩
        | _ => cases h
      | _ => cases h
  | _ => cases h
theorem gStamp_pln {u : U} (h : gStamp u = true) : pln u := by
  obtain ⟨i, j, rfl⟩ := gStamp_two h
  simp [pln, plnL]
theorem gMembers_pln {u : U} (h : gMembers u = true) : pln u := by
  cases u with
  | tup us =>
    have h2 : (((decide (1 ≤ us.length) && decide (us.length ≤ 9)) && us.all gHome) && ascI (us.map intU)) = true := h
    refine plnL_all.mpr fun x hx => ?_
    have := List.all_eq_true.mp (and2 (and2 h2).1).2 x hx
    cases x with
    | int i => trivial
    | _ => cases this
  | _ => cases h
/-! ### rows in order -/
theorem ascN_all {n : Nat} {lt : Nat → Bool} (h : ∀ k, k + 1 < n → lt k = true) : ascN n lt = true := by
  unfold ascN
  rw [List.all_eq_true]
  intro k hk
  rw [List.mem_range] at hk
  exact h k (by omega)
theorem pw_at {α : Type} {R : α → α → Prop} {xs : List α} {d : α} (h : xs.Pairwise R) {k : Nat} (hk : k + 1 < xs.length) : R (xs.getD k d) (xs.getD (k + 1) d) := by
  rw [getD_some (List.getElem?_eq_getElem (show k < xs.length by omega)), getD_some (List.getElem?_eq_getElem hk)]
  exact List.pairwise_iff_getElem.mp h k (k + 1) (by omega) hk (by omega)
theorem ascZ_pw {zs : List Str} (h : zs.Pairwise ltZ) : ascZ zs = true := ascN_all fun k hk => decide_eq_true (pw_at h hk)
theorem ascK_pw {kss : List (List L2.Key)} (h : kss.Pairwise fun a b => Hk.ltK a b = true) : ascK kss = true := ascN_all fun k hk => pw_at h hk
theorem ltK_i2 {a b : Int × Int} (h : ltI2 a b) : Hk.ltK [.inl a.1, .inl a.2] [.inl b.1, .inl b.2] = true := by
  show (if Hk.kEq (.inl a.1) (.inl b.1) = true then (if Hk.kEq (.inl a.2) (.inl b.2) = true then Hk.ltK [] [] else Hk.kLt (.inl a.2) (.inl b.2)) else Hk.kLt (.inl a.1) (.inl b.1)) = true
  rcases h with h | ⟨h1, h2⟩
  · rw [if_neg (fun e => by have := Sum.inl.inj (Hk.kEq_iff.mp e); omega)]
    exact decide_eq_true h
  · rw [if_pos (Hk.kEq_iff.mpr (by rw [h1])), if_neg (fun e => by have := Sum.inl.inj (Hk.kEq_iff.mp e); omega)]
    exact decide_eq_true h2
theorem ltK_si {a b : SI} (h : ltSI a b = true) : Hk.ltK [.inr a.1, .inl a.2] [.inr b.1, .inl b.2] = true := by
  show (if Hk.kEq (.inr a.1) (.inr b.1) = true then (if Hk.kEq (.inl a.2) (.inl b.2) = true then Hk.ltK [] [] else Hk.kLt (.inl a.2) (.inl b.2)) else Hk.kLt (.inr a.1) (.inr b.1)) = true
  rcases Hk.ltSI_iff.mp h with h | ⟨h1, h2⟩
  · rw [if_neg (fun e => by
      have e1 := Sum.inr.inj (Hk.kEq_iff.mp e)
      rw [e1] at h
      exact List.lt_irrefl _ h)]
    exact decide_eq_true h
  · rw [if_pos (Hk.kEq_iff.mpr (by rw [h1])), if_neg (fun e => by have := Sum.inl.inj (Hk.kEq_iff.mp e); omega)]
    exact decide_eq_true h2
/-! ### members -/
theorem mem9 : ∀ b0 b1 b2 b3 b4 b5 b6 b7 b8 : Bool, (b0 || b1 || b2 || b3 || b4 || b5 || b6 || b7 || b8) = true → gMembers (.tup (((List.range 9).filter fun i => [b0, b1, b2, b3, b4, b5, b6, b7, b8].getD i false).map fun i : Nat => U.int (i : Int))) = true := by
  decide +kernel
def memU (f : Nat → Bool) : U := .tup (((List.range 9).filter f).map fun i : Nat => U.int (i : Int))
theorem memU_ok {f : Nat → Bool} (h : ∃ i, i < 9 ∧ f i = true) : gMembers (memU f) = true := by
  have e : (List.range 9).filter f = (List.range 9).filter fun i => [f 0, f 1, f 2, f 3, f 4, f 5, f 6, f 7, f 8].getD i false := by
    refine List.filter_congr fun i hi => ?_
    rw [List.mem_range] at hi
    match i, hi with
    | 0, _ | 1, _ | 2, _ | 3, _ | 4, _ | 5, _ | 6, _ | 7, _ | 8, _ => rfl
  unfold memU
  rw [e]
  refine mem9 _ _ _ _ _ _ _ _ _ ?_
  obtain ⟨i, hi, hf⟩ := h
  match i, hi with
  | 0, _ | 1, _ | 2, _ | 3, _ | 4, _ | 5, _ | 6, _ | 7, _ | 8, _ => simp [hf]
theorem atl_ints {w C : Addr} {H : Hp} : ∀ ns : List Nat, AtL w C H (ns.map fun i : Nat => V.int (i : Int)) (ns.map fun i : Nat => U.int (i : Int))
  | [] => .nil
  | n :: ns => .cons (.int _) (atl_ints ns)
theorem not_well {H : Hp} {wl : WA} {p : Addr} {xs : List V} (W : Well H wl) (h : H p = some (.tup xs)) : p ≠ wl.w := fun z => by
  obtain ⟨cells, pos, rest, mix, h1, _⟩ := W.ex
  rw [← z, h] at h1
  cases h1
theorem mem_at {C : Addr} {H : Hp} {wl : WA} {p : Addr} {f : Nat → Bool} (W : Well H wl) (h : H p = some (.tup (given 9 f fun i : Nat => V.int (i : Int)))) : At wl.w C H (.ref p) (memU f) := by
  refine .tup h (not_well W h) ?_
  unfold given
  exact atl_ints _
theorem tidy_int {i : Int} (h : i.natAbs < 2 ^ 60) : tidy 0 (.int i) := by
  simp only [tidy]
  omega
theorem memU_bd (f : Nat → Bool) : Bd (memU f) 800 1 0 := by
  have hl : ((List.range 9).filter f).length ≤ 9 := by
    have := List.length_filter_le f (List.range 9)
    rwa [List.length_range] at this
  have key : ∀ ns : List Nat, (∀ n ∈ ns, n < 9) → wtL (ns.map fun i : Nat => U.int (i : Int)) = 82 * ns.length ∧ depL (ns.map fun i : Nat => U.int (i : Int)) = 0 ∧ tidyL 0 (ns.map fun i : Nat => U.int (i : Int)) := by
    intro ns
    induction ns with
    | nil => exact fun _ => ⟨rfl, rfl, trivial⟩
    | cons n ns ih =>
      intro h
      obtain ⟨i1, i2, i3⟩ := ih fun x hx => h x (List.mem_cons_of_mem _ hx)
      have := h n (List.mem_cons_self ..)
      refine ⟨?_, ?_, ?_, i3⟩
      · simp only [List.map_cons, wtL, i1, List.length_cons, wt]
        omega
      · simp only [List.map_cons, depL, i2, dep]
        omega
      · exact tidy_int (by omega)
  obtain ⟨k1, k2, k3⟩ := key ((List.range 9).filter f) fun n hn => by
    have := (List.mem_filter.mp hn).1
    rwa [List.mem_range] at this
  unfold memU
  refine ⟨?_, ?_, ?_⟩
  · simp only [wt, k1]
    omega
  · simp only [dep, k2]
    omega
  · simpa only [tidy] using k3
theorem pair_bd {i j : Int} (h1 : i.natAbs < 2 ^ 60) (h2 : j.natAbs < 2 ^ 60) : Bd (.tup [.int i, .int j]) 200 1 0 := by
  refine ⟨?_, ?_, ?_⟩
  · simp only [wt, wtL]
    omega
  · simp only [dep, depL]
    omega
  · simp only [tidy, tidyL]
    exact ⟨by omega, by omega, trivial⟩
end Hs
namespace Hs
open PySem PySem.Spec PyProof.Rows L2 Hu Evl
open Hk (SI ltSI)
abbrev lHeads : Stmt := topS 63
abbrev lBlocks : Stmt := topS 64
theorem gNamed_pln {u : U} (h : gNamed u = true) : pln u := by
  obtain ⟨h1, h2, h3⟩ := and3 (a := gTO 3 u) (b := gNam (nth u 0)) (c := gStamp (nth u 1) && gRow (nth u 2)) h
  obtain ⟨h4, h5⟩ := and2 h3
  obtain ⟨us, rfl, hl⟩ := gTO_of h1
  match us, hl with
  | [a, b, c], _ =>
    obtain ⟨z, rfl⟩ := gNam_str (u := a) h2
    exact ⟨trivial, gStamp_pln (u := b) h4, gRow_pln (u := c) h5, trivial⟩
theorem gBlk_pln {u : U} (h : gBlk u = true) : pln u := by
  obtain ⟨h1, h2, h3⟩ := and3 h
  obtain ⟨a, b, rfl⟩ := gPair_two h1
  have h3' : gPiece b = true := h3
  have pb : pln b := by
    cases b with
    | str z => trivial
    | _ => cases h3'
  exact ⟨gId_pln (u := a) h2, pb, trivial⟩
def nameU (u : U) : Str := strU (nth u 0)
def idU (u : U) : List L2.Key := keysU (nth u 0)
theorem take_snoc' {α : Type} {xs : List α} {i : Nat} {x : α} (h : xs[i]? = some x) : xs.take (i + 1) = xs.take i ++ [x] := by
  rw [List.take_add_one, h]
  rfl
theorem nam_bd {z : Str} (h : gNam (.str z) = true) : Bd (.str z) 20 0 0 := by
  have h' : ((decide (1 ≤ z.length) && decide (z.length ≤ 8)) && (TL.tl z).all lowc) = true := h
  obtain ⟨h1, h2⟩ := and2 h'
  have h3 := of_decide_eq_true (and2 h1).2
  refine ⟨?_, Nat.zero_le _, ?_⟩
  · simp only [wt]
    omega
  · simp only [tidy]
    intro c hc
    have := List.all_eq_true.mp h2 c hc
    unfold lowc at this
    have q := and2 this
    have q1 := of_decide_eq_true q.1
    have q2 := of_decide_eq_true q.2
    refine .inl ?_
    unfold okS okc
    rw [decide_eq_true (by omega), decide_eq_true (by omega), decide_eq_true (by omega)]
    rfl
theorem nam_ok {z : Str} (h : gNam (.str z) = true) : PyData.strOk z = true := by
  have h' : ((decide (1 ≤ z.length) && decide (z.length ≤ 8)) && (TL.tl z).all lowc) = true := h
  have h2 := List.all_eq_true.mp (and2 h').2
  show z.cps.all (· < 0x110000) = true
  rw [Array.all_eq_true_iff_forall_mem]
  intro c hc
  have := h2 c (Array.mem_toList_iff.mpr hc)
  unfold lowc at this
  have q2 := of_decide_eq_true (and2 this).2
  exact decide_eq_true (by omega)
section
variable {P : Program} {wd : World} {K : PySem.W.Frag} {mg : Str → Option Value} {base : Heap} {C : Addr} {fD : Addr} {dD : FuncData}
/-- the rows that were made stand as they were while the list of them grows -/
theorem atl_put {w : Addr} {H : Hp} {l : Addr} {xs : List V} {o : HO} {vs : List V} {us : List U} (hl : H l = some (.lst xs)) (hp : ∀ u ∈ us, pln u) (h : AtL w C H vs us) : AtL w C (upd H l o) vs us :=
  atl_tups (fun b zs _ hb => by
    rw [upd_ne (fun z => by rw [z, hl] at hb; cases hb)]
    exact hb) (plnL_all.mpr hp) h
/-! ### heads -/
/-- the ids that the law draws: a list of them -/
structure Ids (C : Addr) (wl : WA) (H : Hp) (I : Addr) (xs : List V) (js : List (Int × Int)) : Prop where
  h : H I = some (.lst xs)
  ne : I ≠ wl.w
  p : P2 H xs js
  n : 1 ≤ js.length ∧ js.length ≤ 10
  b : ∀ j ∈ js, 1 ≤ j.1 ∧ j.1 ≤ 99 ∧ 1 ≤ j.2 ∧ j.2 < 2 ^ 60
  st : js.Pairwise ltI2
def idV (k : Int × Int) : U := .tup [.int k.1, .int k.2]
theorem Ids.keep {wl : WA} {H H' : Hp} {I : Addr} {xs : List V} {js : List (Int × Int)} (x : Ids C wl H I xs js) (W : Well H wl) (D : Drawn wl H H') : Ids C wl H' I xs js :=
  ⟨D.keep _ _ x.ne x.h, x.ne, x.p.tups fun b zs hb => D.keep _ _ (not_well W hb) hb, x.n, x.b, x.st⟩
theorem Ids.atl {wl : WA} {H : Hp} {I : Addr} {xs : List V} {js : List (Int × Int)} (x : Ids C wl H I xs js) (W : Well H wl) : AtL wl.w C H xs (js.map idV) := by
  have p := x.p
  clear x
  induction p with
  | nil => exact .nil
  | cons h _ ih => exact .cons (.tup h (not_well W h) (.cons (.int _) (.cons (.int _) .nil))) ih
theorem idV_ok {k : Int × Int} (h : 1 ≤ k.1 ∧ k.1 ≤ 99 ∧ 1 ≤ k.2 ∧ k.2 < 2 ^ 60) : Bd (idV k) 200 1 0 ∧ gId (idV k) = true := ⟨pair_bd (by omega) (by omega), idOk ⟨h.1, h.2.1, h.2.2.1⟩⟩
def spHeads (C : Addr) : Sp := fun vs H Q _ => ∃ (wl : WA) (N I : Addr) (zs : List Str) (xs : List V) (js : List (Int × Int)), vs = [.ref wl.w, .ref N, .ref I] ∧ Well H wl ∧ H N = some (.lst (zs.map V.str)) ∧ N ≠ wl.w ∧ zs.length ≤ 3 ∧ (∀ z ∈ zs, gNam (.str z) = true) ∧ zs.Pairwise ltZ ∧ Ids C wl H I xs js ∧
  ∀ (v : V) (u : U) (H' : Hp), Drawn wl H H' → At wl.w C H' v u → Bd u 12400 4 0 → gHeads u = true → pln u → Q v H'
theorem scHeadsL : FnScope ["well", "names", "ids", "heads", "name", "stamp"] ["well", "names", "ids"] (defScope lHeads) := ⟨rfl, rfl, rfl, by decide +kernel, rfl, by decide +kernel, by decide +kernel⟩
theorem ok_headsL {f fS fR : Addr} {fd dS dR : FuncData} (F : Fun K "_law_heads" "_law_heads" lHeads f fd) (B : Bt mg) (D : Dd P wd K mg base fD dD) (DS : Df K mg "_law_stamp" lStamp ["well"] fS dS) (GS : FnOk P wd K mg base CX0 5 fS dS ["well"] (spPair fun i j => (i = 0 ∧ j = 0) ∨ (1 ≤ i ∧ 1 ≤ j ∧ j ≤ 99)))
    (DR : Df K mg "_law_row" lRow ["well", "ids"] fR dR) (GR : FnOk P wd K mg base CX0 4 fR dR ["well", "ids"] (spRow C)) : FnOk P wd K mg base CX0 6 f fd ["well", "names", "ids"] (spHeads C) := by
  refine F.ok scHeadsL (fun vs H Q E h => ?_) (fun cdv A outer s H vs Q E hr h => ?_)
  · obtain ⟨wl, N, I, zs, xs, js, rfl, _⟩ := h
    rfl
  obtain ⟨wl, N, I, zs, xs, js, rfl, W, hN, nN, z10, hz, hzs, hI, k⟩ := h
  refine ⟨_, pss_cons (ps_set (i := 3) scHeadsL.nd rfl (.inl rfl) (pe_lst pa_nil))
    (pss_cons (ps_for PassesOwn.never rfl (pi_list (pv 1)) (pg_name (i := 4) scHeadsL.nd rfl (Or.inl rfl))
      (pss_one (ps_if (pt_cmpR op_gt (pe_draw D hr (by decide) (by rfl) (pv 0) pe_int) pe_int (nomark _))
        (pss_cons (ps_set (i := 5) scHeadsL.nd rfl (.inl rfl) (pe_call GS hr (by rfl) DS.g DS.F.kp DS.b .nil pass0 (pa_cons (pv 0) pa_nil)))
        (pss_one (ps_expr (pe_bm PySem.F.plainAttrs_list PySem.F.slot_list_append PySem.F.type_list_append mt_append (pv 3) (pa_cons (pe_tup (pa_cons (pv 4) (pa_cons (pv 5) (pa_cons (pe_call GR (hr.mono (by decide)) (by rfl) DR.g DR.F.kp DR.b .nil pass0 (pa_cons (pv 0) (pa_cons (pv 2) pa_nil))) pa_nil)))) pa_nil))))) pss_nil)))
    (pss_one (ps_ret (pe_callTy call_tuple_of (by rfl) B.tup boot_tuple' (pa_cons (pv 3) pa_nil))))), ?_⟩
  refine ⟨sz_of (show (0 : Nat) ≤ 100000 by decide), fun Dl hD => ?_⟩
  have nD := W.ne hD
  show tSeq _ _ _ [some (V.ref wl.w), some (.ref N), some (.ref I), some (.ref Dl), none, none] _
  refine q_forL (K := K) (xs := zs.map V.str) (ev_var rfl) (sq_of (by rw [upd_ne (ne_of_none hN hD)]; exact hN)) (fun i σ' H' => ∃ (x4 x5 : Option V) (vs : List V) (us : List U), σ' = [some (.ref wl.w), some (.ref N), some (.ref I), some (.ref Dl), x4, x5] ∧ Drawn wl H H' ∧ H' Dl = some (.lst vs) ∧ AtL wl.w C H' vs us ∧
      (∀ u ∈ us, gNamed u = true) ∧ BdL us (i * 4000) 3 0 ∧ us.length ≤ i ∧ (us.map nameU).Sublist (zs.take i))
    (fun H2 e2 => ⟨_, _, [], [], rfl, ((Drawn.refl W).new hD).same e2, e2 _ _ upd_same, .nil, fun u hu => (by cases hu), ⟨by simp [wtL], by simp [depL], trivial⟩, Nat.le_refl _, by simp⟩) (fun i σ' H' _ ⟨x4, x5, vs, us, _, D1, _⟩ => sq_of (D1.keep _ _ nN hN)) ?_ ?_
  · rintro i x σ' H1 hi ⟨x4, x5, vs, us, rfl, D1, h1, al, ng, bd, ln, sb⟩
    rw [List.getElem?_map] at hi
    cases hzi : zs[i]? with
    | none => rw [hzi] at hi; cases hi
    | some z =>
      rw [hzi] at hi
      cases hi
      have hi10 : i < zs.length := (List.getElem?_eq_some_iff.mp hzi).1
      have hzn := hz z (List.mem_of_getElem? hzi)
      have tk := take_snoc' hzi
      show tIfS _ _ tNext _ [some (V.ref wl.w), some (.ref N), some (.ref I), some (.ref Dl), some (.str z), x5] H1
      refine ⟨_, rfl, wl, 4, rfl, D1.well, by decide, by decide, fun d H2 d0 d1 D2 => ⟨_, _, rfl, rfl, _, rfl, ite2 (fun q => ?_) (fun q => ?_)⟩⟩
      · refine ⟨_, rfl, wl, rfl, D2.well, fun a b p H3 b1 b2 hR hp D3 h3 => ?_⟩
        dsimp only [gName]
        have D13 := (D1.trans D2).trans D3
        have h13 : H3 Dl = some (.lst vs) := D3.keep _ _ nD.1 (D2.keep _ _ nD.1 h1)
        refine ⟨_, rfl, .inl ⟨rfl, vs, sq_of h13⟩, _, rfl, _, rfl, _, rfl, _, rfl, wl, I, xs, js.map idV, rfl, D3.well, (hI.keep W D13).h, hI.ne, (hI.keep W D13).atl D3.well, by rw [List.length_map]; exact hI.n.1, by rw [List.length_map]; exact hI.n.2, fun u hu => ?_, fun v u H4 D4 hv bv gv => ⟨sz_of (show (3 : Nat) ≤ 100000 by decide), fun t ht => ?_⟩⟩
        · obtain ⟨j, hj, rfl⟩ := List.mem_map.mp hu
          exact idV_ok (hI.b j hj)
        · have D14 := D13.trans D4
          have h14 : H4 Dl = some (.lst vs) := D4.keep _ _ nD.1 h13
          have h15 : upd H4 t (.tup [.str z, .ref p, v]) Dl = some (.lst vs) := by
            rw [upd_ne (ne_of_none h14 ht)]
            exact h14
          have ap : At wl.w C H4 (.ref p) (.tup [.int a, .int b]) := (At.drawn D4 (.tup h3 (not_well D3.well h3) (.cons (.int a) (.cons (.int b) .nil))))
          have hS := stampOk hR
          have gn : gNamed (.tup [.str z, .tup [.int a, .int b], u]) = true := by
            show (decide (3 = 3) && (gNam (.str z) && (gStamp (.tup [.int a, .int b]) && gRow u))) = true
            rw [hzn, hS, gv]
            rfl
          have at5 : At wl.w C (upd H4 t (.tup [.str z, .ref p, v])) (.ref t) (.tup [.str z, .tup [.int a, .int b], u]) := .tup upd_same (D14.well.ne ht).1 (.cons (.str z) (.cons (ex_at (Ex.new ht) ap) (.cons (ex_at (Ex.new ht) hv) .nil)))
          have hlv := AtL.length al
          refine ⟨Dl, vs, .ref t, rfl, rfl, h15, sz_lt (by omega), _, _, vs ++ [.ref t], us ++ [.tup [.str z, .tup [.int a, .int b], u]], rfl, (D14.new ht).put W hD, upd_same, ?_, ?_, ?_, ?_, ?_⟩
          · refine AtL.append (atl_put h15 (fun y hy => gNamed_pln (ng y hy)) (ex_atl (Ex.new ht) (AtL.drawn ((D2.trans D3).trans D4) al))) (atl_put h15 (fun y hy => ?_) (.cons at5 .nil))
            rw [List.mem_singleton.mp hy]
            exact gNamed_pln gn
          · intro y hy
            rcases List.mem_append.mp hy with h | h
            · exact ng y h
            · rw [List.mem_singleton.mp h]
              exact gn
          · have b3 : Bd (.tup [.str z, .tup [.int a, .int b], u]) 3998 3 0 := by
              have n1 := nam_bd hzn
              have n2 := pair_bd b1 b2
              refine ⟨?_, ?_, ?_⟩
              · have := n1.w
                have := n2.w
                have := bv.w
                simp only [wt, wtL] at *
                omega
              · have := n1.d
                have := n2.d
                have := bv.d
                simp only [dep, depL] at *
                omega
              · simp only [tidy, tidyL]
                have c2 := n2.c
                simp only [tidy, tidyL] at c2
                exact ⟨by simpa only [tidy] using n1.c, c2, bv.c, trivial⟩
            have := bd.snoc b3
            rw [show (i + 1) * 4000 = i * 4000 + (3998 + 2) by omega]
            exact this
          · rw [List.length_append]
            show us.length + 1 ≤ i + 1
            omega
          · rw [tk, List.map_append]
            exact sb.append (List.Sublist.refl _)
      · exact ⟨_, _, vs, us, rfl, D1.trans D2, D2.keep _ _ nD.1 h1, AtL.drawn D2 al, ng, bd.mono (by omega) (Nat.le_refl _) (Nat.le_refl _), by omega, by rw [tk]; exact sb.trans (List.sublist_append_left _ _)⟩
  · rintro σ' H1 ⟨x4, x5, vs, us, rfl, D1, h1, al, ng, bd, ln, sb⟩
    rw [List.length_map] at bd ln sb
    rw [List.take_length] at sb
    refine ⟨_, rfl, Dl, vs, rfl, .inl ⟨sq_of h1, fun l hl => k _ (.tup us) _ (D1.new hl) (.tup upd_same (D1.well.ne hl).1 (ex_atl (Ex.new hl) al)) ((Bd.tup bd).mono (by omega) (by decide) (Nat.le_refl _)) ?_ (plnL_all.mpr fun u hu => gNamed_pln (ng u hu))⟩⟩
    show (us.all gNamed && ascZ (us.map nameU)) = true
    rw [List.all_eq_true.mpr ng, ascZ_pw (hzs.sublist sb)]
    rfl
end
end Hs
namespace Hs
open PySem PySem.Spec PyProof.Rows L2 Hu Evl
open Hk (SI ltSI)
section
variable {P : Program} {wd : World} {K : PySem.W.Frag} {mg : Str → Option Value} {base : Heap} {C : Addr} {fD : Addr} {dD : FuncData}
theorem P2.at_ {H : Hp} {xs : List V} {js : List (Int × Int)} (h : P2 H xs js) {i : Nat} {x : V} (hx : xs[i]? = some x) : ∃ p k, x = .ref p ∧ js[i]? = some k ∧ H p = some (.tup [.int k.1, .int k.2]) := h.get hx
def keysI (k : Int × Int) : List L2.Key := [.inl k.1, .inl k.2]
def spBlocks (C : Addr) : Sp := fun vs H Q _ => ∃ (wl : WA) (I : Addr) (m : Int) (xs : List V) (js : List (Int × Int)), vs = [.ref wl.w, .ref I, .int m] ∧ Well H wl ∧ 0 < m ∧ m < 1000 ∧ Ids C wl H I xs js ∧
  ∀ (v : V) (u : U) (H' : Hp), Drawn wl H H' → At wl.w C H' v u → Bd u 3000 4 0 → gBlocks u = true → pln u → Q v H'
theorem scBlocksL : FnScope ["well", "ids", "share", "blocks", "one"] ["well", "ids", "share"] (defScope lBlocks) := ⟨rfl, rfl, rfl, by decide +kernel, rfl, by decide +kernel, by decide +kernel⟩
theorem ok_blocksL {kS : Nat} {f fS : Addr} {fd dS : FuncData} (F : Fun K "_law_blocks" "_law_blocks" lBlocks f fd) (B : Bt mg) (D : Dd P wd K mg base fD dD) (DS : Df K mg "_law_string" sString ["well", "many"] fS dS) (GS : FnOk P wd K mg base CX0 5 fS dS ["well", "many"] spString) :
    FnOk P wd K mg base CX0 6 f fd ["well", "ids", "share"] (spBlocks C) := by
  refine F.ok scBlocksL (fun vs H Q E h => ?_) (fun cdv A outer s H vs Q E hr h => ?_)
  · obtain ⟨wl, I, m, xs, js, rfl, _⟩ := h
    rfl
  obtain ⟨wl, I, m, xs, js, rfl, W, m0, m1, hI, k⟩ := h
  refine ⟨_, pss_cons (ps_set (i := 3) scBlocksL.nd rfl (.inl rfl) (pe_lst pa_nil))
    (pss_cons (ps_for PassesOwn.never rfl (pi_list (pv 1)) (pg_name (i := 4) scBlocksL.nd rfl (Or.inl rfl))
      (pss_one (ps_if (pt_cmpR op_gt (pe_draw D hr (by decide) (by rfl) (pv 0) (pv 2)) pe_int (nomark _))
        (pss_one (ps_expr (pe_bm PySem.F.plainAttrs_list PySem.F.slot_list_append PySem.F.type_list_append mt_append (pv 3) (pa_cons (pe_tup (pa_cons (pv 4) (pa_cons (pe_call GS hr (by rfl) DS.g DS.F.kp DS.b .nil pass0 (pa_cons (pv 0) (pa_cons (pe_op op_add pe_int (pe_draw D hr (by decide) (by rfl) (pv 0) pe_int)) pa_nil))) pa_nil))) pa_nil)))) pss_nil)))
    (pss_one (ps_ret (pe_callTy call_tuple_of (by rfl) B.tup boot_tuple' (pa_cons (pv 3) pa_nil))))), ?_⟩
  refine ⟨sz_of (show (0 : Nat) ≤ 100000 by decide), fun Dl hD => ?_⟩
  have nD := W.ne hD
  have hlen := hI.p.len
  show tSeq _ _ _ [some (V.ref wl.w), some (.ref I), some (.int m), some (.ref Dl), none] _
  refine q_forL (K := K) (xs := xs) (ev_var rfl) (sq_of (by rw [upd_ne (ne_of_none hI.h hD)]; exact hI.h)) (fun i σ' H' => ∃ (x4 : Option V) (vs : List V) (us : List U) (ks : List (Int × Int)), σ' = [some (.ref wl.w), some (.ref I), some (.int m), some (.ref Dl), x4] ∧ Drawn wl H H' ∧ H' Dl = some (.lst vs) ∧ AtL wl.w C H' vs us ∧
      (∀ u ∈ us, gBlk u = true) ∧ BdL us (i * 290) 3 0 ∧ us.length ≤ i ∧ us.map idU = ks.map keysI ∧ ks.Sublist (js.take i))
    (fun H2 e2 => ⟨_, [], [], [], rfl, ((Drawn.refl W).new hD).same e2, e2 _ _ upd_same, .nil, fun u hu => (by cases hu), ⟨by simp [wtL], by simp [depL], trivial⟩, Nat.le_refl _, rfl, by simp⟩) (fun i σ' H' _ ⟨x4, vs, us, ks, _, D1, _⟩ => sq_of (D1.keep _ _ hI.ne hI.h)) ?_ ?_
  · rintro i x σ' H1 hi ⟨x4, vs, us, ks, rfl, D1, h1, al, ng, bd, ln, ek, sb⟩
    obtain ⟨p, j, rfl, hj, hp⟩ := hI.p.get hi
    have hi10 : i < js.length := (List.getElem?_eq_some_iff.mp hj).1
    have hjn := hI.b j (List.mem_of_getElem? hj)
    have tk := take_snoc' hj
    have l10 := hI.n.2
    show tIfS _ _ tNext _ [some (V.ref wl.w), some (.ref I), some (.int m), some (.ref Dl), some (.ref p)] H1
    refine ⟨_, rfl, _, rfl, wl, m, rfl, D1.well, m0, by omega, fun d H2 d0 d1 D2 => ⟨_, _, rfl, rfl, _, rfl, ite2 (fun q => ?_) (fun q => ?_)⟩⟩
    · have D12 := D1.trans D2
      have h12 : H2 Dl = some (.lst vs) := D2.keep _ _ nD.1 h1
      refine ⟨_, rfl, .inl ⟨rfl, vs, sq_of h12⟩, _, rfl, _, rfl, _, rfl, wl, 8, rfl, D2.well, by decide, by decide, fun e H3 e0 e1 D3 => ⟨_, _, rfl, rfl, wl, 1 + e, rfl, D3.well, by omega, by omega, fun z H4 lz hz D4 => ⟨sz_of (show (2 : Nat) ≤ 100000 by decide), fun t ht => ?_⟩⟩⟩
      have D14 := (D12.trans D3).trans D4
      have h14 : H4 Dl = some (.lst vs) := D4.keep _ _ nD.1 (D3.keep _ _ nD.1 h12)
      have h15 : upd H4 t (.tup [.ref p, .str z]) Dl = some (.lst vs) := by
        rw [upd_ne (ne_of_none h14 ht)]
        exact h14
      have hp4 : H4 p = some (.tup [.int j.1, .int j.2]) := D14.keep _ _ (not_well W hp) hp
      have ap : At wl.w C H4 (.ref p) (idV j) := .tup hp4 (not_well D14.well hp4) (.cons (.int _) (.cons (.int _) .nil))
      have zl : z.length ≤ 8 := by omega
      have z1 : 1 ≤ z.length := by omega
      have gp : gPiece (.str z) = true := by
        show (okz z && (decide (1 ≤ z.length) && decide (z.length ≤ 8))) = true
        rw [hz.ok, decide_eq_true z1, decide_eq_true zl]
        rfl
      have gn : gBlk (.tup [idV j, .str z]) = true := by
        show (decide (2 = 2) && (gId (idV j) && gPiece (.str z))) = true
        rw [(idV_ok hjn).2, gp]
        rfl
      have at5 : At wl.w C (upd H4 t (.tup [.ref p, .str z])) (.ref t) (.tup [idV j, .str z]) := .tup upd_same (D14.well.ne ht).1 (.cons (ex_at (Ex.new ht) ap) (.cons (.str z) .nil))
      have hlv := AtL.length al
      refine ⟨Dl, vs, .ref t, rfl, rfl, h15, sz_lt (by omega), _, vs ++ [.ref t], us ++ [.tup [idV j, .str z]], ks ++ [j], rfl, (D14.new ht).put W hD, upd_same, ?_, ?_, ?_, ?_, ?_, ?_⟩
      · refine AtL.append (atl_put h15 (fun y hy => gBlk_pln (ng y hy)) (ex_atl (Ex.new ht) (AtL.drawn ((D2.trans D3).trans D4) al))) (atl_put h15 (fun y hy => ?_) (.cons at5 .nil))
        rw [List.mem_singleton.mp hy]
        exact gBlk_pln gn
      · intro y hy
        rcases List.mem_append.mp hy with h | h
        · exact ng y h
        · rw [List.mem_singleton.mp h]
          exact gn
      · have b3 : Bd (.tup [idV j, .str z]) 288 3 0 := by
          have n2 := (idV_ok hjn).1
          refine ⟨?_, ?_, ?_⟩
          · have := n2.w
            simp only [wt, wtL] at *
            omega
          · have := n2.d
            simp only [dep, depL] at *
            omega
          · simp only [tidy, tidyL]
            exact ⟨n2.c, fun c hc => .inl (hz c hc), trivial⟩
        have := bd.snoc b3
        rw [show (i + 1) * 290 = i * 290 + (288 + 2) by omega]
        exact this
      · rw [List.length_append]
        show us.length + 1 ≤ i + 1
        omega
      · rw [List.map_append, List.map_append, ek]
        rfl
      · rw [tk]
        exact sb.append (List.Sublist.refl _)
    · exact ⟨_, vs, us, ks, rfl, D1.trans D2, D2.keep _ _ nD.1 h1, AtL.drawn D2 al, ng, bd.mono (by omega) (Nat.le_refl _) (Nat.le_refl _), by omega, ek, by rw [tk]; exact sb.trans (List.sublist_append_left _ _)⟩
  · rintro σ' H1 ⟨x4, vs, us, ks, rfl, D1, h1, al, ng, bd, ln, ek, sb⟩
    rw [hlen] at bd ln sb
    rw [List.take_length] at sb
    have l10 := hI.n.2
    refine ⟨_, rfl, Dl, vs, rfl, .inl ⟨sq_of h1, fun l hl => k _ (.tup us) _ (D1.new hl) (.tup upd_same (D1.well.ne hl).1 (ex_atl (Ex.new hl) al)) ((Bd.tup bd).mono (by omega) (by decide) (Nat.le_refl _)) ?_ (plnL_all.mpr fun u hu => gBlk_pln (ng u hu))⟩⟩
    show (us.all gBlk && ascK (us.map idU)) = true
    rw [List.all_eq_true.mpr ng, ek, ascK_pw ?_]
    · rfl
    · rw [List.pairwise_map]
      exact (hI.st.sublist sb).imp fun h => ltK_i2 h
end
end Hs
namespace Hs
open PySem PySem.Spec PyProof.Rows L2 Hu Evl
def Wn : Nat → Nat | 0 => 100 | n + 1 => 3 * (Wn n + 2) + 32
theorem Wn_ge : ∀ n, 100 ≤ Wn n
  | 0 => Nat.le_refl _
  | n + 1 => by have := Wn_ge n; simp only [Wn]; omega
section
variable {P : Program} {wd : World} {K : PySem.W.Frag} {mg : Str → Option Value} {base : Heap} {C : Addr} {fD : Addr} {dD : FuncData}
def spAny (C : Addr) (n : Nat) : Sp := fun vs H Q _ => ∃ wl : WA, vs = [.ref wl.w, .int (n : Int)] ∧ Well H wl ∧ ∀ (v : V) (u : U) (H' : Hp), Drawn wl H H' → At wl.w C (fresh H H') v u → Bd u (Wn n) (3 * n + 3) 0 → Q v H'
/-- the promise of the calls that it makes itself -/
def spPrev (C : Addr) : Nat → Sp
  | 0 => fun _ _ _ _ => False
  | n + 1 => spAny C n
theorem scAny : FnScope ["well", "deep", "kind", "k", "items"] ["well", "deep"] (defScope lAny) := ⟨rfl, rfl, rfl, by decide +kernel, rfl, by decide +kernel, by decide +kernel⟩
theorem bd_int {i : Int} {n : Nat} (h : i.natAbs < 2 ^ 64) : Bd (.int i) (Wn n) (3 * n + 3) 0 := ⟨by have := Wn_ge n; simp only [wt]; omega, Nat.zero_le _, by simpa only [tidy] using h⟩
theorem bd_bl {b : Bool} {n : Nat} : Bd (.bl b) (Wn n) (3 * n + 3) 0 := ⟨by have := Wn_ge n; simp only [wt]; omega, Nat.zero_le _, trivial⟩
theorem bd_non {n : Nat} : Bd .non (Wn n) (3 * n + 3) 0 := ⟨by have := Wn_ge n; simp only [wt]; omega, Nat.zero_le _, trivial⟩
theorem bd_exc {n : Nat} : Bd .exc (Wn n) (3 * n + 3) 0 := ⟨by have := Wn_ge n; simp only [wt]; omega, by simp only [dep]; omega, trivial⟩
theorem bd_str {z : Str} {n : Nat} (h : z.length ≤ 20) (hc : ∀ c ∈ TL.tl z, okS c = true ∨ c = 10) : Bd (.str z) (Wn n) (3 * n + 3) 0 := ⟨by have := Wn_ge n; simp only [wt]; omega, Nat.zero_le _, by simpa only [tidy] using hc⟩
theorem fr_step {wl : WA} {H2 H' H3 : Hp} {D' : Addr} {o0 : HO} {vs : List V} {us : List U} {y : V} {u : U} (W2 : Well H2 wl) (hD : H2 D' = none) (D2 : Drawn wl H2 H') (hL : H' D' = some (.lst vs)) (l : AtL wl.w C (fresh (upd H2 D' o0) H') vs us) (D3 : Drawn wl H' H3) (hy : At wl.w C (fresh H' H3) y u) :
    AtL wl.w C (fresh (upd H2 D' o0) (upd H3 D' (.lst (vs ++ [y])))) (vs ++ [y]) (us ++ [u]) := by
  have nw := (W2.ne hD).1
  refine AtL.snoc (l.keep fun b o _ q => ?_) (hy.keep fun b o _ q => ?_)
  · obtain ⟨q1, q2⟩ := fr_new q
    have nb : b ≠ D' := fun e => by rw [e, upd_same] at q1; cases q1
    rw [fr_get q1, upd_ne nb]
    rw [upd_ne nb] at q1
    have nbw : b ≠ wl.w := fun e => by
      obtain ⟨o', ho⟩ := W2.at
      rw [e, ho] at q1
      cases q1
    exact D3.keep b o nbw q2
  · obtain ⟨q1, q2⟩ := fr_new q
    have nb : b ≠ D' := fun e => by rw [e, hL] at q1; cases q1
    have q3 : upd H2 D' o0 b = none := by
      rw [upd_ne nb]
      exact D2.free W2 q1
    rw [fr_get q3, upd_ne nb]
    exact q2
theorem fr_lift {wl : WA} {H H2 H' : Hp} {D' : Addr} {o0 : HO} {vs : List V} {us : List U} (W : Well H wl) (D1 : Drawn wl H H2) (hD : H2 D' = none) (l : AtL wl.w C (fresh (upd H2 D' o0) H') vs us) : AtL wl.w C (fresh H H') vs us :=
  l.keep fun b o _ q => by
    obtain ⟨q1, q2⟩ := fr_new q
    have nb : b ≠ D' := fun e => by rw [e, upd_same] at q1; cases q1
    rw [upd_ne nb] at q1
    rw [fr_get (D1.free W q1)]
    exact q2
/-- more is laid at free places -/
theorem fr_same {w : Addr} {H H' H'' : Hp} {vs : List V} {us : List U} (l : AtL w C (fresh H H') vs us) (s : Same H' H'') : AtL w C (fresh H H'') vs us := l.keep fun b o _ q => by
  obtain ⟨q1, q2⟩ := fr_new q
  rw [fr_get q1]
  exact s _ _ q2
theorem nam_len {z : Str} (h : gNam (.str z) = true) : z.length ≤ 8 := by
  have h' : ((decide (1 ≤ z.length) && decide (z.length ≤ 8)) && (TL.tl z).all lowc) = true := h
  exact of_decide_eq_true (and2 (and2 h').1).2
theorem nam_law {z : Str} (h : gNam (.str z) = true) : lawz z := fun c hc => by
  have h' : ((decide (1 ≤ z.length) && decide (z.length ≤ 8)) && (TL.tl z).all lowc) = true := h
  have := List.all_eq_true.mp (and2 h').2 c hc
  unfold lowc at this
  have q := and2 this
  have q1 := of_decide_eq_true q.1
  have q2 := of_decide_eq_true q.2
  unfold okS okc
  rw [decide_eq_true (by omega), decide_eq_true (by omega), decide_eq_true (by omega)]
  rfl
/-- a name's signs, and no more than that -/
def spNameL : Sp := fun vs H Q _ => ∃ wl : WA, vs = [.ref wl.w] ∧ Well H wl ∧ ∀ (z : Str) (H' : Hp), z.length ≤ 8 → lawz z → Drawn wl H H' → Q (.str z) H'
theorem ok_nameL {f : Addr} {fd : FuncData} (F : Fun K "_law_name" "_law_name" lName f fd) (B : Bt mg) (D : Dd P wd K mg base fD dD) : FnOk P wd K mg base CX0 4 f fd ["well"] spNameL :=
  (ok_name F B D).imp fun vs H Q E ⟨wl, e, W, k⟩ => ⟨wl, e, W, fun z H' hz D => k z H' (nam_len hz) (nam_law hz) D⟩
theorem ok_any {f fN fT fM : Addr} {fd dN dT dM : FuncData} (DA : Df K mg "_law_any" lAny ["well", "deep"] f fd) (S : Bs K mg C) (D : Dd P wd K mg base fD dD) (DN : Df K mg "_law_number" lNumber ["well"] fN dN) (DM : Df K mg "_law_name" lName ["well"] fM dM)
    (DT : Df K mg "_law_string" sString ["well", "many"] fT dT) (GT : FnOk P wd K mg base CX0 4 fT dT ["well", "many"] spString) (n : Nat) (G : FnOk P wd K mg base CX0 (4 + n) f fd ["well", "deep"] (spPrev C n)) :
    FnOk P wd K mg base CX0 (4 + n + 1) f fd ["well", "deep"] (spAny C n) := by
  refine DA.F.ok scAny (fun vs H Q E h => ?_) (fun cdv A outer s H vs Q E hr h => ?_)
  · obtain ⟨wl, rfl, _⟩ := h
    rfl
  obtain ⟨wl, rfl, W, k⟩ := h
  have hr4 : Room 4 (A.deeper (envOfC "_law_any" (defScope lAny) s.heap.objs.size f cdv)) := hr.mono (by omega)
  have GN : FnOk P wd K mg base CX0 4 fN dN ["well"] spNumber := ok_number DN.F D
  have GM : FnOk P wd K mg base CX0 4 fM dM ["well"] spNameL := ok_nameL DM.F S.B D
  refine ⟨_, pss_cons (ps_set (i := 2) scAny.nd rfl (.inl rfl) (pe_draw D hr4 (by decide) (by rfl) (pv 0) pe_int))
    (Evl.pss_cut (ps_if (pt_cmpR op_eq (pv 1) pe_int (nomark _)) (pss_one (ps_set (i := 2) scAny.nd rfl (.inl rfl) (pe_op op_modN (pe_callTy call_int1 (by rfl) S.B.int boot_int (pa_cons (pv 2) pa_nil)) pe_int))) pss_nil)
    (pss_cons (ps_if (pt_cmpR op_eq (pv 2) pe_int (nomark _)) (pss_one (ps_ret (pe_op op_sub (pe_draw D hr4 (by decide) (by rfl) (pv 0) pe_int) pe_int))) pss_nil)
    (pss_cons (ps_if (pt_cmpR op_eq (pv 2) pe_int (nomark _)) (pss_one (ps_ret (pe_op op_sub (pe_un un_neg pe_int) (pe_call GN hr4 (by rfl) DN.g DN.F.kp DN.b .nil pass0 (pa_cons (pv 0) pa_nil))))) pss_nil)
    (pss_cons (ps_if (pt_cmpR op_eq (pv 2) pe_int (nomark _)) (pss_one (ps_ret (pe_cmpR op_eq (pe_draw D hr4 (by decide) (by rfl) (pv 0) pe_int) pe_int (nomark _)))) pss_nil)
    (pss_cons (ps_if (pt_cmpR op_eq (pv 2) pe_int (nomark _)) (pss_one (ps_ret pe_non)) pss_nil)
    (pss_cons (ps_if (pt_cmpR op_eq (pv 2) pe_int (nomark _)) (pss_one (ps_ret (pe_call GT hr4 (by rfl) DT.g DT.F.kp DT.b .nil pass0 (pa_cons (pv 0) (pa_cons (pe_draw D hr4 (by decide) (by rfl) (pv 0) pe_int) pa_nil))))) pss_nil)
    (pss_cons (ps_if (pt_cmpR op_eq (pv 2) pe_int (nomark _)) (pss_one (ps_ret (pe_op op_add_str (pe_call GM hr4 (by rfl) DM.g DM.F.kp DM.b .nil pass0 (pa_cons (pv 0) pa_nil)) (pe_ix ix_list (pe_lst (pa_cons pe_str (pa_cons pe_str (pa_cons pe_str (pa_cons pe_str pa_nil))))) (pe_draw D hr4 (by decide) (by rfl) (pv 0) pe_int) (fun _ _ => rfl))))) pss_nil)
    (Evl.pss_cut (ps_setLc (i := 4) (own := [("k", 3)]) (g := gName 3) (tt := tYes) rfl scAny.nd rfl rfl rfl (pi_range1 (by rfl) S.B.range (pa_cons (pe_draw D hr4 (by decide) (by rfl) (pv 0) pe_int) pa_nil)) (blkOk_by (N := ["well", "deep", "kind", "k", "items"]) (sc := defScope lAny) (by decide +kernel))
        (fun _ _ _ _ _ => pg_name (i := 3) scAny.nd rfl (Or.inl rfl)) (fun _ _ _ _ _ => pts_nil) (fun _ _ _ _ _ => pe_call G hr (by rfl) DA.g DA.F.kp DA.b .nil pass0 (pa_cons (pv 0) (pa_cons (pe_op op_sub (pv 1) pe_int) pa_nil))))
    (pss_cons (ps_if (pt_cmpR op_le (pv 2) pe_int (nomark _)) (pss_one (ps_ret (pe_callTy call_tuple_of (by rfl) S.B.tup boot_tuple' (pa_cons (pv 4) pa_nil)))) pss_nil)
    (pss_cons (ps_if (pt_cmpR op_eq (pv 2) pe_int (nomark _)) (pss_one (ps_ret (pv 4))) pss_nil)
    (pss_cons (ps_if (pt_cmpR op_eq (pv 2) pe_int (nomark _)) (pss_one (ps_ret (pe_disp (pps_cons pe_str (pv 4) (pps_cons pe_int pe_non pps_nil)) rfl rfl (by decide) (by decide)))) pss_nil)
    (pss_one (ps_ret (pe_exc0 S.E (by rfl))))))))))))))), ?_⟩
  refine ⟨_, rfl, wl, 12, rfl, W, by decide, by decide, fun d H1 d0 d1 D1 => ?_⟩
  refine ⟨fun σ' H' => ∃ kd : Int, σ' = [some (.ref wl.w), some (.int (n : Int)), some (.int kd), none, none] ∧ 0 ≤ kd ∧ kd < 12 ∧ (n = 0 → kd < 6) ∧ H' = H1, ?_, ?_⟩
  · refine ⟨_, rfl, rfl, _, rfl, ite2 (fun q => ?_) (fun q => ⟨d, rfl, d0, d1, fun e => (vi_ne q (by omega)).elim, rfl⟩)⟩
    have b1 := fmod_lt (a := d) (b := 6) (by decide)
    exact ⟨_, rfl, .inl ⟨_, rfl, _, _, rfl, rfl, nz rfl, _, rfl, b1.1, by omega, fun _ => b1.2, rfl⟩⟩
  rintro σ' H' ⟨kd, rfl, k0, k1, k6, rfl⟩
  refine ⟨_, rfl, rfl, _, rfl, ite2 (fun q => ?_) (fun q0 => ?_)⟩
  · exact ⟨_, rfl, wl, 120, rfl, D1.well, by decide, by decide, fun e H2 e0 e1 D2 => ⟨_, _, rfl, rfl, k _ (.int (e - 20)) H2 (D1.trans D2) (.int _) (bd_int (by omega))⟩⟩
  refine ⟨_, rfl, rfl, _, rfl, ite2 (fun q => ?_) (fun q1 => ?_)⟩
  · exact ⟨1, rfl, _, rfl, wl, rfl, D1.well, fun e H2 e0 e1 D2 => ⟨_, _, rfl, rfl, k _ (.int (-1 - e)) H2 (D1.trans D2) (.int _) (bd_int (by omega))⟩⟩
  refine ⟨_, rfl, rfl, _, rfl, ite2 (fun q => ?_) (fun q2 => ?_)⟩
  · exact ⟨_, rfl, wl, 2, rfl, D1.well, by decide, by decide, fun e H2 e0 e1 D2 => ⟨rfl, k _ (.bl _) H2 (D1.trans D2) (.bl _) bd_bl⟩⟩
  refine ⟨_, rfl, rfl, _, rfl, ite2 (fun q => ?_) (fun q3 => ?_)⟩
  · exact k _ .non H' D1 .non bd_non
  refine ⟨_, rfl, rfl, _, rfl, ite2 (fun q => ?_) (fun q4 => ?_)⟩
  · exact ⟨_, rfl, _, rfl, wl, 11, rfl, D1.well, by decide, by decide, fun e H2 e0 e1 D2 => ⟨wl, e, rfl, D2.well, by omega, by omega, fun z H3 hz lz D3 => k (.str z) (.str z) H3 ((D1.trans D2).trans D3) (.str z) (bd_str (by omega) (fun c hc => .inl (lz c hc)))⟩⟩
  refine ⟨_, rfl, rfl, _, rfl, ite2 (fun q => ?_) (fun q5 => ?_)⟩
  · refine ⟨_, rfl, wl, rfl, D1.well, fun z H2 hz lz D2 => ⟨sz_of (show (4 : Nat) ≤ 100000 by decide), fun p hp => ⟨_, rfl, wl, 4, rfl, D2.well.same (same_upd hp), by decide, by decide, fun e H3 e0 e1 D3 => ?_⟩⟩⟩
    have hp3 := D3.keep p _ (D2.well.ne hp).1 upd_same
    have go : ∀ (i : Nat) (y : Str), e = (i : Int) → ([V.str "", .str "\n", .str "A", .str "0"] : List V)[i]? = some (.str y) → y.length ≤ 1 → (∀ c ∈ TL.tl y, okS c = true ∨ c = 10) → rIxL K (.ref p) (.int e) H3 fun v H' => ∃ i j : Str, V.str z = .str i ∧ v = .str j ∧ i.length + j.length ≤ sizeLine ∧ Q (.str (i ++ j)) H' := fun i y ei hv hl hc => by
      refine ⟨p, _, e, .str y, rfl, rfl, SqL.of hp3, by rw [ei]; exact atI_nat hv, z, y, rfl, rfl, len_fine (by omega), k _ (.str (z ++ y)) H3 (((D1.trans D2).same (same_upd hp)).trans D3) (.str _) (bd_str ?_ ?_)⟩
      · rw [TL.len_tl, TL.tl_append, List.length_append, ← TL.len_tl, ← TL.len_tl]
        omega
      · intro c hc2
        rw [TL.tl_append] at hc2
        rcases List.mem_append.mp hc2 with h | h
        · exact .inl (lz c h)
        · exact hc c h
    have he : e = 0 ∨ e = 1 ∨ e = 2 ∨ e = 3 := by omega
    rcases he with h | h | h | h
    · exact go 0 "" h rfl (by decide) (by decide +kernel)
    · exact go 1 "\n" h rfl (by decide) (by decide +kernel)
    · exact go 2 "A" h rfl (by decide) (by decide +kernel)
    · exact go 3 "0" h rfl (by decide) (by decide +kernel)
  have n0 : n ≠ 0 := fun e => by
    have := k6 e
    have := vi_ne q0
    have := vi_ne q1
    have := vi_ne q2
    have := vi_ne q3
    have := vi_ne q4
    have := vi_ne q5
    omega
  obtain ⟨m, rfl⟩ : ∃ m, n = m + 1 := ⟨n - 1, by omega⟩
  refine ⟨fun σ' H2 => ∃ (D' : Addr) (vs : List V) (us : List U) (x3 : Option V), σ' = [some (.ref wl.w), some (.int ((m + 1 : Nat) : Int)), some (.int kd), x3, some (.ref D')] ∧ H D' = none ∧ D' ≠ wl.w ∧ H2 D' = some (.lst vs) ∧ AtL wl.w C (fresh H H2) vs us ∧ BdL us (3 * (Wn m + 2)) (3 * m + 3) 0 ∧ Drawn wl H H2, ?_, ?_⟩
  · refine ⟨_, rfl, wl, 4, rfl, D1.well, by decide, by decide, fun c H2 c0 c1 D2 => ⟨c, rfl, by omega, by omega, fun D' hD => ?_⟩⟩
    have nD := (D2.well.ne hD).1
    refine lc_range (lo := 0) (n := c.toNat) (fun i H3 => Drawn wl H2 H3 ∧ ∃ (vs : List V) (us : List U), H3 D' = some (.lst vs) ∧ vs.length = i ∧ AtL wl.w C (fresh (upd H2 D' (.lst [])) H3) vs us ∧ BdL us (i * (Wn m + 2)) (3 * m + 3) 0)
      ⟨(Drawn.refl D2.well).new hD, [], [], upd_same, rfl, .nil, ⟨by simp [wtL], by simp [depL], trivial⟩⟩ ?_ ?_
    · rintro i H3 hi ⟨D3, vs, us, hL, hl, ha, hb⟩
      refine ⟨rfl, _, rfl, _, rfl, _, _, rfl, rfl, wl, ?_, D3.well, fun v u H4 D4 hv bv => ⟨vs, D4.keep D' _ nD hL, ?_, (D3.trans D4).put D2.well hD, vs ++ [v], us ++ [u], upd_same, ?_, fr_step D2.well hD D3 hL ha D4 hv, ?_⟩⟩
      · show [V.ref wl.w, .int (((m + 1 : Nat) : Int) - 1)] = [.ref wl.w, .int (m : Int)]
        rw [show ((m + 1 : Nat) : Int) - 1 = (m : Int) by omega]
      · have := bit_line
        unfold bit at this
        omega
      · rw [List.length_append, hl]
        rfl
      · have := hb.snoc bv
        rw [show (i + 1) * (Wn m + 2) = i * (Wn m + 2) + (Wn m + 2) by rw [Nat.add_mul, Nat.one_mul]]
        exact this
    · rintro H3 ⟨D3, vs, us, hL, hl, ha, hb⟩
      refine ⟨D', vs, us, _, rfl, (D1.trans D2).free W hD, nD, hL, fr_lift W (D1.trans D2) hD ha, ⟨Nat.le_trans hb.w (Nat.mul_le_mul_right _ (by omega)), hb.d, hb.c⟩, (D1.trans D2).trans D3⟩
  rintro σ' H2 ⟨D', vs, us, x3, rfl, hD, nD, hL, ha, hb, D2⟩
  refine ⟨_, rfl, _, _, rfl, rfl, _, rfl, ite2 (fun q => ?_) (fun q8 => ?_)⟩
  · refine ⟨_, rfl, D', vs, rfl, .inl ⟨SqL.of hL, fun p hp => k _ (.tup us) _ (D2.new hp) (.tup (xs := vs) ?_ (D2.well.ne hp).1 (fr_same ha (same_upd hp))) ?_⟩⟩
    · rw [fr_get (D2.free W hp), upd_same]
    · exact ⟨by have := hb.w; simp only [wt, Wn]; omega, by have := hb.d; simp only [dep]; omega, by simpa only [tidy] using hb.c⟩
  refine ⟨_, rfl, rfl, _, rfl, ite2 (fun q => ?_) (fun q9 => ?_)⟩
  · refine ⟨_, rfl, k _ (.lst us) _ D2 (.lst (xs := vs) ?_ nD ha) ?_⟩
    · rw [fr_get hD, hL]
    · exact ⟨by have := hb.w; simp only [wt, Wn]; omega, by have := hb.d; simp only [dep]; omega, by simpa only [tidy] using hb.c⟩
  refine ⟨_, rfl, rfl, _, rfl, ite2 (fun q => ?_) (fun q10 => ?_)⟩
  · refine fun p hp => ⟨_, rfl, upd_same, [(.inr "a", .ref D'), (.inl 1, .non)], rfl, (show (2 : Nat) ≤ 15 by decide), ?_⟩
    rw [upd_upd]
    have np : D' ≠ p := fun e => by rw [← e, hL] at hp; cases hp
    refine k _ (.dct us) _ (D2.new hp) (.dct (b := D') (xs := vs) ?_ (D2.well.ne hp).1 ?_ nD (fr_same ha (same_upd hp))) ?_
    · rw [fr_get (D2.free W hp), upd_same]
      rfl
    · rw [fr_get hD, upd_ne np, hL]
    · exact ⟨by have := hb.w; simp only [wt, Wn]; omega, by have := hb.d; simp only [dep]; omega, by simpa only [tidy] using hb.c⟩
  · refine fun a t hna hnt nat => ?_
    have na2 : upd H2 t (.tup []) a = none := by
      rw [upd_ne nat]
      exact hna
    refine k _ .exc _ ((D2.new hnt).new na2) (.exc (t := t) ?_ (D2.well.ne hna).1 ?_ (D2.well.ne hnt).1) bd_exc
    · rw [fr_get (D2.free W hna), upd_same]
    · rw [fr_get (D2.free W hnt), upd_ne nat.symm, upd_same]
/-- the same, at every depth -/
theorem ok_anys {f fN fT fM : Addr} {fd dN dT dM : FuncData} (DA : Df K mg "_law_any" lAny ["well", "deep"] f fd) (S : Bs K mg C) (D : Dd P wd K mg base fD dD) (DN : Df K mg "_law_number" lNumber ["well"] fN dN) (DM : Df K mg "_law_name" lName ["well"] fM dM)
    (DT : Df K mg "_law_string" sString ["well", "many"] fT dT) (GT : FnOk P wd K mg base CX0 4 fT dT ["well", "many"] spString) : ∀ n : Nat, FnOk P wd K mg base CX0 (4 + n + 1) f fd ["well", "deep"] (spAny C n)
  | 0 => ok_any DA S D DN DM DT GT 0 ⟨fun _ _ _ _ h => h.elim, fun _ _ _ _ _ _ _ _ _ _ _ _ _ h => h.elim⟩
  | n + 1 => ok_any DA S D DN DM DT GT (n + 1) (ok_anys DA S D DN DM DT GT n)
end
end Hs
namespace Hu
open PySem
mutual
def nod : U → Nat
  | .tup us => 1 + nodL us
  | _ => 1
def nodL : List U → Nat
  | [] => 0
  | u :: us => nod u + nodL us
end
theorem nodL_sum : ∀ us : List U, (us.map fun u => (nod u : Int)).sum = (nodL us : Int)
  | [] => rfl
  | u :: us => by rw [List.map_cons, List.sum_cons, nodL_sum us, nodL]; omega
theorem nod_pos : ∀ u : U, 1 ≤ nod u := fun u => by cases u <;> simp only [nod] <;> omega
end Hu
namespace Hs
open PySem PySem.Spec PyProof.Rows L2 Hu Evl
theorem dep_mem' : ∀ {us : List U} {u : U}, u ∈ us → dep u ≤ depL us
  | _ :: us, _, .head _ => by simp only [depL]; omega
  | _ :: us, _, .tail _ h => by have := dep_mem' h; simp only [depL]; omega
mutual
theorem nod_wt : ∀ u : U, nod u ≤ wt u
  | .non => by simp [nod, wt]
  | .bl b => by simp [nod, wt]
  | .int i => by simp [nod, wt]
  | .str z => by simp only [nod, wt]; omega
  | .tup us => by have := nodL_wt us; simp only [nod, wt]; omega
  | .lst us => by simp only [nod, wt]; omega
  | .dct us => by simp only [nod, wt]; omega
  | .exc => by simp [nod, wt]
theorem nodL_wt : ∀ us : List U, nodL us ≤ wtL us
  | [] => Nat.le_refl _
  | u :: us => by have := nod_wt u; have := nodL_wt us; simp only [nodL, wtL]; omega
end
section
variable {P : Program} {wd : World} {K : PySem.W.Frag} {mg : Str → Option Value} {base : Heap} {C : Addr}
theorem boot_sum' : bootBuiltins "sum" = some (.builtin "sum") := by decide +kernel
/-- sum([f(x) for x in a tuple]) -/
theorem ev_sumT {w : Addr} {σ : L2.St} {H : Hp} {tl te : TE} {a : Addr} {xs : List V} {us : List U} {j : Nat} {vs : List Nat} {g : U → Int} (h : Ev tl σ H (.ref a)) (hx : H a = some (.tup xs)) (hz : us.length ≤ 500000) (hl : AtL w C H xs us) (hw : ∀ x, wipe ((wipe σ vs).set j (some x)) vs = wipe σ vs)
    (he : ∀ (x : V) (u : U), u ∈ us → At w C H x u → Ev te ((wipe σ vs).set j (some x)) H (.int (g u))) :
    Ev (tCB (rSum K) (tCons (tLc (iTup K tl) (gName j) tYes te vs) tNil)) σ H (.int (us.map g).sum) := fun H0 e Q q => h H0 e _ fun H1 e1 => ⟨a, rfl, ⟨xs, st_of ((e.trans e1) _ _ hx)⟩, fun Dl hD =>
  lc_tup (xs := xs) (fun i H' => Ex H1 H' ∧ H' Dl = some (.lst ((us.take i).map fun u => V.int (g u)))) ⟨Ex.new hD, upd_same⟩ (fun i H' _ p => st_of (((e.trans e1).trans p.1) _ _ hx)) (fun i x H2 hi p => by
    obtain ⟨p1, p2⟩ := p
    have hlen := AtL.length hl
    have hu : i < us.length := by
      have := (List.getElem?_eq_some_iff.mp hi).1
      omega
    obtain ⟨x', hx', hax⟩ := AtL.get hl (List.getElem?_eq_getElem hu)
    rw [hi] at hx'
    cases hx'
    refine ⟨hw x, he x us[i] (List.getElem_mem hu) hax H2 ((e.trans e1).trans p1) _ fun H3 e3 => ⟨_, e3 _ _ p2, ?_, fun q o hq => ?_, ?_⟩⟩
    · rw [List.length_map, List.length_take]
      have := bit_line
      unfold bit at this
      omega
    · rw [upd_ne (ne_of_none hq hD)]
      exact e3 _ _ (p1 _ _ hq)
    · rw [upd_same, List.take_add_one, List.getElem?_eq_getElem hu, List.map_append]
      rfl) (fun H' p => ⟨Dl, us.map g, rfl, sq_of (by
        rw [p.2, AtL.length hl, List.take_length, List.map_map]
        rfl), q _ (e1.trans p.1)⟩)⟩
def spNodes (C : Addr) (n : Nat) : Sp := fun vs H Q _ => ∃ (v : V) (u : U) (w : Addr), vs = [v] ∧ At w C H v u ∧ Fine u ∧ dep u < n ∧ ∀ H', Same H H' → Q (.int (nod u : Int)) H'
theorem scNodes : FnScope ["thing", "item"] ["thing"] (defScope lNodes) := ⟨rfl, rfl, rfl, by decide +kernel, rfl, by decide +kernel, by decide +kernel⟩
theorem ok_nodes {f : Addr} {fd : FuncData} (DN : Df K mg "_law_nodes" lNodes ["thing"] f fd) (S : Bs K mg C) : ∀ n : Nat, FnOk P wd K mg base CX0 n f fd ["thing"] (spNodes C n)
  | 0 => ⟨fun _ _ _ _ ⟨_, _, _, e, _⟩ => by rw [e]; rfl, fun _ _ _ _ _ _ _ _ _ _ _ _ _ ⟨_, _, _, _, _, _, h, _⟩ => absurd h (Nat.not_lt_zero _)⟩
  | n + 1 => by
    have G := ok_nodes DN S n
    refine DN.F.ok scNodes (fun vs H Q E h => ?_) (fun cdv A outer s H vs Q E hr h => ?_)
    · obtain ⟨v, u, w, rfl, _⟩ := h
      rfl
    obtain ⟨v, u, w, rfl, hat, fi, hd, k⟩ := h
    refine ⟨_, pss_cons (ps_if (pt_val (pe_isiX S (by rfl) (by rfl) S.B.tup boot_tuple' (by decide) (pv 0) (by decide) (by decide)))
        (pss_one (ps_ret (pe_op op_add pe_int (pe_callB (cr_sum rfl) (by rfl) S.B.sum boot_sum' (pa_cons (pe_lc (own := [("item", 1)]) (g := gName 1) (tt := tYes) rfl scNodes.nd (pi_tup (pv 0)) (blkOk_by (N := ["thing", "item"]) (sc := defScope lNodes) (by decide +kernel))
          (fun _ _ _ _ _ => pg_name (i := 1) scNodes.nd rfl (Or.inl rfl)) (fun _ _ _ _ _ => pts_nil) (fun _ _ _ _ _ => pe_call G hr (by rfl) DN.g DN.F.kp DN.b .nil pass0 (pa_cons (pv 1) pa_nil))) pa_nil))))) pss_nil)
      (pss_one (ps_ret pe_int)), ?_⟩
    refine s_if (et_B (ev_isi (ev_var rfl) hat)) (fun q H1 e => ?_) (fun q H1 e => ?_)
    · obtain ⟨us, rfl⟩ := isT_tup q
      obtain ⟨a, xs, rfl, ha, _, hl⟩ := at_tup (ex_at e hat)
      simp only [dep] at hd
      refine s_ret (ev_op ev_c (ev_sumT (g := fun u => (nod u : Int)) (ev_var rfl) ha fi.len hl (fun _ => rfl) fun x u hu hx => ev_call (ea_cons (ev_var rfl) ea_nil) fun H2 e2 Q q E => ⟨x, u, w, rfl, ex_at e2 hx, fi.tup u hu, by have := dep_mem' hu; omega, q⟩) rv_I0) fun H2 e2 => ?_
      have := k H2 (e.trans e2)
      rw [nodL_sum]
      simp only [nod] at this
      rw [show (((1 + nodL us : Nat)) : Int) = 1 + (nodL us : Int) by omega] at this
      exact this
    · have := k H1 e
      cases u with
      | tup us => cases q
      | _ => exact this
end
end Hs
/-! one step of change -/
namespace Hs
open PySem PySem.Spec PyProof.Rows L2 Hu Evl
section
variable {K : PySem.W.Frag} {w C : Addr} {σ : L2.St} {H H' : Hp} {ta : TA} {te tb tc : TE} {R R' : U → Prop} {v : V} {u : U} {n i : Nat} {us : List U} {xs : List V}
def EvB (w C : Addr) (te : TE) (σ : L2.St) (H : Hp) (R : U → Prop) : Prop := ∀ H1, Ex H H1 → ∀ Q : VK, (∀ v u H2, Ex H1 H2 → At w C H2 v u → R u → Q v H2) → te σ H1 Q
def EvBs (w C : Addr) (ta : TA) (σ : L2.St) (H : Hp) (n : Nat) (R : U → Prop) : Prop := ∀ H1, Ex H H1 → ∀ Q : List V → Hp → Prop, (∀ vs us H2, Ex H1 H2 → AtL w C H2 vs us → us.length = n → (∀ u ∈ us, R u) → Q vs H2) → ta σ H1 Q
theorem eb_ev (h : Ev te σ H v) (hat : At w C H v u) (r : R u) : EvB w C te σ H R := fun H1 e Q q => h H1 e Q fun H2 e2 => q v u H2 e2 (ex_at (e.trans e2) hat) r
theorem eb_mono (h : EvB w C te σ H R) (r : ∀ u, R u → R' u) : EvB w C te σ H R' := fun H1 e Q q => h H1 e Q fun v u H2 e2 a ru => q v u H2 e2 a (r u ru)
theorem eb_lift (e : Ex H H') (h : EvB w C te σ H R) : EvB w C te σ H' R := fun H1 e1 Q q => h H1 (e.trans e1) Q q
theorem ebs_lift (e : Ex H H') (h : EvBs w C ta σ H n R) : EvBs w C ta σ H' n R := fun H1 e1 Q q => h H1 (e.trans e1) Q q
theorem ebs_nil : EvBs w C tNil σ H 0 R := fun H1 e Q q => q [] [] H1 (Ex.refl H1) .nil rfl fun u hu => by cases hu
theorem ebs_cons (h : EvB w C te σ H R) (hr : EvBs w C ta σ H n R) : EvBs w C (tCons te ta) σ H (n + 1) R := fun H1 e Q q =>
  h H1 e _ fun v u H2 e2 a ru => hr H2 (e.trans e2) _ fun vs us H3 e3 l hl rs => q _ (u :: us) H3 (e2.trans e3) (.cons (ex_at e3 a) l) (by rw [List.length_cons, hl]) fun y hy => by
    rcases List.mem_cons.mp hy with rfl | hy
    · exact ru
    · exact rs y hy
theorem eb_tup (hw : ∃ o, H w = some o) (h : EvBs w C ta σ H n R) (hn : n ≤ 100000) (r : ∀ us, us.length = n → (∀ u ∈ us, R u) → R' (.tup us)) : EvB w C (tTup ta) σ H R' := fun H1 e Q q =>
  h H1 e _ fun vs us H2 e2 l hl rs => ⟨sz_of (by rw [AtL.length l, hl]; exact hn), fun p hp => q _ (.tup us) _ (e2.trans (Ex.new hp)) (.tup upd_same (fun ep => by
    obtain ⟨o, ho⟩ := hw
    rw [ep, (e.trans e2) _ _ ho] at hp
    cases hp) (ex_atl (Ex.new hp) l)) (r us hl rs)⟩
theorem eb_lst (hw : ∃ o, H w = some o) (h : EvBs w C ta σ H n R) (hn : n ≤ 100000) (r : ∀ us, us.length = n → (∀ u ∈ us, R u) → R' (.lst us)) : EvB w C (tLst ta) σ H R' := fun H1 e Q q =>
  h H1 e _ fun vs us H2 e2 l hl rs => ⟨sz_of (by rw [AtL.length l, hl]; exact hn), fun p hp => q _ (.lst us) _ (e2.trans (Ex.new hp)) (.lst upd_same (fun ep => by
    obtain ⟨o, ho⟩ := hw
    rw [ep, (e.trans e2) _ _ ho] at hp
    cases hp) (ex_atl (Ex.new hp) l)) (r us hl rs)⟩
theorem atl_pick (l : AtL w C H xs us) (hi : i < us.length) : ∃ v, xs[i]? = some v ∧ At w C H v us[i] := AtL.get l (List.getElem?_eq_getElem hi)
theorem eb_pick (h : EvBs w C ta σ H n R) (hn : n ≤ 100000) (hb : Ev tb σ H (.int (i : Int))) (hi : i < n) : EvB w C (tOp (rIxL K) (tLst ta) tb) σ H R := fun H1 e Q q =>
  h H1 e _ fun vs us H2 e2 l hl rs => ⟨sz_of (by rw [AtL.length l, hl]; exact hn), fun p hp => hb _ ((e.trans e2).trans (Ex.new hp)) _ fun H3 e3 => by
    have l2 : us.length = n := hl
    have hi2 : i < us.length := by omega
    obtain ⟨x, hx, hat⟩ := atl_pick l hi2
    exact ⟨p, vs, _, x, rfl, rfl, sq_of (e3 _ _ upd_same), atI_nat hx, q x us[i] H3 ((e2.trans (Ex.new hp)).trans e3) (ex_at ((Ex.new hp).trans e3) hat) (rs _ (List.getElem_mem hi2))⟩⟩
/-- a tuple of bounded items -/
def Part (m d b l : Nat) (u : U) : Prop := ∃ us, u = .tup us ∧ BdL us m d b ∧ us.length ≤ l
theorem cutV_at {lo hi : Option Int} (l : AtL w C H xs us) : ∃ us', AtL w C H (cutV xs lo hi) us' ∧ ∃ i j, us' = (us.drop i).take j := ⟨_, AtL.take _ (AtL.drop _ l), _, _, rfl⟩
theorem eb_slice {a : Addr} {tl th : TO} {lo hi : Option Int} {m d b : Nat} (hw : ∃ o, H w = some o) (h : Ev te σ H (.ref a)) (hx : H a = some (.tup xs)) (na : a ≠ w) (l : AtL w C H xs us) (h1 : EvO tl σ H lo) (h2 : EvO th σ H hi) (bd : BdL us m d b) : EvB w C (tSl (rSlA K) te tl th) σ H (Part m d b us.length) := fun H1 e Q q =>
  h H1 e _ fun H2 e2 => h1 H2 (e.trans e2) _ fun H3 e3 => h2 H3 ((e.trans e2).trans e3) _ fun H4 e4 => by
    have e5 := ((e.trans e2).trans e3).trans e4
    refine ⟨a, xs, rfl, st_of (e5 _ _ hx), fun _ => q _ (.tup us) H4 ((e2.trans e3).trans e4) (.tup (e5 _ _ hx) na (ex_atl e5 l)) ⟨us, rfl, bd, Nat.le_refl _⟩, fun _ p hp => ?_⟩
    obtain ⟨us', l', i, j, rfl⟩ := cutV_at (lo := lo) (hi := hi) l
    refine q _ (.tup _) _ (((e2.trans e3).trans e4).trans (Ex.new hp)) (.tup upd_same (fun ep => ?_) (ex_atl (e5.trans (Ex.new hp)) l')) ⟨_, rfl, (bd.drop i).take j, ?_⟩
    · obtain ⟨o, ho⟩ := hw
      rw [ep, e5 _ _ ho] at hp
      cases hp
    · rw [List.length_take, List.length_drop]
      omega
theorem eb_cat {m1 m2 d b l1 l2 : Nat} (hw : ∃ o, H w = some o) (h1 : EvB w C tb σ H (Part m1 d b l1)) (h2 : EvB w C tc σ H (Part m2 d b l2)) (hl : l1 + l2 ≤ 1000000) : EvB w C (tOp (rCatA K) tb tc) σ H (Part (m1 + m2) d b (l1 + l2)) := fun H1 e Q q =>
  h1 H1 e _ fun v1 u1 H2 e2 a1 ⟨us1, eu1, b1, c1⟩ => h2 H2 (e.trans e2) _ fun v2 u2 H3 e3 a2 ⟨us2, eu2, b2, c2⟩ => by
    subst eu1 eu2
    obtain ⟨p1, x1, rfl, g1, n1, t1⟩ := at_tup (ex_at e3 a1)
    obtain ⟨p2, x2, rfl, g2, n2, t2⟩ := at_tup a2
    have k1 := AtL.length t1
    have k2 := AtL.length t2
    refine ⟨p1, p2, x1, x2, rfl, rfl, st_of g1, st_of g2, len_fine (by omega), fun z => ?_, fun _ z => ?_, fun _ _ p hp => ?_⟩
    · refine q _ (.tup us2) H3 (e2.trans e3) a2 ⟨us2, rfl, b2.mono (by omega) (Nat.le_refl _) (Nat.le_refl _), by omega⟩
    · refine q _ (.tup us1) H3 (e2.trans e3) (ex_at e3 a1) ⟨us1, rfl, b1.mono (by omega) (Nat.le_refl _) (Nat.le_refl _), by omega⟩
    · refine q _ (.tup (us1 ++ us2)) _ ((e2.trans e3).trans (Ex.new hp)) (.tup upd_same (fun ep => ?_) (ex_atl (Ex.new hp) (AtL.append t1 t2))) ⟨_, rfl, b1.append b2, by rw [List.length_append]; omega⟩
      obtain ⟨o, ho⟩ := hw
      rw [ep, ((e.trans e2).trans e3) _ _ ho] at hp
      cases hp
/-! texts -/
abbrev rAddZ : R2 := fun x y H Q => ∃ i j : Str, x = .str i ∧ y = .str j ∧ i.length + j.length ≤ sizeLine ∧ Q (.str (i ++ j)) H
theorem rv_addZ {a b : Str} (h : a.length + b.length ≤ 1000000) : RV rAddZ (.str a) (.str b) H (.str (a ++ b)) := fun H1 _ Q q => ⟨a, b, rfl, rfl, len_fine h, q H1 (Ex.refl H1)⟩
def lined (z : Str) : Prop := ∀ c ∈ TL.tl z, okS c = true ∨ c = 10
theorem lined_add {a b : Str} (h : lined a) (q : lined b) : lined (a ++ b) := fun c hc => by
  rw [TL.tl_append] at hc
  rcases List.mem_append.mp hc with z | z
  · exact h c z
  · exact q c z
theorem len_add {a b : Str} : (a ++ b).length = a.length + b.length := by rw [TL.len_tl, TL.tl_append, List.length_append, ← TL.len_tl, ← TL.len_tl]
theorem lined_cut {z : Str} {lo hi : Option Int} (h : lined z) : lined (cutS z lo hi) := fun c hc => h c (List.mem_of_mem_drop (List.mem_of_mem_take hc))
theorem len_cut {z : Str} {lo hi : Option Int} : (cutS z lo hi).length ≤ z.length := by
  have h1 : (TL.tl (cutS z lo hi)).length ≤ (TL.tl z).length := by
    show ((z.cps.toList.drop _).take _).length ≤ z.cps.toList.length
    rw [List.length_take, List.length_drop]
    omega
  rw [TL.len_tl, TL.len_tl]
  exact h1
def upc (c : Nat) : Nat := if 97 ≤ c ∧ c ≤ 122 then c - 32 else c
theorem upc_ok {c : Nat} (h : okS c = true ∨ c = 10) : okS (upc c) = true ∨ upc c = 10 := by
  have key : ∀ c < 128, okS c = true → okS (upc c) = true := by decide +kernel
  rcases h with h | rfl
  · refine .inl (key c ?_ h)
    unfold okS okc at h
    simp only [Bool.and_eq_true, decide_eq_true_eq] at h
    omega
  · exact .inr rfl
theorem upper_tl (l : List Nat) (h : ∀ c ∈ l, c < 128) : TL.tl (Txt.upper ⟨l.toArray⟩) = l.map upc := by
  induction l with
  | nil =>
    have : TL.tl (Txt.upper (⟨#[]⟩ : Str)) = [] := by decide +kernel
    exact this
  | cons c l ih =>
    have e : (⟨(c :: l).toArray⟩ : Str) = (⟨#[c]⟩ : Str) ++ ⟨l.toArray⟩ := by
      apply TL.ext_tl
      rw [TL.tl_append]
      rfl
    rw [e, PySem.W.KOpn.upper_app, TL.tl_append, PySem.W.KOpn.upper_one (h c List.mem_cons_self), ih fun b hb => h b (List.mem_cons_of_mem _ hb)]
    rfl
theorem lined_lt {z : Str} (h : lined z) : ∀ c ∈ z.cps.toList, c < 128 := fun c hc => by
  rcases h c hc with q | q
  · unfold okS okc at q
    simp only [Bool.and_eq_true, decide_eq_true_eq] at q
    omega
  · omega
theorem upper_is {z : Str} (h : lined z) : TL.tl (Txt.upper z) = (TL.tl z).map upc := upper_tl z.cps.toList (lined_lt h)
theorem lined_upper {z : Str} (h : lined z) : lined (Txt.upper z) := fun c hc => by
  rw [upper_is h] at hc
  obtain ⟨b, hb, rfl⟩ := List.mem_map.mp hc
  exact upc_ok (h b hb)
theorem len_upper' {z : Str} (h : lined z) : (Txt.upper z).length = z.length := by
  rw [TL.len_tl, upper_is h, List.length_map, ← TL.len_tl]
end
end Hs
namespace Hs
open PySem PySem.Spec PyProof.Rows L2 Hu Evl
section
variable {P : Program} {wd : World} {K : PySem.W.Frag} {mg : Str → Option Value} {base : Heap} {C : Addr} {fD : Addr} {dD : FuncData}
def spChanged (C : Addr) : Sp := fun vs H Q _ => ∃ (wl : WA) (v : V) (u : U) (m d b : Nat), vs = [v, .ref wl.w] ∧ Well H wl ∧ At wl.w C H v u ∧ Bd u m d b ∧ m ≤ 100000 ∧ b ≤ 20 ∧
  ∀ (v' : V) (u' : U) (H' : Hp), Drawn wl H H' → At wl.w C H' v' u' → Bd u' (2 * m + 400) (d + 6) (b + 1) → Q v' H'
theorem scLChanged : FnScope ["thing", "well", "kind", "turned"] ["thing", "well"] (defScope lChanged) := ⟨rfl, rfl, rfl, by decide +kernel, rfl, by decide +kernel, by decide +kernel⟩
theorem bu_int {i : Int} {m d b : Nat} (h : i.natAbs < 2 ^ 64 + b) : Bd (.int i) (2 * m + 400) d b := ⟨by simp only [wt]; omega, Nat.zero_le _, by simpa only [tidy] using h⟩
theorem bu_bl {x : Bool} {m d b : Nat} : Bd (.bl x) (2 * m + 400) d b := ⟨by simp only [wt]; omega, Nat.zero_le _, trivial⟩
theorem bu_non {m d b : Nat} : Bd .non (2 * m + 400) d b := ⟨by simp only [wt]; omega, Nat.zero_le _, trivial⟩
theorem bu_str {z : Str} {m d b : Nat} (h : 2 * z.length ≤ 2 * m + 398) (hc : lined z) : Bd (.str z) (2 * m + 400) d b := ⟨by simp only [wt]; omega, Nat.zero_le _, by simp only [tidy]; exact hc⟩
theorem bd_str_of {z : Str} {m d b : Nat} (h : Bd (.str z) m d b) : 2 * z.length + 2 ≤ m ∧ lined z := ⟨by simpa only [wt] using h.w, by have := h.c; simp only [tidy] at this; exact this⟩
theorem bd_tup_of {us : List U} {m d b : Nat} (h : Bd (.tup us) m d b) : BdL us (m - 3) (d - 1) b ∧ 3 ≤ m ∧ 1 ≤ d := by
  have h1 := h.w
  have h2 := h.d
  simp only [wt] at h1
  simp only [dep] at h2
  exact ⟨⟨by omega, by omega, by simpa only [tidy] using h.c⟩, by omega, by omega⟩
theorem part_bd {m d b l m' d' b' : Nat} {u : U} (h : Part m d b l u) (hm : m + 3 ≤ m') (hd : d + 1 ≤ d') (hb : b ≤ b') : Bd u m' d' b' := by
  obtain ⟨us, rfl, q, _⟩ := h
  exact (Bd.tup q).mono hm hd hb
theorem bdl_all {m d b : Nat} : ∀ {us : List U}, (∀ u ∈ us, Bd u m d b) → BdL us (us.length * (m + 2)) d b
  | [], _ => ⟨by simp [wtL], by simp [depL], trivial⟩
  | u :: us, h => by
    have q := (BdL.one (h u List.mem_cons_self)).append (bdl_all fun y hy => h y (List.mem_cons_of_mem _ hy))
    rw [List.length_cons, Nat.add_mul, Nat.one_mul, Nat.add_comm (us.length * _)]
    exact q
theorem r_tup {n m0 d0 b0 M D B : Nat} {us : List U} (hl : us.length = n) (h : ∀ u ∈ us, Bd u m0 d0 b0) (hm : n * (m0 + 2) + 3 ≤ M) (hd : d0 + 1 ≤ D) (hb : b0 ≤ B) : Bd (.tup us) M D B := (Bd.tup (bdl_all h)).mono (by rw [hl]; exact hm) hd hb
theorem r_lst {n m0 d0 b0 M D B : Nat} {us : List U} (hl : us.length = n) (h : ∀ u ∈ us, Bd u m0 d0 b0) (hm : n * (m0 + 2) + 3 ≤ M) (hd : d0 + 1 ≤ D) (hb : b0 ≤ B) : Bd (.lst us) M D B := (Bd.lst (bdl_all h)).mono (by rw [hl]; exact hm) hd hb
theorem ev_slS {σ : L2.St} {H : Hp} {te : TE} {tl th : TO} {z : Str} {lo hi : Option Int} (h : Ev te σ H (.str z)) (h1 : EvO tl σ H lo) (h2 : EvO th σ H hi) (hz : z.length ≤ 1000000) : Ev (tSl rSlS te tl th) σ H (.str (cutS z lo hi)) := fun H1 e Q q =>
  h H1 e _ fun H2 e2 => h1 H2 (e.trans e2) _ fun H3 e3 => h2 H3 ((e.trans e2).trans e3) _ fun H4 e4 => ⟨z, rfl, len_fine hz, q H4 ((e2.trans e3).trans e4)⟩
theorem ev_upper {σ : L2.St} {H : Hp} {te : TE} {z : Str} (h : Ev te σ H (.str z)) (hz : z.length ≤ 1000000) : Ev (tM0 (fun x xs H Q => ∃ a : Str, x = .str a ∧ xs = [] ∧ a.length ≤ 5592405 ∧ Q (.str (Txt.upper a)) H) te) σ H (.str (Txt.upper z)) := fun H1 e Q q =>
  h H1 e _ fun H2 e2 => ⟨⟨z, rfl⟩, z, rfl, rfl, by omega, q H2 e2⟩
theorem eb_listT {w : Addr} {σ : L2.St} {H : Hp} {te : TE} {a : Addr} {xs : List V} {us : List U} {R : U → Prop} (hw : ∃ o, H w = some o) (h : Ev te σ H (.ref a)) (hx : H a = some (.tup xs)) (l : AtL w C H xs us) (r : R (.lst us)) :
    EvB w C (tCB (fun xs H Q => ∃ p ys, xs = [.ref p] ∧ (SqL K H p ys ∨ SqT K H p ys) ∧ ∀ l, H l = none → Q (.ref l) (upd H l (.lst ys))) (tCons te tNil)) σ H R := fun H1 e Q q =>
  h H1 e _ fun H2 e2 => ⟨a, xs, rfl, .inr (st_of ((e.trans e2) _ _ hx)), fun p hp => q _ (.lst us) _ (e2.trans (Ex.new hp)) (.lst upd_same (fun ep => by
    obtain ⟨o, ho⟩ := hw
    rw [ep, (e.trans e2) _ _ ho] at hp
    cases hp) (ex_atl ((e.trans e2).trans (Ex.new hp)) l)) r⟩
theorem nonT {u : U} (h : (isT u "bool" || isNon u) = false) (q : isT u "int" = true) : ∃ i, u = .int i := by
  cases u with
  | int i => exact ⟨i, rfl⟩
  | bl b => simp [isT, isS, tyU] at h
  | _ => simp [isT, isS, tyU] at q
theorem q_asgBs {w : Addr} {σ : L2.St} {H : Hp} {ta : TA} {n i : Nat} {R : U → Prop} {tz : TS} {D : Ends} (h : EvBs w C ta σ H n R) (hn : n ≤ 100000)
    (k : ∀ vs us p H1, H1 p = none → Ex H H1 → AtL w C H1 vs us → us.length = n → (∀ u ∈ us, R u) → tz D (σ.set i (some (.ref p))) (upd H1 p (.lst vs))) : tSeq (tAsg (tLst ta) (gName i)) tz D σ H :=
  h H (Ex.refl H) _ fun vs us H1 e l hl rs => ⟨sz_of (by rw [AtL.length l, hl]; exact hn), fun p hp => k vs us p H1 hp e l hl rs⟩
set_option maxHeartbeats 1000000 in
theorem ok_lchanged {f fA : Addr} {fd dA : FuncData} (F : Fun K "_law_changed" "_law_changed" lChanged f fd) (S : Bs K mg C) (D : Dd P wd K mg base fD dD) (DA : Df K mg "_law_any" lAny ["well", "deep"] fA dA) (GA : FnOk P wd K mg base CX0 6 fA dA ["well", "deep"] (spAny C 1)) :
    FnOk P wd K mg base CX0 7 f fd ["thing", "well"] (spChanged C) := by
  refine F.ok scLChanged (fun vs H Q E h => ?_) (fun cdv A outer s H vs Q E hr h => ?_)
  · obtain ⟨wl, v, u, m, d, b, rfl, _⟩ := h
    rfl
  obtain ⟨wl, v, u, m, d, b, rfl, W, hat, bd, hm, hb, k⟩ := h
  refine ⟨_, pss_cons (ps_set (i := 2) scLChanged.nd rfl (.inl rfl) (pe_draw D hr (by decide) (by rfl) (pv 1) pe_int))
    (pss_cons (ps_if (pt_cmpR op_eq (pv 2) pe_int (nomark _)) (pss_one (ps_ret (pe_call GA hr (by rfl) DA.g DA.F.kp DA.b .nil pass0 (pa_cons (pv 1) (pa_cons pe_int pa_nil))))) pss_nil)
    (pss_cons (ps_if (PW.pt (pw_or (pt_val (pe_isiX S (by rfl) (by rfl) S.B.boo boot_bool' (by decide) (pv 0) (by decide) (by decide))) (pw_or1 (pt_cmpR op_isN1 (pv 0) pe_non (nomark _)))))
      (pss_one (ps_ret (pe_ix ix_list (pe_lst (pa_cons pe_int (pa_cons pe_int (pa_cons (pe_tup pa_nil) (pa_cons pe_str (pa_cons (pe_tup (pa_cons pe_int (pa_cons pe_int pa_nil))) (pa_cons (pe_lst pa_nil) (pa_cons (pe_tup (pa_cons pe_non pa_nil)) pa_nil)))))))) (pe_op op_sub (pv 2) pe_int) (fun _ _ => rfl)))) pss_nil)
    (pss_cons (ps_if (pt_val (pe_isiX S (by rfl) (by rfl) S.B.int boot_int' (by decide) (pv 0) (by decide) (by decide)))
      (pss_one (ps_ret (pe_ix ix_list (pe_lst (pa_cons (pe_op op_add (pv 0) pe_int) (pa_cons (pe_op op_sub (pv 0) pe_int) (pa_cons (pe_un un_neg (pv 0)) (pa_cons (pe_cmpR op_ge (pv 0) pe_int (nomark _)) (pa_cons pe_int (pa_cons pe_non (pa_cons (pe_tup (pa_cons (pv 0) pa_nil)) pa_nil)))))))) (pe_op op_sub (pv 2) pe_int) (fun _ _ => rfl)))) pss_nil)
    (pss_cons (ps_if (pt_val (pe_isiX S (by rfl) (by rfl) S.B.str boot_str (by decide) (pv 0) (by decide) (by decide)))
      (pss_one (ps_ret (pe_ix ix_list (pe_lst (pa_cons (pe_op op_add_str (pv 0) pe_str) (pa_cons (pe_slice sl_str (pv 0) (po_some pe_int) po_none) (pa_cons (pe_upper (pv 0)) (pa_cons (pe_op op_add_str pe_str (pv 0)) (pa_cons pe_str (pa_cons (pe_op op_add_str (pv 0) pe_str) (pa_cons (pe_lst (pa_cons (pv 0) pa_nil)) pa_nil)))))))) (pe_op op_sub (pv 2) pe_int) (fun _ _ => rfl)))) pss_nil)
    (pss_cons (ps_if (pt_val (pe_isiX S (by rfl) (by rfl) S.B.tup boot_tuple' (by decide) (pv 0) (by decide) (by decide)))
      (pss_cons (ps_set (i := 3) scLChanged.nd rfl (.inl rfl) (pe_lst (pa_cons (pe_slice sl_tupA (pv 0) (po_some pe_int) po_none) (pa_cons (pe_slice sl_tupA (pv 0) po_none (po_some (pe_un un_neg pe_int)))
          (pa_cons (pe_op op_catA (pe_slice sl_tupA (pv 0) (po_some pe_int) po_none) (pe_slice sl_tupA (pv 0) po_none (po_some pe_int)))
          (pa_cons (pe_op op_catA (pe_slice sl_tupA (pv 0) po_none (po_some pe_int)) (pv 0)) (pa_cons (pe_op op_catA (pv 0) (pe_tup (pa_cons pe_non pa_nil)))
          (pa_cons (pe_callTy call_list_of (by rfl) S.B.lst boot_list (pa_cons (pv 0) pa_nil)) (pa_cons pe_non pa_nil)))))))))
        (pss_one (ps_ret (pe_ix ix_list (pv 3) (pe_op op_sub (pv 2) pe_int) (fun _ _ => rfl))))) pss_nil)
    (pss_one (ps_ret (pv 0)))))))), ?_⟩
  refine ⟨_, rfl, wl, 8, rfl, W, by decide, by decide, fun kd H1 d0 d1 D1 => ⟨_, rfl, rfl, _, rfl, ite2 (fun q => ?_) (fun q => ?_)⟩⟩
  · refine ⟨_, rfl, wl, rfl, D1.well, fun v' u' H2 D2 hv bv => k v' u' H2 (D1.trans D2) (at_full hv) (bv.mono ?_ ?_ (Nat.zero_le _))⟩
    · simp only [Wn]
      omega
    · omega
  have q0 := vi_ne q
  obtain ⟨i, rfl⟩ : ∃ i : Nat, kd = (i : Int) + 1 := ⟨(kd - 1).toNat, by omega⟩
  have hi : i < 7 := by omega
  have ix : ∀ {σ : L2.St} {H : Hp}, σ[2]? = some (some (.int ((i : Int) + 1))) → Ev (tOp (rI0 fun i j => .int (i - j)) (tVar 2) (tC (.int 1))) σ H (.int (i : Int)) := fun hs => ev_is (ev_op (ev_var hs) ev_c rv_I0) (by rw [show (i : Int) + 1 - 1 = i by omega])
  have hat1 : At wl.w C H1 v u := hat.keep fun b o nb e => D1.keep b o nb e
  have hw1 := D1.well.at
  have fin : ∀ {H2 : Hp}, Ex H1 H2 → ∀ (v' : V) (u' : U) (H3 : Hp), Ex H2 H3 → At wl.w C H3 v' u' → Bd u' (2 * m + 400) (d + 6) (b + 1) → Q v' H3 := fun e2 v' u' H3 e3 a r => k v' u' H3 (D1.same (e2.trans e3)) a r
  refine s_if (b := isT u "bool" || isNon u) (et_or (et_B (ev_isi (ev_var rfl) hat1)) fun _ => et_test (ev_is (ev_isN (ev_var rfl)) (by rw [at_non hat1]))) (fun q H2 e2 => ?_) (fun qb H2 e2 => ?_)
  · obtain ⟨o, ho⟩ := hw1
    have hw : ∃ o, H2 wl.w = some o := ⟨o, e2 _ _ ho⟩
    have z0 : ∀ {i : Int} {σ : L2.St}, i.natAbs < 100 → EvB wl.w C (tC (.int i)) σ H2 (fun u' => Bd u' 80 0 0) := fun {i σ} h => eb_ev ev_c (.int i) ⟨by simp only [wt]; omega, Nat.zero_le _, by simp only [tidy]; omega⟩
    exact eb_pick (K := K) (n := 7) (R := fun u' => Bd u' (2 * m + 400) (d + 6) (b + 1))
      (ebs_cons (eb_ev ev_c (.int 0) (bu_int (by omega))) (ebs_cons (eb_ev ev_c (.int 1) (bu_int (by omega))) (ebs_cons (eb_tup hw (ebs_nil (R := fun u' => Bd u' 80 0 0)) (by decide) fun us hl h => r_tup hl h (by omega) (by omega) (by omega))
      (ebs_cons (eb_ev ev_c (.str "") (bu_str (by simp only [show (("" : Str)).length = 0 from rfl]; omega) (fun c hc => by cases hc))) (ebs_cons (eb_tup hw (ebs_cons (z0 (by decide)) (ebs_cons (z0 (by decide)) ebs_nil)) (by decide) fun us hl h => r_tup hl h (by omega) (by omega) (by omega))
      (ebs_cons (eb_lst hw (ebs_nil (R := fun u' => Bd u' 80 0 0)) (by decide) fun us hl h => r_lst hl h (by omega) (by omega) (by omega)) (ebs_cons (eb_tup hw (ebs_cons (eb_ev (R := fun u' => Bd u' 80 0 0) ev_c .non ⟨by simp only [wt]; omega, Nat.zero_le _, trivial⟩) ebs_nil) (by decide) fun us hl h => r_tup hl h (by omega) (by omega) (by omega)) ebs_nil)))))))
      (by decide) (ix rfl) hi H2 (Ex.refl H2) _ (fin e2)
  have hat2 := ex_at e2 hat1
  refine s_if (b := isT u "int") (et_B (ev_isi (ev_var rfl) hat2)) (fun q H3 e3 => ?_) (fun qi H3 e3 => ?_)
  · obtain ⟨n, rfl⟩ := nonT qb q
    cases at_int hat2
    have hn : n.natAbs < 2 ^ 64 + b := by
      have := bd.c
      simpa only [tidy] using this
    obtain ⟨o, ho⟩ := hw1
    have hw : ∃ o, H3 wl.w = some o := ⟨o, e3 _ _ (e2 _ _ ho)⟩
    exact eb_pick (K := K) (n := 7) (R := fun u' => Bd u' (2 * m + 400) (d + 6) (b + 1))
      (ebs_cons (eb_ev (ev_op (ev_var rfl) ev_c rv_I0) (.int (n + 1)) (bu_int (by omega))) (ebs_cons (eb_ev (ev_op (ev_var rfl) ev_c rv_I0) (.int (n - 1)) (bu_int (by omega))) (ebs_cons (eb_ev (ev_un (ev_var rfl) ru_neg) (.int (-n)) (bu_int (by omega)))
      (ebs_cons (eb_ev (ev_op (ev_var rfl) ev_c rv_I0) (.bl _) bu_bl) (ebs_cons (eb_ev ev_c (.int 0) (bu_int (by omega))) (ebs_cons (eb_ev ev_c .non bu_non)
      (ebs_cons (eb_tup hw (ebs_cons (eb_ev (R := fun u' => Bd u' m d b) (ev_var rfl) (.int n) bd) ebs_nil) (by decide) fun us hl h => r_tup hl h (by omega) (by omega) (by omega)) ebs_nil)))))))
      (by decide) (ix rfl) hi H3 (Ex.refl H3) _ (fin (e2.trans e3))
  have hat3 := ex_at e3 hat2
  refine s_if (b := isT u "str") (et_B (ev_isi (ev_var rfl) hat3)) (fun q H4 e4 => ?_) (fun qs H4 e4 => ?_)
  · obtain ⟨z, rfl⟩ := isT_str q
    cases at_str hat3
    obtain ⟨hz, lz⟩ := bd_str_of bd
    have hzl : z.length ≤ 1000000 := by omega
    obtain ⟨o, ho⟩ := hw1
    have hw : ∃ o, H4 wl.w = some o := ⟨o, e4 _ _ (e3 _ _ (e2 _ _ ho))⟩
    have la : lined ("a" : Str) := by unfold lined; decide +kernel
    have lb : lined (" " : Str) := by unfold lined; decide +kernel
    have ln : lined ("\n" : Str) := by unfold lined; decide +kernel
    have l1 : (("a" : Str)).length = 1 := by decide +kernel
    have l2 : ((" " : Str)).length = 1 := by decide +kernel
    have l3 : (("\n" : Str)).length = 1 := by decide +kernel
    exact eb_pick (K := K) (n := 7) (R := fun u' => Bd u' (2 * m + 400) (d + 6) (b + 1))
      (ebs_cons (eb_ev (ev_op (ev_var rfl) ev_c (rv_addZ (by omega))) (.str _) (bu_str (by rw [len_add]; omega) (lined_add lz la))) (ebs_cons (eb_ev (ev_slS (ev_var rfl) (eo_some ev_c) eo_none hzl) (.str _) (bu_str (by have := len_cut (z := z) (lo := some 1) (hi := none); omega) (lined_cut lz)))
      (ebs_cons (eb_ev (ev_upper (ev_var rfl) hzl) (.str _) (bu_str (by rw [len_upper' lz]; omega) (lined_upper lz))) (ebs_cons (eb_ev (ev_op ev_c (ev_var rfl) (rv_addZ (by omega))) (.str _) (bu_str (by rw [len_add]; omega) (lined_add lb lz)))
      (ebs_cons (eb_ev ev_c (.str "") (bu_str (by simp only [show (("" : Str)).length = 0 from rfl]; omega) (fun c hc => by cases hc))) (ebs_cons (eb_ev (ev_op (ev_var rfl) ev_c (rv_addZ (by omega))) (.str _) (bu_str (by rw [len_add]; omega) (lined_add lz ln)))
      (ebs_cons (eb_lst hw (ebs_cons (eb_ev (R := fun u' => Bd u' m d b) (ev_var rfl) (.str z) bd) ebs_nil) (by decide) fun us hl h => r_lst hl h (by omega) (by omega) (by omega)) ebs_nil)))))))
      (by decide) (ix rfl) hi H4 (Ex.refl H4) _ (fin ((e2.trans e3).trans e4))
  have hat4 := ex_at e4 hat3
  refine s_if (b := isT u "tuple") (et_B (ev_isi (ev_var rfl) hat4)) (fun q H5 e5 => ?_) (fun qt H5 e5 => ?_)
  · obtain ⟨us, rfl⟩ := isT_tup q
    have hat5 := ex_at e5 hat4
    obtain ⟨a, xs, rfl, ha, na, hl⟩ := at_tup hat5
    obtain ⟨bl, m3, dd1⟩ := bd_tup_of bd
    have hlen : 2 * us.length ≤ m := Nat.le_trans (wt_len us) (Nat.le_trans bl.w (Nat.sub_le _ _))
    have e1 := ((e2.trans e3).trans e4).trans e5
    obtain ⟨o, ho⟩ := hw1
    have hw : ∃ o, H5 wl.w = some o := ⟨o, e1 _ _ ho⟩
    have P1 : EvB wl.w C (tVar 0) [some (V.ref a), some (.ref wl.w), some (.int ((i : Int) + 1)), none] H5 (Part (m - 3) (d - 1) b us.length) := eb_ev (ev_var rfl) hat5 ⟨us, rfl, bl, Nat.le_refl _⟩
    have P2 : EvB wl.w C (tTup (tCons (tC .non) tNil)) [some (V.ref a), some (.ref wl.w), some (.int ((i : Int) + 1)), none] H5 (Part 6 (d - 1) b 1) := eb_tup hw (ebs_cons (eb_ev (R := fun u' => Bd u' 4 0 0) ev_c .non ⟨by simp only [wt]; omega, Nat.zero_le _, trivial⟩) ebs_nil) (by decide) fun us hl h => ⟨us, rfl, (bdl_all h).mono (by rw [hl]; omega) (Nat.zero_le _) (Nat.zero_le _), by omega⟩
    have E1 : EvB wl.w C (tSl (rSlA K) (tVar 0) (tPart (tC (.int 1))) tNoPart) [some (V.ref a), some (.ref wl.w), some (.int ((i : Int) + 1)), none] H5 (Part (m - 3) (d - 1) b us.length) := eb_slice hw (ev_var rfl) ha na hl (eo_some ev_c) eo_none bl
    have E2 : EvB wl.w C (tSl (rSlA K) (tVar 0) tNoPart (tPart (tUn (rU fun i => .int (-i)) (tC (.int 1))))) [some (V.ref a), some (.ref wl.w), some (.int ((i : Int) + 1)), none] H5 (Part (m - 3) (d - 1) b us.length) := eb_slice hw (ev_var rfl) ha na hl eo_none (eo_some (ev_un ev_c ru_neg)) bl
    have E3 : EvB wl.w C (tSl (rSlA K) (tVar 0) tNoPart (tPart (tC (.int 1)))) [some (V.ref a), some (.ref wl.w), some (.int ((i : Int) + 1)), none] H5 (Part (m - 3) (d - 1) b us.length) := eb_slice hw (ev_var rfl) ha na hl eo_none (eo_some ev_c) bl
    have pb : ∀ {m0 l0 : Nat}, m0 + 3 ≤ 2 * m + 400 → ∀ u, Part m0 (d - 1) b l0 u → Bd u (2 * m + 400) (d + 6) (b + 1) := fun h0 u h => part_bd h h0 (by omega) (by omega)
    refine q_asgBs (n := 7) (R := fun u' => Bd u' (2 * m + 400) (d + 6) (b + 1)) (ebs_cons (eb_mono E1 (pb (by omega))) (ebs_cons (eb_mono E2 (pb (by omega))) (ebs_cons (eb_mono (eb_cat hw E1 E3 (by omega)) (pb (by omega))) (ebs_cons (eb_mono (eb_cat hw E3 P1 (by omega)) (pb (by omega)))
      (ebs_cons (eb_mono (eb_cat hw P1 P2 (by omega)) (pb (by omega))) (ebs_cons (eb_listT (K := K) hw (ev_var rfl) ha hl ((Bd.lst bl).mono (by omega) (by omega) (by omega)))
      (ebs_cons (eb_ev (R := fun u' => Bd u' (2 * m + 400) (d + 6) (b + 1)) ev_c .non bu_non) ebs_nil))))))) (by decide) fun vs us2 p H6 hp e6 l hl2 rs => ?_
    have l2 : us2.length = 7 := hl2
    have hi2 : i < us2.length := by omega
    obtain ⟨x, hx, hatx⟩ := atl_pick l hi2
    refine ⟨_, rfl, _, rfl, _, _, rfl, rfl, p, vs, _, x, rfl, rfl, SqL.of upd_same, ?_, fin e1 x us2[i] _ (e6.trans (Ex.new hp)) (ex_at (Ex.new hp) hatx) (rs _ (List.getElem_mem hi2))⟩
    rw [show (i : Int) + 1 - 1 = i by omega]
    exact atI_nat hx
  · exact ⟨_, rfl, fin ((((e2.trans e3).trans e4).trans e5)) _ _ _ (Ex.refl _) (ex_at e5 hat4) (bd.mono (by omega) (by omega) (by omega))⟩
end
end Hs
namespace Hs
open PySem PySem.Spec PyProof.Rows L2 Hu Evl
section
variable {K : PySem.W.Frag} {w C : Addr} {H : Hp} {v v1 v2 : V} {us us1 us2 : List U} {Q : VK}
def cutUQ (us : List U) (lo hi : Option Int) : List U := (us.drop (HT.sIx us.length 0 lo)).take (HT.sIx us.length us.length hi - HT.sIx us.length 0 lo)
theorem slice_at {lo hi : Option Int} (hw : ∃ o, H w = some o) (a : At w C H v (.tup us)) (q : ∀ v' H', Ex H H' → At w C H' v' (.tup (cutUQ us lo hi)) → Q v' H') : rSlA K v lo hi H Q := by
  obtain ⟨p, xs, rfl, hp, np, l⟩ := at_tup a
  have hl := AtL.length l
  refine ⟨p, xs, rfl, st_of hp, fun z => ?_, fun z p2 hp2 => ?_⟩
  · have e : cutUQ us lo hi = us := by
      unfold cutUQ
      rw [← hl, z.1, z.2, Nat.sub_zero, List.drop_zero, hl, List.take_length]
    have := q (.ref p) H (Ex.refl H)
    rw [e] at this
    exact this a
  · refine q _ _ (Ex.new hp2) (.tup upd_same (fun ep => ?_) (ex_atl (Ex.new hp2) ?_))
    · obtain ⟨o, ho⟩ := hw
      rw [ep, ho] at hp2
      cases hp2
    · unfold cutUQ
      rw [← hl]
      exact AtL.take _ (AtL.drop _ l)
theorem cat_at (hw : ∃ o, H w = some o) (a1 : At w C H v1 (.tup us1)) (a2 : At w C H v2 (.tup us2)) (hl : us1.length + us2.length ≤ 1000000) (q : ∀ v H', Ex H H' → At w C H' v (.tup (us1 ++ us2)) → Q v H') : rCatA K v1 v2 H Q := by
  obtain ⟨p1, x1, rfl, g1, n1, t1⟩ := at_tup a1
  obtain ⟨p2, x2, rfl, g2, n2, t2⟩ := at_tup a2
  have k1 := AtL.length t1
  have k2 := AtL.length t2
  refine ⟨p1, p2, x1, x2, rfl, rfl, st_of g1, st_of g2, len_fine (by omega), fun z => ?_, fun _ z => ?_, fun _ _ p hp => ?_⟩
  · have e : us1 = [] := List.length_eq_zero_iff.mp (by rw [← k1, z]; rfl)
    subst e
    exact q _ H (Ex.refl H) a2
  · have e : us2 = [] := List.length_eq_zero_iff.mp (by rw [← k2, z]; rfl)
    subst e
    have := q (.ref p1) H (Ex.refl H)
    rw [List.append_nil] at this
    exact this a1
  · refine q _ _ (Ex.new hp) (.tup upd_same (fun ep => ?_) (ex_atl (Ex.new hp) (AtL.append t1 t2)))
    obtain ⟨o, ho⟩ := hw
    rw [ep, ho] at hp
    cases hp
theorem cut_to {k : Nat} : cutUQ us none (some (k : Int)) = us.take k := by
  unfold cutUQ
  rw [HT.sIx_none, HT.sIx_nat, Nat.sub_zero, List.drop_zero]
  by_cases h : k ≤ us.length
  · rw [Nat.min_eq_left h]
  · rw [Nat.min_eq_right (by omega), List.take_length, List.take_of_length_le (by omega)]
theorem cut_from {k : Nat} : cutUQ us (some (k : Int)) none = us.drop k := by
  unfold cutUQ
  rw [HT.sIx_none, HT.sIx_nat]
  by_cases h : k ≤ us.length
  · rw [Nat.min_eq_left h, List.take_of_length_le (by rw [List.length_drop]; omega)]
  · rw [Nat.min_eq_right (by omega), List.drop_length, List.drop_eq_nil_of_le (by omega), List.take_nil]
end
theorem nodL_drop {us : List U} {i : Nat} (h : i < us.length) : nodL (us.drop i) = nod us[i] + nodL (us.drop (i + 1)) := by
  rw [List.drop_eq_getElem_cons h]
  rfl
theorem split_at {us : List U} {i : Nat} (h : i < us.length) : us = us.take i ++ ([us[i]] ++ us.drop (i + 1)) := by
  rw [List.singleton_append, ← List.drop_eq_getElem_cons h, List.take_append_drop]
theorem swap_bd {us : List U} {i : Nat} {c : U} {m d b : Nat} (h : i < us.length) (bd : Bd (.tup us) m d b) (hc : Bd c (2 * wt us[i] + 400) (d - 1 + 6) (b + 1)) : Bd (.tup (us.take i ++ [c] ++ us.drop (i + 1))) (2 * m + 400) (d + 6) (b + 1) := by
  obtain ⟨bl, m3, d1⟩ := bd_tup_of bd
  have e : wtL us = wtL (us.take i) + (wt us[i] + 2 + wtL (us.drop (i + 1))) := by
    have q := congrArg wtL (split_at h)
    rw [wtL_append, wtL_append] at q
    simpa only [wtL, Nat.add_zero] using q
  have t1 : BdL (us.take i) (wtL (us.take i)) (d - 1 + 6) (b + 1) := ⟨Nat.le_refl _, by have := (bl.take i).d; omega, tidyL_mono (by omega) _ (bl.take i).c⟩
  have t2 : BdL (us.drop (i + 1)) (wtL (us.drop (i + 1))) (d - 1 + 6) (b + 1) := ⟨Nat.le_refl _, by have := (bl.drop (i + 1)).d; omega, tidyL_mono (by omega) _ (bl.drop (i + 1)).c⟩
  have hw := bl.w
  have hi := wt_mem (List.getElem_mem h)
  exact (Bd.tup ((t1.append (BdL.one hc)).append t2)).mono (by omega) (by omega) (Nat.le_refl _)
section
variable {P : Program} {wd : World} {K : PySem.W.Frag} {mg : Str → Option Value} {base : Heap} {C : Addr} {fD : Addr} {dD : FuncData}
def spSpoilt (C : Addr) (n : Nat) : Sp := fun vs H Q _ => ∃ (wl : WA) (v : V) (u : U) (at0 : Int) (m d b : Nat), vs = [v, .int at0, .ref wl.w] ∧ Well H wl ∧ At wl.w C H v u ∧ Bd u m d b ∧ m ≤ 100000 ∧ b ≤ 20 ∧ dep u < n ∧ 0 ≤ at0 ∧ at0 < (nod u : Int) ∧
  ∀ (v' : V) (u' : U) (H' : Hp), Drawn wl H H' → At wl.w C H' v' u' → Bd u' (2 * m + 400) (d + 6) (b + 1) → Q v' H'
theorem scSpoilt : FnScope ["thing", "at", "well", "k", "size"] ["thing", "at", "well"] (defScope lSpoilt) := ⟨rfl, rfl, rfl, by decide +kernel, rfl, by decide +kernel, by decide +kernel⟩
theorem ok_spoilt {f fC fN : Addr} {fd dC dN : FuncData} (DS : Df K mg "_law_spoilt" lSpoilt ["thing", "at", "well"] f fd) (S : Bs K mg C) (DC : Df K mg "_law_changed" lChanged ["thing", "well"] fC dC) (GC : FnOk P wd K mg base CX0 7 fC dC ["thing", "well"] (spChanged C))
    (DN : Df K mg "_law_nodes" lNodes ["thing"] fN dN) : ∀ n : Nat, FnOk P wd K mg base CX0 (n + 7) f fd ["thing", "at", "well"] (spSpoilt C n)
  | 0 => ⟨fun _ _ _ _ ⟨_, _, _, _, _, _, _, e, _⟩ => by rw [e]; rfl, fun _ _ _ _ _ _ _ _ _ _ _ _ _ ⟨_, _, _, _, _, _, _, _, _, _, _, _, _, h, _⟩ => absurd h (Nat.not_lt_zero _)⟩
  | n + 1 => by
    have G := ok_spoilt DS S DC GC DN n
    have GN : FnOk P wd K mg base CX0 n fN dN ["thing"] (spNodes C n) := ok_nodes DN S n
    refine DS.F.ok (k := n + 7) scSpoilt (fun vs H Q E h => ?_) (fun cdv A outer s H vs Q E hr h => ?_)
    · obtain ⟨wl, v, u, at0, m, d, b, rfl, _⟩ := h
      rfl
    obtain ⟨wl, v, u, at0, m, d, b, rfl, W, hat, bd, hm, hb, hd, a0, a1, k⟩ := h
    refine ⟨_, pss_cons (ps_if (pt_cmpR op_eq (pv 1) pe_int (nomark _)) (pss_one (ps_ret (pe_call GC (hr.mono (by omega)) (by rfl) DC.g DC.F.kp DC.b .nil pass0 (pa_cons (pv 0) (pa_cons (pv 2) pa_nil))))) pss_nil)
      (pss_cons (ps_set (i := 1) scSpoilt.nd rfl (.inl rfl) (pe_op op_sub (pv 1) pe_int))
      (pss_cons (ps_for PassesOwn.never rfl (pi_range1 (by rfl) S.B.range (pa_cons (pe_callB call_len_seq (by rfl) S.B.len PySem.boot_len (pa_cons (pv 0) pa_nil)) pa_nil)) (pg_name (i := 3) scSpoilt.nd rfl (Or.inl rfl))
        (pss_cons (ps_set (i := 4) scSpoilt.nd rfl (.inl rfl) (pe_call GN (hr.mono (by omega)) (by rfl) DN.g DN.F.kp DN.b .nil pass0 (pa_cons (pe_ix ix_tup (pv 0) (pv 3) (fun _ _ => rfl)) pa_nil)))
        (pss_cons (ps_if (pt_cmpR op_lt (pv 1) (pv 4) (nomark _))
          (pss_one (ps_ret (pe_op op_catA (pe_op op_catA (pe_slice sl_tupA (pv 0) po_none (po_some (pv 3))) (pe_tup (pa_cons (pe_call G hr (by rfl) DS.g DS.F.kp DS.b .nil pass0 (pa_cons (pe_ix ix_tup (pv 0) (pv 3) (fun _ _ => rfl)) (pa_cons (pv 1) (pa_cons (pv 2) pa_nil)))) pa_nil)))
            (pe_slice sl_tupA (pv 0) (po_some (pe_op op_add (pv 3) pe_int)) po_none)))) pss_nil)
        (pss_one (ps_set (i := 1) scSpoilt.nd rfl (.inl rfl) (pe_op op_sub (pv 1) (pv 4)))))))
      (pss_one (ps_ret (pv 0))))), ?_⟩
    refine ⟨_, rfl, rfl, _, rfl, ite2 (fun q => ?_) (fun q => ?_)⟩
    · exact ⟨_, rfl, _, rfl, wl, v, u, m, d, b, rfl, W, hat, bd, hm, hb, k⟩
    have q0 := vi_ne q
    cases u with
    | tup us =>
      obtain ⟨a, xs, rfl, ha, na, hl⟩ := at_tup hat
      have hxl := AtL.length hl
      simp only [dep] at hd
      have hlen : us.length ≤ 100000 := by
        have := wt_len us
        have := (bd_tup_of bd).1.w
        omega
      simp only [nod] at a1
      refine ⟨_, rfl, _, _, rfl, rfl, _, rfl, a, xs, rfl, .inr (st_of ha), _, rfl, by omega, by omega, ?_⟩
      refine for_range (lo := 0) (n := ((xs.length : Nat) : Int).toNat) (fun i σ H' => ∃ (at' : Int) (x3 x4 : Option V), σ = [some (.ref a), some (.int at'), some (.ref wl.w), x3, x4] ∧ 0 ≤ at' ∧ at' < (nodL (us.drop i) : Int) ∧ Ex H H') ⟨at0 - 1, none, none, rfl, by omega, by rw [List.drop_zero]; omega, Ex.refl H⟩ ?_ ?_
      · rintro i σ H1 hi ⟨at', x3, x4, rfl, b0, b1, e1⟩
        have hi' : i < us.length := by omega
        obtain ⟨x, hx, hax⟩ := atl_pick hl hi'
        have hg1 : atI xs (0 + (i : Int)) = some x := at_of (by omega) hx
        have W1 := W.same e1
        have bc : Bd us[i] (wt us[i]) (d - 1) b := by
          have q := (bd_tup_of bd).1.get (List.getElem_mem hi')
          exact ⟨Nat.le_refl _, q.d, q.c⟩
        have hwi : wt us[i] ≤ 100000 := by
          have := wt_mem (List.getElem_mem hi')
          have := (bd_tup_of bd).1.w
          omega
        have hdi : dep us[i] < n := by
          have := dep_mem' (List.getElem_mem hi')
          omega
        have nd := nodL_drop hi'
        refine ⟨_, rfl, _, rfl, a, xs, _, x, rfl, rfl, st_of (e1 _ _ ha), hg1, x, us[i], wl.w, rfl, ex_at e1 hax, bc.fine (by omega) (by omega), hdi, fun H2 e2 => ?_⟩
        refine ⟨_, rfl, _, rfl, _, _, rfl, rfl, _, rfl, ite2 (fun q => ?_) (fun q => ?_)⟩
        · have q1 : at' < (nod us[i] : Int) := of_decide_eq_true q
          have e12 := e1.trans e2
          obtain ⟨ow, how⟩ := W.at
          refine ⟨_, rfl, _, rfl, 0 + (i : Int), rfl, ?_⟩
          refine slice_at (C := C) ⟨ow, e12 _ _ how⟩ (ex_at e12 hat) fun y1 H3 e3 ay1 => ?_
          have e13 := e12.trans e3
          refine ⟨_, rfl, _, rfl, a, xs, _, x, rfl, rfl, st_of (e13 _ _ ha), hg1, _, rfl, _, rfl, wl, x, us[i], at', wt us[i], d - 1, b, rfl, W.same e13, ex_at e13 hax, bc, hwi, hb, hdi, b0, q1, fun v' u' H4 D4 hv bv => ?_⟩
          refine ⟨sz_of (show (1 : Nat) ≤ 100000 by decide), fun p hp => ?_⟩
          obtain ⟨o4, ho4⟩ := D4.well.at
          have np : p ≠ wl.w := (D4.well.ne hp).1
          have y1' : At wl.w C (upd H4 p (.tup [v'])) y1 (.tup (cutUQ us none (some (0 + (i : Int))))) := ex_at (Ex.new hp) (ay1.keep fun b o nb q => D4.keep b o nb q)
          refine cat_at (C := C) ⟨o4, by rw [upd_ne np.symm]; exact ho4⟩ y1' (us2 := [u']) (.tup upd_same np (.cons (ex_at (Ex.new hp) hv) .nil)) ?_ fun y2 H5 e5 ay2 => ?_
          · have : (cutUQ us none (some (0 + (i : Int)))).length ≤ us.length := by
              unfold cutUQ
              rw [List.length_take, List.length_drop]
              omega
            rw [List.length_singleton]
            omega
          have D5 : Drawn wl H H5 := ((((Drawn.refl W).same e13).trans D4).same ((Ex.new hp).trans e5))
          obtain ⟨o5, ho5⟩ := D5.well.at
          have hat5 : At wl.w C H5 (.ref a) (.tup us) := hat.keep fun b o nb q => D5.keep b o nb q
          refine ⟨_, rfl, _, rfl, _, _, rfl, rfl, _, rfl, ?_⟩
          dsimp only [tNoPart]
          refine slice_at (C := C) ⟨o5, ho5⟩ hat5 fun y3 H6 e6 ay3 => ?_
          rw [Int.zero_add, cut_to] at ay2
          rw [Int.zero_add, show (i : Int) + 1 = ((i + 1 : Nat) : Int) by omega, cut_from] at ay3
          refine cat_at (C := C) ⟨o5, e6 _ _ ho5⟩ (ex_at e6 ay2) ay3 ?_ fun y4 H7 e7 ay4 => ?_
          · simp only [List.length_append, List.length_take, List.length_drop, List.length_singleton]
            omega
          exact k y4 _ H7 (D5.same (e6.trans e7)) ay4 (swap_bd hi' bd bv)
        · have q1 : ¬ at' < (nod us[i] : Int) := fun z => q (decide_eq_true z)
          refine ⟨_, rfl, _, rfl, _, _, rfl, rfl, at' - (nod us[i] : Int), _, _, rfl, by omega, ?_, e1.trans e2⟩
          rw [nd] at b1
          omega
      · rintro σ H1 ⟨at', x3, x4, rfl, b0, b1, e1⟩
        exfalso
        rw [List.drop_eq_nil_of_le (by omega)] at b1
        simp only [nodL] at b1
        omega
    | _ =>
      exfalso
      simp only [nod] at a1
      omega
end
end Hs
/-! expressions that draw: what they tell is bounded data -/
namespace Hs
open PySem PySem.Spec PyProof.Rows L2 Hu Evl
theorem nil_bd : Bd (.tup []) 900 4 0 := ⟨by simp [wt, wtL], by simp [dep, depL], by simp [tidy, tidyL]⟩
theorem non_bd : Bd .non 900 4 0 := ⟨by simp [wt], by simp [dep], trivial⟩
abbrev spStampL : Sp := spPair fun i j => (i = 0 ∧ j = 0) ∨ (1 ≤ i ∧ 1 ≤ j ∧ j ≤ 99)
/-- a drawn value with R -/
def EvW (wl : WA) (C : Addr) (te : TE) (σ : L2.St) (H : Hp) (R : U → Prop) : Prop := ∀ H1, Drawn wl H H1 → ∀ Q : VK, (∀ v u H2, Drawn wl H1 H2 → At wl.w C H2 v u → R u → Q v H2) → te σ H1 Q
/-- drawn values, together bounded -/
def EvWs (wl : WA) (C : Addr) (ta : TA) (σ : L2.St) (H : Hp) (n m d : Nat) : Prop := ∀ H1, Drawn wl H H1 → ∀ Q : List V → Hp → Prop, (∀ vs us H2, Drawn wl H1 H2 → AtL wl.w C H2 vs us → us.length = n → BdL us m d 0 → Q vs H2) → ta σ H1 Q
/-- a drawn integer -/
def EvI (wl : WA) (te : TE) (σ : L2.St) (H : Hp) (lo hi : Int) : Prop := ∀ H1, Drawn wl H H1 → ∀ Q : VK, (∀ (i : Int) H2, Drawn wl H1 H2 → lo ≤ i → i < hi → Q (.int i) H2) → te σ H1 Q
abbrev BdR (m d : Nat) : U → Prop := fun u => Bd u m d 0
/-- the names that the law draws: a list of them -/
structure Nm (wl : WA) (H : Hp) (N : Addr) (zs : List Str) : Prop where
  h : H N = some (.lst (zs.map V.str))
  ne : N ≠ wl.w
  n1 : 1 ≤ zs.length
  n3 : zs.length ≤ 3
  g : ∀ z ∈ zs, gNam (.str z) = true
  st : zs.Pairwise ltZ
theorem Nm.keep {wl : WA} {H H' : Hp} {N : Addr} {zs : List Str} (x : Nm wl H N zs) (D : Drawn wl H H') : Nm wl H' N zs := ⟨D.keep _ _ x.ne x.h, x.ne, x.n1, x.n3, x.g, x.st⟩
section
variable {wl : WA} {C : Addr} {σ : L2.St} {H : Hp} {te tl tx : TE} {ta tr : TA} {R R' : U → Prop} {n m m1 m2 d : Nat} {K : PySem.W.Frag} {E : XK} {D : Ends} {tz : TS} {i : Nat} {lo hi : Int} {v : V} {u : U}
theorem EvW.mono (h : EvW wl C te σ H R) (r : ∀ u, R u → R' u) : EvW wl C te σ H R' := fun H1 D1 Q q => h H1 D1 Q fun v u H2 D2 a ru => q v u H2 D2 a (r u ru)
theorem EvW.lift {H' : Hp} (h : EvW wl C te σ H R) (D : Drawn wl H H') : EvW wl C te σ H' R := fun H1 D1 Q q => h H1 (D.trans D1) Q q
theorem ew_var (h : σ[i]? = some (some v)) (a : At wl.w C H v u) (r : R u) : EvW wl C (tVar i) σ H R := fun H1 D1 Q q => ⟨v, h, q v u H1 (.refl D1.well) (At.drawn D1 a) r⟩
theorem ew_c (a : ∀ H, At wl.w C H v u) (r : R u) : EvW wl C (tC v) σ H R := fun H1 D1 Q q => q v u H1 (.refl D1.well) (a H1) r
theorem ews_nil : EvWs wl C tNil σ H 0 0 d := fun H1 D1 Q q => q [] [] H1 (.refl D1.well) .nil rfl (BdL.nil.mono (Nat.le_refl _) (Nat.le_refl _) (Nat.le_refl _))
theorem ews_cons (h : EvW wl C te σ H (BdR m1 d)) (hr : EvWs wl C tr σ H n m2 d) : EvWs wl C (tCons te tr) σ H (n + 1) (m1 + 2 + m2) d := fun H1 D1 Q q =>
  h H1 D1 _ fun v u H2 D2 a ru => hr H2 (D1.trans D2) _ fun vs us H3 D3 l hl bl => q (v :: vs) (u :: us) H3 (D2.trans D3) (.cons (At.drawn D3 a) l) (by rw [List.length_cons, hl]) (BdL.append (BdL.one ru) bl)
theorem ew_tup (h : EvWs wl C ta σ H n m d) (hn : n ≤ 100000) : EvW wl C (tTup ta) σ H (fun u => ∃ us, u = .tup us ∧ us.length = n ∧ BdL us m d 0) := fun H1 D1 Q q =>
  h H1 D1 _ fun vs us H2 D2 l hl bl => ⟨sz_of (by rw [AtL.length l, hl]; exact hn), fun p hp => q (.ref p) (.tup us) _ (D2.new hp) (.tup upd_same (D2.well.ne hp).1 (ex_atl (Ex.new hp) l)) ⟨us, rfl, hl, bl⟩⟩
theorem ew_tupB (h : EvWs wl C ta σ H n m d) (hn : n ≤ 100000) : EvW wl C (tTup ta) σ H (BdR (m + 3) (d + 1)) := (ew_tup h hn).mono fun u ⟨us, e, _, b⟩ => by rw [e]; exact Bd.tup b
theorem bdr_mono {m' d' : Nat} (hm : m ≤ m') (hd : d ≤ d') : ∀ u, BdR m d u → BdR m' d' u := fun u h => Bd.mono h hm hd (Nat.le_refl _)
/-- a word and its rest -/
def WR (M : Nat) (u : U) : Prop := ∃ a rs, u = .tup [a, .tup rs] ∧ Bd a 60 4 0 ∧ BdL rs M 4 0 ∧ 1 ≤ rs.length
theorem ew_wr {M : Nat} {tw : TE} (h : EvW wl C tw σ H (BdR 60 4)) (hr : EvWs wl C ta σ H n m 4) (h1 : 1 ≤ n) (hn : n ≤ 100000) (hM : m ≤ M) : EvW wl C (tTup (tCons tw (tCons (tTup ta) tNil))) σ H (WR M) := fun H1 D1 Q q =>
  h H1 D1 _ fun v u H2 D2 a bu => ew_tup hr hn H2 (D1.trans D2) _ fun v2 u2 H3 D3 a2 ⟨us, e, l, b⟩ => ⟨sz_of (show (2 : Nat) ≤ 100000 by decide), fun p hp => q (.ref p) (.tup [u, u2]) _ ((D2.trans D3).new hp) (.tup upd_same (D3.well.ne hp).1 (.cons (ex_at (Ex.new hp) (At.drawn D3 a)) (.cons (ex_at (Ex.new hp) a2) .nil))) ⟨u, us, by rw [e], bu, b.mono hM (Nat.le_refl _) (Nat.le_refl _), by omega⟩⟩
theorem ei_var {j : Int} (h : σ[i]? = some (some (.int j))) (h1 : lo ≤ j) (h2 : j < hi) : EvI wl (tVar i) σ H lo hi := fun H1 D1 Q q => ⟨_, h, q j H1 (.refl D1.well) h1 h2⟩
theorem ei_draw {m : Int} (h0 : σ[0]? = some (some (.ref wl.w))) (hm : 0 < m) (hm2 : m < 2 ^ 62) : EvI wl (tCall spDraw [] E (tCons (tVar 0) (tCons (tC (.int m)) tNil))) σ H 0 m := fun H1 D1 Q q => ⟨_, h0, wl, m, rfl, D1.well, hm, hm2, fun e H2 e0 e1 D2 => q e H2 D2 e0 e1⟩
theorem ei_add {k : Int} (h : EvI wl te σ H lo hi) : EvI wl (tOp (rI0 fun i j => .int (i + j)) (tC (.int k)) te) σ H (k + lo) (k + hi) := fun H1 D1 Q q => h H1 D1 _ fun j H2 D2 h1 h2 => ⟨k, j, rfl, rfl, q (k + j) H2 D2 (by omega) (by omega)⟩
theorem ew_int (h : EvI wl te σ H lo hi) (h1 : -(2 ^ 60) < lo) (h2 : hi < 2 ^ 60) : EvW wl C te σ H (BdR 80 d) := fun H1 D1 Q q => h H1 D1 _ fun i H2 D2 b1 b2 => q (.int i) (.int i) H2 D2 (.int i) ⟨by simp [wt], by simp [dep], by simp only [tidy]; omega⟩
theorem ei_num (h0 : σ[0]? = some (some (.ref wl.w))) : EvI wl (tCall spNumber [] E (tCons (tVar 0) tNil)) σ H 0 (10 ^ 11) := fun H1 D1 Q q => ⟨_, h0, wl, rfl, D1.well, fun e H2 e0 e1 D2 => q e H2 D2 e0 e1⟩
theorem ew_str8 (h0 : σ[0]? = some (some (.ref wl.w))) (h : EvI wl te σ H 1 9) : EvW wl C (tCall spString [] E (tCons (tVar 0) (tCons te tNil))) σ H (BdR 60 d) := fun H1 D1 Q q =>
  ⟨_, h0, h H1 D1 _ fun i H2 D2 b1 b2 => ⟨wl, i, rfl, D2.well, by omega, by omega, fun z H3 hz lz D3 => q (.str z) (.str z) H3 (D2.trans D3) (.str z) ⟨by simp only [wt]; omega, by simp [dep], by simp only [tidy]; exact fun c hc => .inl (lz c hc)⟩⟩⟩
theorem ew_stamp (h0 : σ[0]? = some (some (.ref wl.w))) : EvW wl C (tCall spStampL [] E (tCons (tVar 0) tNil)) σ H (BdR 200 4) := fun H1 D1 Q q => ⟨_, h0, wl, rfl, D1.well, fun i j p H2 b1 b2 hR hp D2 h2 => q (.ref p) (.tup [.int i, .int j]) H2 D2 (.tup h2 (not_well D2.well h2) (.cons (.int i) (.cons (.int j) .nil))) ((pair_bd b1 b2).mono (Nat.le_refl _) (by decide) (Nat.le_refl _))⟩
theorem ew_mem (h0 : σ[0]? = some (some (.ref wl.w))) : EvW wl C (tCall spMem [] E (tCons (tVar 0) tNil)) σ H (BdR 900 4) := fun H1 D1 Q q => ⟨_, h0, wl, rfl, D1.well, fun f p H2 hf hp D2 h2 => q (.ref p) (memU f) H2 D2 (mem_at D2.well h2) ((memU_bd f).mono (by decide) (by decide) (Nat.le_refl _))⟩
theorem ew_row {I : Addr} {xs : List V} {js : List (Int × Int)} {iI : Nat} (h0 : σ[0]? = some (some (.ref wl.w))) (hi : σ[iI]? = some (some (.ref I))) (W : Well H wl) (X : Ids C wl H I xs js) : EvW wl C (tCall (spRow C) [] E (tCons (tVar 0) (tCons (tVar iI) tNil))) σ H (BdR 3000 4) := fun H1 D1 Q q =>
  ⟨_, h0, _, hi, wl, I, xs, js.map idV, rfl, D1.well, (X.keep W D1).h, X.ne, (X.keep W D1).atl D1.well, by rw [List.length_map]; exact X.n.1, by rw [List.length_map]; exact X.n.2, fun u hu => by
    obtain ⟨j, hj, rfl⟩ := List.mem_map.mp hu
    exact idV_ok (X.b j hj), fun v u H2 D2 a b g => q v u H2 D2 a (b.mono (Nat.le_refl _) (by decide) (Nat.le_refl _))⟩
theorem ew_heads {N I : Addr} {zs : List Str} {xs : List V} {js : List (Int × Int)} {iN iI : Nat} (h0 : σ[0]? = some (some (.ref wl.w))) (hn : σ[iN]? = some (some (.ref N))) (hi : σ[iI]? = some (some (.ref I))) (W : Well H wl) (Y : Nm wl H N zs) (X : Ids C wl H I xs js) : EvW wl C (tCall (spHeads C) [] E (tCons (tVar 0) (tCons (tVar iN) (tCons (tVar iI) tNil)))) σ H (BdR 12400 4) := fun H1 D1 Q q =>
  ⟨_, h0, _, hn, _, hi, wl, N, I, zs, xs, js, rfl, D1.well, (Y.keep D1).h, Y.ne, Y.n3, Y.g, Y.st, X.keep W D1, fun v u H2 D2 a b _ _ => q v u H2 D2 a b⟩
theorem ew_blocks {I : Addr} {xs : List V} {js : List (Int × Int)} {iI : Nat} {mm : Int} (h0 : σ[0]? = some (some (.ref wl.w))) (hi : σ[iI]? = some (some (.ref I))) (h1 : 0 < mm) (h2 : mm < 1000) (W : Well H wl) (X : Ids C wl H I xs js) : EvW wl C (tCall (spBlocks C) [] E (tCons (tVar 0) (tCons (tVar iI) (tCons (tC (.int mm)) tNil)))) σ H (BdR 3000 4) := fun H1 D1 Q q =>
  ⟨_, h0, _, hi, wl, I, mm, xs, js, rfl, D1.well, h1, h2, X.keep W D1, fun v u H2 D2 a b _ _ => q v u H2 D2 a b⟩
/-- x = a drawn value -/
theorem q_asgW (h : EvW wl C te σ H R) (W : Well H wl) (k : ∀ v u H1, Drawn wl H H1 → At wl.w C H1 v u → R u → tz D (σ.set i (some v)) H1) : tSeq (tAsg te (gName i)) tz D σ H := h H (.refl W) _ fun v u H1 D1 a r => k v u H1 D1 a r
theorem q_asgI (h : EvI wl te σ H lo hi) (W : Well H wl) (k : ∀ (j : Int) H1, Drawn wl H H1 → lo ≤ j → j < hi → tz D (σ.set i (some (.int j))) H1) : tSeq (tAsg te (gName i)) tz D σ H := h H (.refl W) _ fun j H1 D1 a b => k j H1 D1 a b
theorem s_retW (h : EvW wl C te σ H R) (W : Well H wl) (k : ∀ v u H1, Drawn wl H H1 → At wl.w C H1 v u → R u → D.rt v H1) : tRet te D σ H := h H (.refl W) _ k
/-- names[a draw below their number] -/
theorem ew_name {N : Addr} {zs : List Str} {iN : Nat} (h0 : σ[0]? = some (some (.ref wl.w))) (hn : σ[iN]? = some (some (.ref N))) (Y : Nm wl H N zs) : EvW wl C (tOp (rIxL K) (tVar iN) (tCall spDraw [] E (tCons (tVar 0) (tCons (tCB (rLenQ K) (tCons (tVar iN) tNil)) tNil)))) σ H (fun u => ∃ z, u = .str z ∧ gNam (.str z) = true) := fun H1 D1 Q q => by
  have hl := (Y.keep D1).h
  refine ⟨_, hn, _, h0, _, hn, N, _, rfl, .inl (sq_of hl), wl, _, rfl, D1.well, ?_, ?_, fun e H2 e0 e1 D2 => ?_⟩
  · rw [List.length_map]
    have := Y.n1
    omega
  · rw [List.length_map]
    have := Y.n3
    omega
  · obtain ⟨j, rfl⟩ : ∃ j : Nat, e = (j : Int) := ⟨e.toNat, by omega⟩
    rw [List.length_map] at e1
    have hj : j < zs.length := by omega
    refine ⟨N, _, _, .str zs[j], rfl, rfl, sq_of (D2.keep _ _ Y.ne hl), atI_nat (by rw [List.getElem?_map, List.getElem?_eq_getElem hj]; rfl), q _ (.str zs[j]) H2 D2 (.str _) ⟨_, rfl, Y.g _ (List.getElem_mem hj)⟩⟩
/-- ids[a draw below their number] -/
theorem ew_id {I : Addr} {xs : List V} {js : List (Int × Int)} {iI : Nat} (h0 : σ[0]? = some (some (.ref wl.w))) (hi : σ[iI]? = some (some (.ref I))) (W : Well H wl) (X : Ids C wl H I xs js) : EvW wl C (tOp (rIxL K) (tVar iI) (tCall spDraw [] E (tCons (tVar 0) (tCons (tCB (rLenQ K) (tCons (tVar iI) tNil)) tNil)))) σ H (BdR 200 4) := fun H1 D1 Q q => by
  have X1 := X.keep W D1
  have hlen := X.p.len
  refine ⟨_, hi, _, h0, _, hi, I, _, rfl, .inl (sq_of X1.h), wl, _, rfl, D1.well, ?_, ?_, fun e H2 e0 e1 D2 => ?_⟩
  · have := X.n.1
    omega
  · have := X.n.2
    omega
  · obtain ⟨j, rfl⟩ : ∃ j : Nat, e = (j : Int) := ⟨e.toNat, by omega⟩
    have hj : j < (js.map idV).length := by rw [List.length_map]; omega
    have X2 := X1.keep D1.well D2
    obtain ⟨x, hx, ax⟩ := AtL.get (X2.atl D2.well) (List.getElem?_eq_getElem hj)
    refine ⟨I, _, _, x, rfl, rfl, sq_of X2.h, atI_nat hx, q x _ H2 D2 ax ?_⟩
    rw [List.getElem_map]
    exact (idV_ok (X.b _ (List.getElem_mem _))).1.mono (Nat.le_refl _) (by decide) (Nat.le_refl _)
/-- [x, a drawn lot of members][a draw] -/
theorem ew_lots (h0 : σ[0]? = some (some (.ref wl.w))) (hx : EvW wl C tx σ H (BdR 900 4)) :
    EvW wl C (tOp (rIxL K) (tLst (tCons tx (tCons (tCall spMem [] E (tCons (tVar 0) tNil)) tNil))) (tCall spDraw [] E (tCons (tVar 0) (tCons (tC (.int 2)) tNil)))) σ H (BdR 900 4) := fun H1 D1 Q q => by
  refine hx H1 D1 _ fun x u0 H2 D2 ax bx => ⟨_, h0, wl, rfl, D2.well, fun g p H3 hg hp D3 h3 => ⟨sz_of (show (2 : Nat) ≤ 100000 by decide), fun l hl => ⟨_, h0, wl, 2, rfl, D3.well.same (same_upd hl), by decide, by decide, fun d H4 d0 d1 D4 => ?_⟩⟩⟩
  have D34 : Drawn wl H1 H4 := ((D2.trans D3).new hl).trans D4
  have nl := (D3.well.ne hl).1
  have hl2 : H4 l = some (.lst [x, .ref p]) := D4.keep _ _ nl upd_same
  have d01 : d = 0 ∨ d = 1 := by omega
  rcases d01 with h | h
  · exact ⟨l, _, d, x, rfl, rfl, SqL.of hl2, by rw [h]; rfl, q x u0 H4 D34 (At.drawn D4 (ex_at (Ex.new hl) (At.drawn D3 ax))) bx⟩
  · exact ⟨l, _, d, .ref p, rfl, rfl, SqL.of hl2, by rw [h]; rfl, q _ (memU g) H4 D34 (At.drawn D4 (ex_at (Ex.new hl) (mem_at D3.well h3))) ((memU_bd g).mono (by decide) (by decide) (Nat.le_refl _))⟩
/-- a text out of a list of written ones, by a known place -/
theorem ew_pickS {zs : List Str} {tb : TE} {j : Nat} (h : ∀ G, EvL tl σ G (zs.map V.str)) (hb : ∀ G, Ev tb σ G (.int (j : Int))) (hj : j < zs.length) (hz : ∀ z ∈ zs, Bd (.str z) 60 4 0) : EvW wl C (tOp (rIxL K) tl tb) σ H (fun u => ∃ z ∈ zs, u = .str z ∧ Bd (.str z) 60 4 0) := fun H1 D1 Q q =>
  h H1 H1 (Ex.refl _) _ fun p H2 hp e2 h2 => hb H2 H2 (Ex.refl _) _ fun H3 e3 => ⟨p, _, _, .str zs[j], rfl, rfl, sq_of (e3 _ _ h2), atI_nat (by rw [List.getElem?_map, List.getElem?_eq_getElem hj]; rfl), q _ (.str zs[j]) H3 ((Drawn.refl D1.well).same (e2.trans e3)) (.str _) ⟨_, List.getElem_mem hj, rfl, hz _ (List.getElem_mem hj)⟩⟩
theorem name_bd {u : U} (h : ∃ z, u = .str z ∧ gNam (.str z) = true) : Bd u 60 4 0 := by
  obtain ⟨z, rfl, hz⟩ := h
  exact (nam_bd hz).mono (by decide) (by decide) (Nat.le_refl _)
theorem nam_of {z : Str} (h : gNam (.str z) = true) : Bd (.str z) 60 4 0 := name_bd ⟨z, rfl, h⟩
end
section
variable {P : Program} {wd : World} {K : PySem.W.Frag} {mg : Str → Option Value} {base : Heap} {C : Addr} {fD : Addr} {dD : FuncData}
abbrev lVote : Stmt := topS 999
def spVoteB (C : Addr) : Sp := fun vs H Q _ => ∃ wl : WA, vs = [.ref wl.w] ∧ Well H wl ∧ ∀ (v : V) (u : U) (H' : Hp), Drawn wl H H' → At wl.w C H' v u → Bd u 1200 4 0 → Q v H'
end
end Hs
/-! machines, votes, numbers, as the law draws them -/
namespace Hs
open PySem PySem.Spec PyProof.Rows L2 Hu Evl
abbrev lVoteL : Stmt := topS 66
abbrev lMachine : Stmt := topS 87
abbrev lToHome : Stmt := topS 88
abbrev lNumbers : Stmt := topS 89
abbrev lBetween : Stmt := topS 90
abbrev lPlain : Stmt := topS 91
abbrev lToHand : Stmt := topS 92
abbrev lLetter : Stmt := topS 93
abbrev lThingK : Stmt := topS 94
section
variable {wl : WA} {C : Addr} {σ : L2.St} {H : Hp} {te tl tx t : TE} {tt : TT} {ta tr : TA} {R R' : U → Prop} {n m m1 m2 d : Nat} {K : PySem.W.Frag} {E : XK} {D : Ends} {tz tu : TS} {i : Nat} {lo hi : Int} {v : V} {u : U}
theorem q_whenD {b : Bool} (h : EvT tt σ H b) (W : Well H wl) (h1 : b = true → ∀ H1, Drawn wl H H1 → tu { D with nx := tz D } σ H1) (h2 : b = false → ∀ H1, Drawn wl H H1 → tz D σ H1) : tSeq (tIfS tt tu tNext) tz D σ H :=
  q_when h (fun c H1 e => h1 c H1 ((Drawn.refl W).same e)) fun c H1 e => h2 c H1 ((Drawn.refl W).same e)
/-- a test of a drawn integer against a written one -/
theorem q_whenDraw {k m : Int} (h0 : σ[0]? = some (some (.ref wl.w))) (W : Well H wl) (hm : 0 < m) (hm2 : m < 2 ^ 62) (h1 : ∀ H1, Drawn wl H H1 → tu { D with nx := tz D } σ H1) (h2 : ∀ H1, Drawn wl H H1 → tz D σ H1) : tSeq (tIfS (tTest (tOp rEq (tCall spDraw [] E (tCons (tVar 0) (tCons (tC (.int m)) tNil))) (tC (.int k)))) tu tNext) tz D σ H :=
  ⟨_, h0, wl, m, rfl, W, hm, hm2, fun d H1 d0 d1 D1 => ⟨rfl, _, rfl, ite2 (fun _ => h1 H1 D1) (fun _ => h2 H1 D1)⟩⟩
theorem ew_wv {M : Nat} {tw t2 : TE} (h : EvW wl C tw σ H (BdR 60 4)) (h2 : EvW wl C t2 σ H (fun u => ∃ us, u = .tup us ∧ 1 ≤ us.length ∧ BdL us M 4 0)) : EvW wl C (tTup (tCons tw (tCons t2 tNil))) σ H (WR M) := fun H1 D1 Q q =>
  h H1 D1 _ fun v u H2 D2 a bu => h2 H2 (D1.trans D2) _ fun v2 u2 H3 D3 a2 ⟨us, e, l, b⟩ => ⟨sz_of (show (2 : Nat) ≤ 100000 by decide), fun p hp => q (.ref p) (.tup [u, u2]) _ ((D2.trans D3).new hp) (.tup upd_same (D3.well.ne hp).1 (.cons (ex_at (Ex.new hp) (At.drawn D3 a)) (.cons (ex_at (Ex.new hp) a2) .nil))) ⟨u, us, by rw [e], bu, b, l⟩⟩
theorem ew_tupR {M : Nat} (h : EvWs wl C ta σ H n m 4) (h1 : 1 ≤ n) (hn : n ≤ 100000) (hM : m ≤ M) : EvW wl C (tTup ta) σ H (fun u => ∃ us, u = .tup us ∧ 1 ≤ us.length ∧ BdL us M 4 0) := (ew_tup h hn).mono fun u ⟨us, e, l, b⟩ => ⟨us, e, by omega, b.mono hM (Nat.le_refl _) (Nat.le_refl _)⟩
def okWord (z : Str) : Bool := decide (z.length ≤ 20) && (TL.tl z).all lowc
theorem word_bd {z : Str} (h : okWord z = true) : Bd (.str z) 60 4 0 := by
  obtain ⟨h1, h2⟩ := and2 (a := decide (z.length ≤ 20)) (b := (TL.tl z).all lowc) h
  have h1 := of_decide_eq_true h1
  refine ⟨by simp only [wt]; omega, by simp [dep], ?_⟩
  simp only [tidy]
  intro c hc
  have := List.all_eq_true.mp h2 c hc
  unfold lowc at this
  have q := and2 this
  have q1 := of_decide_eq_true q.1
  have q2 := of_decide_eq_true q.2
  refine .inl ?_
  unfold okS okc
  rw [decide_eq_true (by omega), decide_eq_true (by omega), decide_eq_true (by omega)]
  rfl
theorem ew_pick {zs : List Str} {tb : TE} {j : Nat} (h : ∀ G, EvL tl σ G (zs.map V.str)) (hb : ∀ G, Ev tb σ G (.int (j : Int))) (hj : j < zs.length) (hz : ∀ z ∈ zs, okWord z = true) : EvW wl C (tOp (rIxL K) tl tb) σ H (BdR 60 4) := (ew_pickS h hb hj fun z hz1 => word_bd (hz z hz1)).mono fun u ⟨z, _, e, b⟩ => by rw [e]; exact b
end
section
variable {P : Program} {wd : World} {K : PySem.W.Frag} {mg : Str → Option Value} {base : Heap} {C : Addr} {fD : Addr} {dD : FuncData}
def spMachL (C : Addr) : Sp := fun vs H Q _ => ∃ (wl : WA) (z : Str), vs = [.ref wl.w, .str z] ∧ Well H wl ∧ Bd (.str z) 60 4 0 ∧ ∀ (v : V) (u : U) (H' : Hp), Drawn wl H H' → At wl.w C H' v u → Bd u 200 5 0 → Q v H'
theorem scMachL : FnScope ["well", "word"] ["well", "word"] (defScope lMachine) := ⟨rfl, rfl, rfl, by decide +kernel, rfl, by decide +kernel, by decide +kernel⟩
theorem ok_machL {f : Addr} {fd : FuncData} (F : Fun K "_law_machine" "_law_machine" lMachine f fd) (D : Dd P wd K mg base fD dD) : FnOk P wd K mg base CX0 4 f fd ["well", "word"] (spMachL C) := by
  refine F.ok scMachL (fun vs H Q E h => ?_) (fun cdv A outer s H vs Q E hr h => ?_)
  · obtain ⟨wl, z, rfl, _⟩ := h
    rfl
  obtain ⟨wl, z, rfl, W, bz, k⟩ := h
  refine ⟨_, pss_cons (ps_if (pt_cmpR op_eq (pv 1) pe_str (nomark _)) (pss_one (ps_ret (pe_tup (pa_cons (pv 1) (pa_cons (pe_draw D hr (by decide) (by rfl) (pv 0) pe_int) pa_nil))))) pss_nil)
    (pss_one (ps_ret (pe_tup (pa_cons (pv 1) (pa_cons (pe_op op_add pe_int (pe_draw D hr (by decide) (by rfl) (pv 0) pe_int)) pa_nil))))), ?_⟩
  refine q_whenD (b := decide (V.str z = V.str "home")) (et_test (ev_op (ev_var rfl) ev_c (rv_eq rfl))) W (fun c H1 D1 => ?_) (fun c H1 D1 => ?_)
  · exact s_retW (C := C) (ew_tupB (ews_cons (ew_var (C := C) rfl (.str z) bz) (ews_cons (ew_int (ei_draw rfl (by decide) (by decide)) (by decide) (by decide)) ews_nil)) (by decide)) D1.well fun v u H2 D2 a b => k v u H2 (D1.trans D2) a (b.mono (by decide) (by decide) (by decide))
  · exact s_retW (C := C) (ew_tupB (ews_cons (ew_var (C := C) rfl (.str z) bz) (ews_cons (ew_int (ei_add (ei_draw rfl (by decide) (by decide))) (by decide) (by decide)) ews_nil)) (by decide)) D1.well fun v u H2 D2 a b => k v u H2 (D1.trans D2) a (b.mono (by decide) (by decide) (by decide))
theorem scVoteL : FnScope ["well", "ballot"] ["well"] (defScope lVoteL) := ⟨rfl, rfl, rfl, by decide +kernel, rfl, by decide +kernel, by decide +kernel⟩
theorem ok_voteB {f fS fM : Addr} {fd dS dM : FuncData} (F : Fun K "_law_vote" "_law_vote" lVoteL f fd) (D : Dd P wd K mg base fD dD) (DS : Df K mg "_law_stamp" lStamp ["well"] fS dS) (GS : FnOk P wd K mg base CX0 5 fS dS ["well"] spStampL)
    (DM : Df K mg "_law_members" lMembers ["well"] fM dM) (GM : FnOk P wd K mg base CX0 4 fM dM ["well"] spMem) : FnOk P wd K mg base CX0 6 f fd ["well"] (spVoteB C) := by
  refine F.ok scVoteL (fun vs H Q E h => ?_) (fun cdv A outer s H vs Q E hr h => ?_)
  · obtain ⟨wl, rfl, _⟩ := h
    rfl
  obtain ⟨wl, rfl, W, k⟩ := h
  refine ⟨_, pss_cons (ps_if (pt_cmpR op_eq (pe_draw D hr (by decide) (by rfl) (pv 0) pe_int) pe_int (nomark _)) (pss_one (ps_ret pe_non)) pss_nil)
    (pss_cons (ps_set (i := 1) scVoteL.nd rfl (.inl rfl) (pe_call GS hr (by rfl) DS.g DS.F.kp DS.b .nil pass0 (pa_cons (pv 0) pa_nil)))
    (pss_one (ps_ret (pe_tup (pa_cons (pv 1) (pa_cons (pe_call GM (hr.mono (by decide)) (by rfl) DM.g DM.F.kp DM.b .nil pass0 (pa_cons (pv 0) pa_nil)) pa_nil)))))), ?_⟩
  refine q_whenDraw rfl W (by decide) (by decide) (fun H1 D1 => ?_) (fun H1 D1 => ?_)
  · exact k _ .non H1 D1 .non (non_bd.mono (by decide) (Nat.le_refl _) (Nat.le_refl _))
  refine ⟨_, rfl, wl, rfl, D1.well, fun i j p H2 b1 b2 hR hp D2 h2 => ?_⟩
  have a1 : At wl.w C H2 (.ref p) (.tup [.int i, .int j]) := .tup h2 (not_well D2.well h2) (.cons (.int i) (.cons (.int j) .nil))
  dsimp only [gName]
  refine ⟨_, rfl, _, rfl, wl, rfl, D2.well, fun g p3 H3 hg hp3 D3 h3 => ⟨sz_of (show (2 : Nat) ≤ 100000 by decide), fun t ht => ?_⟩⟩
  refine k _ (.tup [.tup [.int i, .int j], memU g]) _ (((D1.trans D2).trans D3).new ht) (.tup upd_same (D3.well.ne ht).1 (.cons (ex_at (Ex.new ht) (At.drawn D3 a1)) (.cons (ex_at (Ex.new ht) (mem_at D3.well h3)) .nil))) ?_
  exact (Bd.tup (BdL.append (BdL.one ((pair_bd b1 b2).mono (d' := 1) (Nat.le_refl _) (by decide) (Nat.le_refl _))) (BdL.one (memU_bd g)))).mono (by decide) (by decide) (by decide)
theorem ew_vote {wl : WA} {σ : L2.St} {H : Hp} {E : XK} (h0 : σ[0]? = some (some (.ref wl.w))) : EvW wl C (tCall (spVoteB C) [] E (tCons (tVar 0) tNil)) σ H (BdR 1200 4) := fun H1 D1 Q q => ⟨_, h0, wl, rfl, D1.well, fun v u H2 D2 a b => q v u H2 D2 a b⟩
def spNums (C : Addr) : Sp := fun vs H Q _ => ∃ wl : WA, vs = [.ref wl.w] ∧ Well H wl ∧ ∀ (v : V) (u : U) (H' : Hp), Drawn wl H H' → At wl.w C H' v u → Bd u 6000 4 0 → Q v H'
theorem scNums : FnScope ["well", "many", "k"] ["well"] (defScope lNumbers) := ⟨rfl, rfl, rfl, by decide +kernel, rfl, by decide +kernel, by decide +kernel⟩
theorem ok_nums {f fN : Addr} {fd dN : FuncData} (F : Fun K "_law_numbers" "_law_numbers" lNumbers f fd) (B : Bt mg) (D : Dd P wd K mg base fD dD) (DN : Df K mg "_law_number" lNumber ["well"] fN dN) : FnOk P wd K mg base CX0 5 f fd ["well"] (spNums C) := by
  have GN : FnOk P wd K mg base CX0 4 fN dN ["well"] spNumber := ok_number DN.F D
  refine F.ok scNums (fun vs H Q E h => ?_) (fun cdv A outer s H vs Q E hr h => ?_)
  · obtain ⟨wl, rfl, _⟩ := h
    rfl
  obtain ⟨wl, rfl, W, k⟩ := h
  refine ⟨_, Evl.pss_cut (ps_set (i := 1) scNums.nd rfl (.inl rfl) (pe_ix (show IxR _ (rIxL K) from ix_list) (pe_lst (pa_cons (pe_draw D hr (by decide) (by rfl) (pv 0) pe_int) (pa_cons (pe_op op_add pe_int (pe_draw D hr (by decide) (by rfl) (pv 0) pe_int)) pa_nil))) (pe_callTy call_int1 (by rfl) B.int boot_int (pa_cons (pe_cmpR op_eq (pe_draw D hr (by decide) (by rfl) (pv 0) pe_int) pe_int (nomark _)) pa_nil)) (fun _ _ => rfl)))
    (pss_one (ps_ret (pe_callTy call_tuple_of (by rfl) B.tup boot_tuple' (pa_cons (pe_lc (own := [("k", 2)]) (g := gName 2) (tt := tYes) rfl scNums.nd (pi_range1 (by rfl) B.range (pa_cons (pv 1) pa_nil)) (blkOk_by (N := ["well", "many", "k"]) (sc := defScope lNumbers) (by decide +kernel))
      (fun _ _ _ _ _ => pg_name (i := 2) scNums.nd rfl (Or.inl rfl)) (fun _ _ _ _ _ => pts_nil) (fun _ _ _ _ _ => pe_call GN hr (by rfl) DN.g DN.F.kp DN.b .nil pass0 (pa_cons (pv 0) pa_nil))) pa_nil)))), ?_⟩
  refine ⟨fun σ' H' => ∃ n : Int, σ' = [some (.ref wl.w), some (.int n), none] ∧ 0 ≤ n ∧ n ≤ 67 ∧ Drawn wl H H', ?_, ?_⟩
  · refine ⟨_, rfl, wl, 5, rfl, W, by decide, by decide, fun a H1 a0 a1 D1 => ⟨_, rfl, wl, 6, rfl, D1.well, by decide, by decide, fun b H2 b0 b1 D2 => ⟨_, _, rfl, rfl, sz_of (show (2 : Nat) ≤ 100000 by decide), fun l hl => ⟨_, rfl, wl, 3, rfl, D2.well.same (same_upd hl), by decide, by decide, fun c H3 c0 c1 D3 => ⟨rfl, .inr ⟨_, rfl, ?_⟩⟩⟩⟩⟩⟩
    have nl := (D2.well.ne hl).1
    have hl3 : H3 l = some (.lst [.int a, .int (62 + b)]) := D3.keep _ _ nl upd_same
    have D13 : Drawn wl H H3 := ((D1.trans D2).new hl).trans D3
    by_cases h : c = 0
    · refine ⟨l, _, _, .int (62 + b), rfl, rfl, sq_of hl3, ?_, 62 + b, rfl, by omega, by omega, D13⟩
      rw [h]
      rfl
    · refine ⟨l, _, _, .int a, rfl, rfl, sq_of hl3, ?_, a, rfl, by omega, by omega, D13⟩
      rw [decide_eq_false fun e => h (V.int.inj e)]
      rfl
  · rintro σ' H3 ⟨n, rfl, n0, n1, D13⟩
    refine ⟨_, rfl, n, rfl, by omega, by omega, fun D' hD => ?_⟩
    have nD := (D13.well.ne hD).1
    refine lc_range (lo := 0) (n := n.toNat) (fun i H' => Drawn wl H3 H' ∧ ∃ ns : List Int, H' D' = some (.lst (ns.map V.int)) ∧ ns.length = i ∧ ∀ x ∈ ns, 0 ≤ x ∧ x < 10 ^ 11) ⟨(Drawn.refl D13.well).new hD, [], upd_same, rfl, fun x hx => by cases hx⟩ ?_ ?_
    · rintro i H4 hi ⟨D4, ns, hz, hv, hb⟩
      refine ⟨rfl, _, rfl, wl, rfl, D4.well, fun e H5 e0 e1 D5 => ⟨ns.map V.int, D5.keep D' _ nD hz, ?_, (D4.trans D5).put D13.well hD, ns ++ [e], ?_, ?_, ?_⟩⟩
      · rw [List.length_map]
        exact sz_lt (by omega)
      · rw [upd_same, List.map_append]
        rfl
      · rw [List.length_append, hv]
        rfl
      · intro x hx
        rcases List.mem_append.mp hx with h | h
        · exact hb x h
        · rw [List.mem_singleton.mp h]
          exact ⟨e0, e1⟩
    · rintro H4 ⟨D4, ns, hz, hv, hb⟩
      have atl : ∀ (G : Hp) (ns : List Int), AtL wl.w C G (ns.map V.int) (ns.map U.int) := fun G ns => by
        induction ns with
        | nil => exact .nil
        | cons x ns ih => exact .cons (.int _) ih
      refine ⟨D', _, rfl, .inl ⟨sq_of hz, fun p hp => k _ (.tup (ns.map U.int)) _ ((D13.trans D4).new hp) (.tup upd_same (D4.well.ne hp).1 (atl _ ns)) ?_⟩⟩
      have bl : BdL (ns.map U.int) ((ns.map U.int).length * (80 + 2)) 0 0 := by
        have key : ∀ ms : List Int, (∀ x ∈ ms, 0 ≤ x ∧ x < 10 ^ 11) → BdL (ms.map U.int) ((ms.map U.int).length * (80 + 2)) 0 0 := by
          intro ms
          induction ms with
          | nil => exact fun _ => ⟨by simp [wtL], by simp [depL], trivial⟩
          | cons x ms ih =>
            intro h
            have hx := h x (by simp)
            have b1 : Bd (.int x) 80 0 0 := ⟨by simp [wt], by simp [dep], by simp only [tidy]; omega⟩
            have := BdL.append (.one b1) (ih fun y hy => h y (List.mem_cons_of_mem _ hy))
            exact this.mono (by rw [List.map_cons, List.length_cons, Nat.succ_mul]; omega) (Nat.le_refl _) (Nat.le_refl _)
        exact key ns hb
      refine (Bd.tup bl).mono ?_ (by decide) (Nat.le_refl _)
      rw [List.length_map]
      omega
theorem ew_nums {wl : WA} {σ : L2.St} {H : Hp} {E : XK} (h0 : σ[0]? = some (some (.ref wl.w))) : EvW wl C (tCall (spNums C) [] E (tCons (tVar 0) tNil)) σ H (BdR 6000 4) := fun H1 D1 Q q => ⟨_, h0, wl, rfl, D1.well, fun v u H2 D2 a b => q v u H2 D2 a b⟩
end
end Hs
namespace Hs
open PySem PySem.Spec PyProof.Rows L2 Hu Evl
section
variable {P : Program} {wd : World} {K : PySem.W.Frag} {mg : Str → Option Value} {base : Heap} {C : Addr} {fD : Addr} {dD : FuncData}
def spWR3 (C : Addr) : Sp := fun vs H Q _ => ∃ (wl : WA) (N I : Addr) (zs : List Str) (xs : List V) (js : List (Int × Int)), vs = [.ref wl.w, .ref N, .ref I] ∧ Well H wl ∧ Nm wl H N zs ∧ Ids C wl H I xs js ∧ ∀ (v : V) (u : U) (H' : Hp), Drawn wl H H' → At wl.w C H' v u → WR 20000 u → Q v H'
theorem scToHomeM : FnScope ["well", "names", "ids", "kind", "word", "epoch", "name", "one", "stamp", "members", "ahead"] ["well", "names", "ids"] (defScope lToHome) := ⟨rfl, rfl, rfl, by decide +kernel, rfl, by decide +kernel, by decide +kernel⟩
set_option maxHeartbeats 1000000 in
theorem ok_ToHomeM {f fN fS fT fR fM fH fB : Addr} {fd dN dS dT dR dM dH dB : FuncData} (F : Fun K "_law_to_home" "_law_to_home" lToHome f fd) (B : Bt mg) (D : Dd P wd K mg base fD dD) (DN : Df K mg "_law_number" lNumber ["well"] fN dN)
    (DS : Df K mg "_law_stamp" lStamp ["well"] fS dS) (GS : FnOk P wd K mg base CX0 5 fS dS ["well"] spStampL)
    (DT : Df K mg "_law_string" sString ["well", "many"] fT dT) (GT : FnOk P wd K mg base CX0 4 fT dT ["well", "many"] spString)
    (DR : Df K mg "_law_row" lRow ["well", "ids"] fR dR) (GR : FnOk P wd K mg base CX0 4 fR dR ["well", "ids"] (spRow C))
    (DM : Df K mg "_law_members" lMembers ["well"] fM dM) (GM : FnOk P wd K mg base CX0 4 fM dM ["well"] spMem)
    (DH : Df K mg "_law_heads" lHeads ["well", "names", "ids"] fH dH) (GH : FnOk P wd K mg base CX0 6 fH dH ["well", "names", "ids"] (spHeads C))
    (DB : Df K mg "_law_blocks" lBlocks ["well", "ids", "share"] fB dB) (GB : FnOk P wd K mg base CX0 6 fB dB ["well", "ids", "share"] (spBlocks C)) : FnOk P wd K mg base CX0 7 f fd ["well", "names", "ids"] (spWR3 C) := by
  have GN : FnOk P wd K mg base CX0 4 fN dN ["well"] spNumber := ok_number DN.F D
  refine F.ok scToHomeM (fun vs H Q E h => ?_) (fun cdv A outer s H vs Q E hr h => ?_)
  · obtain ⟨wl, N, I, zs, xs, js, rfl, _⟩ := h
    rfl
  obtain ⟨wl, N, I, zs, xs, js, rfl, W, hN, hI, k⟩ := h
  refine ⟨_, pss_cons (ps_set (i := 3) scToHomeM.nd rfl (.inl rfl) (pe_draw D hr (by decide) (by rfl) (pv 0) pe_int))
    (pss_cons (ps_set (i := 4) scToHomeM.nd rfl (.inl rfl) (pe_ix (show IxR _ (rIxL K) from ix_list) (pe_lst (pa_cons pe_str (pa_cons pe_str (pa_cons pe_str (pa_cons pe_str (pa_cons pe_str (pa_cons pe_str (pa_cons pe_str (pa_cons pe_str (pa_cons pe_str (pa_cons pe_str (pa_cons pe_str pa_nil)))))))))))) (pv 3) (fun _ _ => rfl)))
    (pss_cons (ps_set (i := 5) scToHomeM.nd rfl (.inl rfl) (pe_call GN (hr.mono (by decide)) (by rfl) DN.g DN.F.kp DN.b .nil pass0 (pa_cons (pv 0) pa_nil)))
    (pss_cons (ps_set (i := 6) scToHomeM.nd rfl (.inl rfl) (pe_ix (show IxR _ (rIxL K) from ix_list) (pv 1) (pe_draw D hr (by decide) (by rfl) (pv 0) (pe_callB (show CallR _ _ (rLenQ K) from call_len_seq) (by rfl) B.len PySem.boot_len (pa_cons (pv 1) pa_nil))) (fun _ _ => rfl)))
    (pss_cons (ps_set (i := 7) scToHomeM.nd rfl (.inl rfl) (pe_ix (show IxR _ (rIxL K) from ix_list) (pv 2) (pe_draw D hr (by decide) (by rfl) (pv 0) (pe_callB (show CallR _ _ (rLenQ K) from call_len_seq) (by rfl) B.len PySem.boot_len (pa_cons (pv 2) pa_nil))) (fun _ _ => rfl)))
    (pss_cons (ps_set (i := 8) scToHomeM.nd rfl (.inl rfl) (pe_call GS (hr.mono (by decide)) (by rfl) DS.g DS.F.kp DS.b .nil pass0 (pa_cons (pv 0) pa_nil)))
    (pss_cons (ps_if (pt_cmpR (show OpR _ _ (rIn K false) from op_in_seq) (pv 3) (pe_lst (pa_cons pe_int (pa_cons pe_int (pa_cons pe_int pa_nil)))) (by rfl)) (pss_one (ps_ret (pe_tup (pa_cons (pv 4) (pa_cons (pe_tup (pa_cons (pv 5) (pa_cons (pv 6) pa_nil))) pa_nil))))) pss_nil)
    (pss_cons (ps_if (pt_cmpR op_eq (pv 3) pe_int (nomark _)) (pss_one (ps_ret (pe_tup (pa_cons (pv 4) (pa_cons (pe_tup (pa_cons (pv 5) pa_nil)) pa_nil))))) pss_nil)
    (pss_cons (ps_if (pt_cmpR op_eq (pv 3) pe_int (nomark _)) (pss_one (ps_ret (pe_tup (pa_cons (pv 4) (pa_cons (pe_tup (pa_cons (pv 5) (pa_cons (pv 7) pa_nil))) pa_nil))))) pss_nil)
    (pss_cons (ps_if (pt_cmpR op_eq (pv 3) pe_int (nomark _)) (pss_one (ps_ret (pe_tup (pa_cons (pv 4) (pa_cons (pe_tup (pa_cons (pv 5) (pa_cons (pv 7) (pa_cons (pe_call GT (hr.mono (by decide)) (by rfl) DT.g DT.F.kp DT.b .nil pass0 (pa_cons (pv 0) (pa_cons (pe_op op_add pe_int (pe_draw D hr (by decide) (by rfl) (pv 0) pe_int)) pa_nil))) pa_nil)))) pa_nil))))) pss_nil)
    (pss_cons (ps_if (pt_cmpR op_eq (pv 3) pe_int (nomark _)) (pss_one (ps_ret (pe_tup (pa_cons (pv 4) (pa_cons (pe_tup (pa_cons (pv 5) (pa_cons (pv 6) (pa_cons (pv 8) (pa_cons (pe_call GR (hr.mono (by decide)) (by rfl) DR.g DR.F.kp DR.b .nil pass0 (pa_cons (pv 0) (pa_cons (pv 2) pa_nil))) pa_nil))))) pa_nil))))) pss_nil)
    (pss_cons (ps_if (pt_cmpR op_eq (pv 3) pe_int (nomark _)) (pss_one (ps_ret (pe_tup (pa_cons (pv 4) (pa_cons (pe_tup (pa_cons (pv 5) (pa_cons (pv 8) pa_nil))) pa_nil))))) pss_nil)
    (pss_cons (ps_set (i := 9) scToHomeM.nd rfl (.inl rfl) (pe_call GM (hr.mono (by decide)) (by rfl) DM.g DM.F.kp DM.b .nil pass0 (pa_cons (pv 0) pa_nil)))
    (pss_cons (ps_if (pt_cmpR op_eq (pv 3) pe_int (nomark _)) (pss_one (ps_ret (pe_tup (pa_cons (pv 4) (pa_cons (pe_tup (pa_cons (pv 5) (pa_cons (pv 8) (pa_cons (pv 9) pa_nil)))) pa_nil))))) pss_nil)
    (pss_cons (ps_if (pt_cmpR op_eq (pv 3) pe_int (nomark _)) (pss_one (ps_ret (pe_tup (pa_cons (pv 4) (pa_cons (pe_tup (pa_cons (pv 5) (pa_cons (pv 9) pa_nil))) pa_nil))))) pss_nil)
    (pss_cons (ps_set (i := 10) scToHomeM.nd rfl (.inl rfl) (pe_ix (show IxR _ (rIxL K) from ix_list) (pe_lst (pa_cons (pe_tup pa_nil) (pa_cons (pe_call GM (hr.mono (by decide)) (by rfl) DM.g DM.F.kp DM.b .nil pass0 (pa_cons (pv 0) pa_nil)) pa_nil))) (pe_draw D hr (by decide) (by rfl) (pv 0) pe_int) (fun _ _ => rfl)))
    (pss_one (ps_ret (pe_tup (pa_cons (pv 4) (pa_cons (pe_tup (pa_cons (pv 5) (pa_cons (pv 9) (pa_cons (pv 10) (pa_cons (pe_call GH (hr.mono (by decide)) (by rfl) DH.g DH.F.kp DH.b .nil pass0 (pa_cons (pv 0) (pa_cons (pv 1) (pa_cons (pv 2) pa_nil)))) (pa_cons (pe_call GB (hr.mono (by decide)) (by rfl) DB.g DB.F.kp DB.b .nil pass0 (pa_cons (pv 0) (pa_cons (pv 2) (pa_cons pe_int pa_nil)))) pa_nil)))))) pa_nil)))))))))))))))))))), ?_⟩
  refine q_asgI (wl := wl) (ei_draw rfl (by decide) (by decide)) W fun kd H1 D1 k0 k1 => ?_
  have E1 : Drawn wl H H1 := D1
  obtain ⟨kj, rfl⟩ : ∃ n : Nat, kd = (n : Int) := ⟨kd.toNat, by omega⟩
  show tSeq _ _ _ [some (V.ref wl.w), some (.ref N), some (.ref I), some (.int (kj : Int)), none, none, none, none, none, none, none] H1
  refine q_asgW (wl := wl) (C := C) (ew_pick (zs := ["ask", "list", "get", "put", "head", "lease", "free", "prepare", "accept", "seal", "install"]) (j := kj) (fun G => el_lst (ea_cons ev_c (ea_cons ev_c (ea_cons ev_c (ea_cons ev_c (ea_cons ev_c (ea_cons ev_c (ea_cons ev_c (ea_cons ev_c (ea_cons ev_c (ea_cons ev_c (ea_cons ev_c (ea_nil)))))))))))) (by show (11 : Nat) ≤ 100000; decide)) (fun G => ev_var rfl) (by show _ < 11; omega) (by decide +kernel)) E1.well fun v2 u2 H2 D2 a2 b2 => ?_
  have E2 : Drawn wl H H2 := E1.trans D2
  show tSeq _ _ _ [some (V.ref wl.w), some (.ref N), some (.ref I), some (.int (kj : Int)), some v2, none, none, none, none, none, none] H2
  refine q_asgW (wl := wl) (C := C) (ew_int (d := 4) (ei_num rfl) (by decide) (by decide)) E2.well fun v3 u3 H3 D3 a3 b3 => ?_
  have E3 : Drawn wl H H3 := E2.trans D3
  show tSeq _ _ _ [some (V.ref wl.w), some (.ref N), some (.ref I), some (.int (kj : Int)), some v2, some v3, none, none, none, none, none] H3
  refine q_asgW (wl := wl) (C := C) ((ew_name rfl rfl (hN.keep E3)).mono fun u h => name_bd h) E3.well fun v4 u4 H4 D4 a4 b4 => ?_
  have E4 : Drawn wl H H4 := E3.trans D4
  show tSeq _ _ _ [some (V.ref wl.w), some (.ref N), some (.ref I), some (.int (kj : Int)), some v2, some v3, some v4, none, none, none, none] H4
  refine q_asgW (wl := wl) (C := C) (ew_id rfl rfl E4.well (hI.keep W E4)) E4.well fun v5 u5 H5 D5 a5 b5 => ?_
  have E5 : Drawn wl H H5 := E4.trans D5
  show tSeq _ _ _ [some (V.ref wl.w), some (.ref N), some (.ref I), some (.int (kj : Int)), some v2, some v3, some v4, some v5, none, none, none] H5
  refine q_asgW (wl := wl) (C := C) (ew_stamp rfl) E5.well fun v6 u6 H6 D6 a6 b6 => ?_
  have E6 : Drawn wl H H6 := E5.trans D6
  show tSeq _ _ _ [some (V.ref wl.w), some (.ref N), some (.ref I), some (.int (kj : Int)), some v2, some v3, some v4, some v5, some v6, none, none] H6
  refine q_whenD (wl := wl) (b := inV (.int (kj : Int)) [.int 0, .int 5, .int 6]) (et_test (ev_opL (ev_var rfl) (el_lst (ea_cons ev_c (ea_cons ev_c (ea_cons ev_c (ea_nil)))) (by show (3 : Nat) ≤ 100000; decide)) fun q H1 hq e1 => rv_inL (neg := false) (sq_of hq) rfl rfl)) E6.well (fun c7 H7 D7 => ?_) (fun c7 H7 D7 => ?_)
  · have E7 : Drawn wl H H7 := E6.trans D7
    exact s_retW (C := C) (ew_wr (M := 20000) (ew_var (C := C) rfl (At.drawn ((((D3.trans D4).trans D5).trans D6).trans D7) a2) b2) (ews_cons (ew_var (C := C) rfl (At.drawn (((D4.trans D5).trans D6).trans D7) a3) b3) (ews_cons (ew_var (C := C) rfl (At.drawn ((D5.trans D6).trans D7) a4) b4) ews_nil)) (by decide) (by decide) (by decide)) E7.well fun v u HH DD a b => k v u HH (E7.trans DD) a b
  have E7 : Drawn wl H H7 := E6.trans D7
  refine q_whenD (wl := wl) (b := decide (V.int (kj : Int) = V.int 1)) (et_test (ev_op (ev_var rfl) ev_c (rv_eq rfl))) E7.well (fun c8 H8 D8 => ?_) (fun c8 H8 D8 => ?_)
  · have E8 : Drawn wl H H8 := E7.trans D8
    exact s_retW (C := C) (ew_wr (M := 20000) (ew_var (C := C) rfl (At.drawn (((((D3.trans D4).trans D5).trans D6).trans D7).trans D8) a2) b2) (ews_cons (ew_var (C := C) rfl (At.drawn ((((D4.trans D5).trans D6).trans D7).trans D8) a3) b3) ews_nil) (by decide) (by decide) (by decide)) E8.well fun v u HH DD a b => k v u HH (E8.trans DD) a b
  have E8 : Drawn wl H H8 := E7.trans D8
  have n8 : (kj : Int) ≠ 1 := fun z => of_decide_eq_false c8 (by rw [z])
  refine q_whenD (wl := wl) (b := decide (V.int (kj : Int) = V.int 2)) (et_test (ev_op (ev_var rfl) ev_c (rv_eq rfl))) E8.well (fun c9 H9 D9 => ?_) (fun c9 H9 D9 => ?_)
  · have E9 : Drawn wl H H9 := E8.trans D9
    exact s_retW (C := C) (ew_wr (M := 20000) (ew_var (C := C) rfl (At.drawn ((((((D3.trans D4).trans D5).trans D6).trans D7).trans D8).trans D9) a2) b2) (ews_cons (ew_var (C := C) rfl (At.drawn (((((D4.trans D5).trans D6).trans D7).trans D8).trans D9) a3) b3) (ews_cons (ew_var (C := C) rfl (At.drawn (((D6.trans D7).trans D8).trans D9) a5) b5) ews_nil)) (by decide) (by decide) (by decide)) E9.well fun v u HH DD a b => k v u HH (E9.trans DD) a b
  have E9 : Drawn wl H H9 := E8.trans D9
  have n9 : (kj : Int) ≠ 2 := fun z => of_decide_eq_false c9 (by rw [z])
  refine q_whenD (wl := wl) (b := decide (V.int (kj : Int) = V.int 3)) (et_test (ev_op (ev_var rfl) ev_c (rv_eq rfl))) E9.well (fun c10 H10 D10 => ?_) (fun c10 H10 D10 => ?_)
  · have E10 : Drawn wl H H10 := E9.trans D10
    exact s_retW (C := C) (ew_wr (M := 20000) (ew_var (C := C) rfl (At.drawn (((((((D3.trans D4).trans D5).trans D6).trans D7).trans D8).trans D9).trans D10) a2) b2) (ews_cons (ew_var (C := C) rfl (At.drawn ((((((D4.trans D5).trans D6).trans D7).trans D8).trans D9).trans D10) a3) b3) (ews_cons (ew_var (C := C) rfl (At.drawn ((((D6.trans D7).trans D8).trans D9).trans D10) a5) b5) (ews_cons (ew_str8 (d := 4) rfl (ei_add (ei_draw rfl (by decide) (by decide)))) ews_nil))) (by decide) (by decide) (by decide)) E10.well fun v u HH DD a b => k v u HH (E10.trans DD) a b
  have E10 : Drawn wl H H10 := E9.trans D10
  have n10 : (kj : Int) ≠ 3 := fun z => of_decide_eq_false c10 (by rw [z])
  refine q_whenD (wl := wl) (b := decide (V.int (kj : Int) = V.int 4)) (et_test (ev_op (ev_var rfl) ev_c (rv_eq rfl))) E10.well (fun c11 H11 D11 => ?_) (fun c11 H11 D11 => ?_)
  · have E11 : Drawn wl H H11 := E10.trans D11
    exact s_retW (C := C) (ew_wr (M := 20000) (ew_var (C := C) rfl (At.drawn ((((((((D3.trans D4).trans D5).trans D6).trans D7).trans D8).trans D9).trans D10).trans D11) a2) b2) (ews_cons (ew_var (C := C) rfl (At.drawn (((((((D4.trans D5).trans D6).trans D7).trans D8).trans D9).trans D10).trans D11) a3) b3) (ews_cons (ew_var (C := C) rfl (At.drawn ((((((D5.trans D6).trans D7).trans D8).trans D9).trans D10).trans D11) a4) b4) (ews_cons (ew_var (C := C) rfl (At.drawn ((((D7.trans D8).trans D9).trans D10).trans D11) a6) b6) (ews_cons (ew_row rfl rfl E11.well (hI.keep W E11)) ews_nil)))) (by decide) (by decide) (by decide)) E11.well fun v u HH DD a b => k v u HH (E11.trans DD) a b
  have E11 : Drawn wl H H11 := E10.trans D11
  have n11 : (kj : Int) ≠ 4 := fun z => of_decide_eq_false c11 (by rw [z])
  refine q_whenD (wl := wl) (b := decide (V.int (kj : Int) = V.int 7)) (et_test (ev_op (ev_var rfl) ev_c (rv_eq rfl))) E11.well (fun c12 H12 D12 => ?_) (fun c12 H12 D12 => ?_)
  · have E12 : Drawn wl H H12 := E11.trans D12
    exact s_retW (C := C) (ew_wr (M := 20000) (ew_var (C := C) rfl (At.drawn (((((((((D3.trans D4).trans D5).trans D6).trans D7).trans D8).trans D9).trans D10).trans D11).trans D12) a2) b2) (ews_cons (ew_var (C := C) rfl (At.drawn ((((((((D4.trans D5).trans D6).trans D7).trans D8).trans D9).trans D10).trans D11).trans D12) a3) b3) (ews_cons (ew_var (C := C) rfl (At.drawn (((((D7.trans D8).trans D9).trans D10).trans D11).trans D12) a6) b6) ews_nil)) (by decide) (by decide) (by decide)) E12.well fun v u HH DD a b => k v u HH (E12.trans DD) a b
  have E12 : Drawn wl H H12 := E11.trans D12
  have n12 : (kj : Int) ≠ 7 := fun z => of_decide_eq_false c12 (by rw [z])
  refine q_asgW (wl := wl) (C := C) (ew_mem rfl) E12.well fun v13 u13 H13 D13 a13 b13 => ?_
  have E13 : Drawn wl H H13 := E12.trans D13
  show tSeq _ _ _ [some (V.ref wl.w), some (.ref N), some (.ref I), some (.int (kj : Int)), some v2, some v3, some v4, some v5, some v6, some v13, none] H13
  refine q_whenD (wl := wl) (b := decide (V.int (kj : Int) = V.int 8)) (et_test (ev_op (ev_var rfl) ev_c (rv_eq rfl))) E13.well (fun c14 H14 D14 => ?_) (fun c14 H14 D14 => ?_)
  · have E14 : Drawn wl H H14 := E13.trans D14
    exact s_retW (C := C) (ew_wr (M := 20000) (ew_var (C := C) rfl (At.drawn (((((((((((D3.trans D4).trans D5).trans D6).trans D7).trans D8).trans D9).trans D10).trans D11).trans D12).trans D13).trans D14) a2) b2) (ews_cons (ew_var (C := C) rfl (At.drawn ((((((((((D4.trans D5).trans D6).trans D7).trans D8).trans D9).trans D10).trans D11).trans D12).trans D13).trans D14) a3) b3) (ews_cons (ew_var (C := C) rfl (At.drawn (((((((D7.trans D8).trans D9).trans D10).trans D11).trans D12).trans D13).trans D14) a6) b6) (ews_cons (ew_var (C := C) rfl (At.drawn D14 a13) b13) ews_nil))) (by decide) (by decide) (by decide)) E14.well fun v u HH DD a b => k v u HH (E14.trans DD) a b
  have E14 : Drawn wl H H14 := E13.trans D14
  have n14 : (kj : Int) ≠ 8 := fun z => of_decide_eq_false c14 (by rw [z])
  refine q_whenD (wl := wl) (b := decide (V.int (kj : Int) = V.int 9)) (et_test (ev_op (ev_var rfl) ev_c (rv_eq rfl))) E14.well (fun c15 H15 D15 => ?_) (fun c15 H15 D15 => ?_)
  · have E15 : Drawn wl H H15 := E14.trans D15
    exact s_retW (C := C) (ew_wr (M := 20000) (ew_var (C := C) rfl (At.drawn ((((((((((((D3.trans D4).trans D5).trans D6).trans D7).trans D8).trans D9).trans D10).trans D11).trans D12).trans D13).trans D14).trans D15) a2) b2) (ews_cons (ew_var (C := C) rfl (At.drawn (((((((((((D4.trans D5).trans D6).trans D7).trans D8).trans D9).trans D10).trans D11).trans D12).trans D13).trans D14).trans D15) a3) b3) (ews_cons (ew_var (C := C) rfl (At.drawn (D14.trans D15) a13) b13) ews_nil)) (by decide) (by decide) (by decide)) E15.well fun v u HH DD a b => k v u HH (E15.trans DD) a b
  have E15 : Drawn wl H H15 := E14.trans D15
  have n15 : (kj : Int) ≠ 9 := fun z => of_decide_eq_false c15 (by rw [z])
  refine q_asgW (wl := wl) (C := C) (ew_lots rfl ((ew_tupB (d := 0) ews_nil (by decide)).mono (bdr_mono (by decide) (by decide)))) E15.well fun v16 u16 H16 D16 a16 b16 => ?_
  have E16 : Drawn wl H H16 := E15.trans D16
  show tRet _ _ [some (V.ref wl.w), some (.ref N), some (.ref I), some (.int (kj : Int)), some v2, some v3, some v4, some v5, some v6, some v13, some v16] H16
  exact s_retW (C := C) (ew_wr (M := 20000) (ew_var (C := C) rfl (At.drawn (((((((((((((D3.trans D4).trans D5).trans D6).trans D7).trans D8).trans D9).trans D10).trans D11).trans D12).trans D13).trans D14).trans D15).trans D16) a2) b2) (ews_cons (ew_var (C := C) rfl (At.drawn ((((((((((((D4.trans D5).trans D6).trans D7).trans D8).trans D9).trans D10).trans D11).trans D12).trans D13).trans D14).trans D15).trans D16) a3) b3) (ews_cons (ew_var (C := C) rfl (At.drawn ((D14.trans D15).trans D16) a13) b13) (ews_cons (ew_var (C := C) rfl a16 b16) (ews_cons (ew_heads rfl rfl rfl E16.well (hN.keep E16) (hI.keep W E16)) (ews_cons (ew_blocks rfl rfl (by decide) (by decide) E16.well (hI.keep W E16)) ews_nil))))) (by decide) (by decide) (by decide)) E16.well fun v u HH DD a b => k v u HH (E16.trans DD) a b
theorem scBetweenM : FnScope ["well", "names", "ids", "kind", "epoch", "many"] ["well", "names", "ids"] (defScope lBetween) := ⟨rfl, rfl, rfl, by decide +kernel, rfl, by decide +kernel, by decide +kernel⟩
set_option maxHeartbeats 1000000 in
theorem ok_BetweenM {f fN fU fH fB : Addr} {fd dN dU dH dB : FuncData} (F : Fun K "_law_between" "_law_between" lBetween f fd) (B : Bt mg) (D : Dd P wd K mg base fD dD) (DN : Df K mg "_law_number" lNumber ["well"] fN dN)
    (DU : Df K mg "_law_numbers" lNumbers ["well"] fU dU) (GU : FnOk P wd K mg base CX0 5 fU dU ["well"] (spNums C))
    (DH : Df K mg "_law_heads" lHeads ["well", "names", "ids"] fH dH) (GH : FnOk P wd K mg base CX0 6 fH dH ["well", "names", "ids"] (spHeads C))
    (DB : Df K mg "_law_blocks" lBlocks ["well", "ids", "share"] fB dB) (GB : FnOk P wd K mg base CX0 6 fB dB ["well", "ids", "share"] (spBlocks C)) : FnOk P wd K mg base CX0 7 f fd ["well", "names", "ids"] (spWR3 C) := by
  have GN : FnOk P wd K mg base CX0 4 fN dN ["well"] spNumber := ok_number DN.F D
  refine F.ok scBetweenM (fun vs H Q E h => ?_) (fun cdv A outer s H vs Q E hr h => ?_)
  · obtain ⟨wl, N, I, zs, xs, js, rfl, _⟩ := h
    rfl
  obtain ⟨wl, N, I, zs, xs, js, rfl, W, hN, hI, k⟩ := h
  refine ⟨_, pss_cons (ps_set (i := 3) scBetweenM.nd rfl (.inl rfl) (pe_draw D hr (by decide) (by rfl) (pv 0) pe_int))
    (pss_cons (ps_set (i := 4) scBetweenM.nd rfl (.inl rfl) (pe_call GN (hr.mono (by decide)) (by rfl) DN.g DN.F.kp DN.b .nil pass0 (pa_cons (pv 0) pa_nil)))
    (pss_cons (ps_set (i := 5) scBetweenM.nd rfl (.inl rfl) (pe_ix (show IxR _ (rIxL K) from ix_list) (pe_lst (pa_cons pe_int (pa_cons pe_int (pa_cons pe_int (pa_cons pe_int (pa_cons pe_int (pa_cons pe_int pa_nil))))))) (pe_draw D hr (by decide) (by rfl) (pv 0) pe_int) (fun _ _ => rfl)))
    (pss_cons (ps_if (pt_cmpR op_eq (pv 3) pe_int (nomark _)) (pss_one (ps_ret (pe_tup (pa_cons pe_str (pa_cons (pe_tup (pa_cons (pv 4) (pa_cons (pv 5) pa_nil))) pa_nil))))) pss_nil)
    (pss_cons (ps_if (pt_cmpR op_eq (pv 3) pe_int (nomark _)) (pss_one (ps_ret (pe_tup (pa_cons pe_str (pa_cons (pe_tup (pa_cons (pv 4) (pa_cons (pv 5) (pa_cons (pe_call GN (hr.mono (by decide)) (by rfl) DN.g DN.F.kp DN.b .nil pass0 (pa_cons (pv 0) pa_nil)) (pa_cons (pe_call GU (hr.mono (by decide)) (by rfl) DU.g DU.F.kp DU.b .nil pass0 (pa_cons (pv 0) pa_nil)) pa_nil))))) pa_nil))))) pss_nil)
    (pss_cons (ps_if (pt_cmpR op_eq (pv 3) pe_int (nomark _)) (pss_one (ps_ret (pe_tup (pa_cons pe_str (pa_cons (pe_tup (pa_cons (pv 4) (pa_cons (pe_call GU (hr.mono (by decide)) (by rfl) DU.g DU.F.kp DU.b .nil pass0 (pa_cons (pv 0) pa_nil)) pa_nil))) pa_nil))))) pss_nil)
    (pss_one (ps_ret (pe_tup (pa_cons pe_str (pa_cons (pe_tup (pa_cons (pv 4) (pa_cons (pe_call GH (hr.mono (by decide)) (by rfl) DH.g DH.F.kp DH.b .nil pass0 (pa_cons (pv 0) (pa_cons (pv 1) (pa_cons (pv 2) pa_nil)))) (pa_cons (pe_call GB (hr.mono (by decide)) (by rfl) DB.g DB.F.kp DB.b .nil pass0 (pa_cons (pv 0) (pa_cons (pv 2) (pa_cons pe_int pa_nil)))) pa_nil)))) pa_nil)))))))))), ?_⟩
  refine q_asgI (wl := wl) (ei_draw rfl (by decide) (by decide)) W fun kd H1 D1 k0 k1 => ?_
  have E1 : Drawn wl H H1 := D1
  obtain ⟨kj, rfl⟩ : ∃ n : Nat, kd = (n : Int) := ⟨kd.toNat, by omega⟩
  show tSeq _ _ _ [some (V.ref wl.w), some (.ref N), some (.ref I), some (.int (kj : Int)), none, none] H1
  refine q_asgW (wl := wl) (C := C) (ew_int (d := 4) (ei_num rfl) (by decide) (by decide)) E1.well fun v2 u2 H2 D2 a2 b2 => ?_
  have E2 : Drawn wl H H2 := E1.trans D2
  show tSeq _ _ _ [some (V.ref wl.w), some (.ref N), some (.ref I), some (.int (kj : Int)), some v2, none] H2
  refine q_asgW (wl := wl) (C := C) (R := BdR 80 4) ?many3 E2.well fun v3 u3 H3 D3 a3 b3 => ?_
  rotate_left
  have E3 : Drawn wl H H3 := E2.trans D3
  show tSeq _ _ _ [some (V.ref wl.w), some (.ref N), some (.ref I), some (.int (kj : Int)), some v2, some v3] H3
  refine q_whenD (wl := wl) (b := decide (V.int (kj : Int) = V.int 0)) (et_test (ev_op (ev_var rfl) ev_c (rv_eq rfl))) E3.well (fun c4 H4 D4 => ?_) (fun c4 H4 D4 => ?_)
  · have E4 : Drawn wl H H4 := E3.trans D4
    exact s_retW (C := C) (ew_wr (M := 20000) (ew_c (C := C) (fun _ => .str _) (nam_of (z := "sums") (by decide +kernel))) (ews_cons (ew_var (C := C) rfl (At.drawn (D3.trans D4) a2) b2) (ews_cons (ew_var (C := C) rfl (At.drawn D4 a3) b3) ews_nil)) (by decide) (by decide) (by decide)) E4.well fun v u HH DD a b => k v u HH (E4.trans DD) a b
  have E4 : Drawn wl H H4 := E3.trans D4
  have n4 : (kj : Int) ≠ 0 := fun z => of_decide_eq_false c4 (by rw [z])
  refine q_whenD (wl := wl) (b := decide (V.int (kj : Int) = V.int 1)) (et_test (ev_op (ev_var rfl) ev_c (rv_eq rfl))) E4.well (fun c5 H5 D5 => ?_) (fun c5 H5 D5 => ?_)
  · have E5 : Drawn wl H H5 := E4.trans D5
    exact s_retW (C := C) (ew_wr (M := 20000) (ew_c (C := C) (fun _ => .str _) (nam_of (z := "values") (by decide +kernel))) (ews_cons (ew_var (C := C) rfl (At.drawn ((D3.trans D4).trans D5) a2) b2) (ews_cons (ew_var (C := C) rfl (At.drawn (D4.trans D5) a3) b3) (ews_cons (ew_int (d := 4) (ei_num rfl) (by decide) (by decide)) (ews_cons (ew_nums rfl) ews_nil)))) (by decide) (by decide) (by decide)) E5.well fun v u HH DD a b => k v u HH (E5.trans DD) a b
  have E5 : Drawn wl H H5 := E4.trans D5
  have n5 : (kj : Int) ≠ 1 := fun z => of_decide_eq_false c5 (by rw [z])
  refine q_whenD (wl := wl) (b := decide (V.int (kj : Int) = V.int 2)) (et_test (ev_op (ev_var rfl) ev_c (rv_eq rfl))) E5.well (fun c6 H6 D6 => ?_) (fun c6 H6 D6 => ?_)
  · have E6 : Drawn wl H H6 := E5.trans D6
    exact s_retW (C := C) (ew_wr (M := 20000) (ew_c (C := C) (fun _ => .str _) (nam_of (z := "roots") (by decide +kernel))) (ews_cons (ew_var (C := C) rfl (At.drawn (((D3.trans D4).trans D5).trans D6) a2) b2) (ews_cons (ew_nums rfl) ews_nil)) (by decide) (by decide) (by decide)) E6.well fun v u HH DD a b => k v u HH (E6.trans DD) a b
  have E6 : Drawn wl H H6 := E5.trans D6
  have n6 : (kj : Int) ≠ 2 := fun z => of_decide_eq_false c6 (by rw [z])
  exact s_retW (C := C) (ew_wr (M := 20000) (ew_c (C := C) (fun _ => .str _) (nam_of (z := "heads") (by decide +kernel))) (ews_cons (ew_var (C := C) rfl (At.drawn (((D3.trans D4).trans D5).trans D6) a2) b2) (ews_cons (ew_heads rfl rfl rfl E6.well (hN.keep E6) (hI.keep W E6)) (ews_cons (ew_blocks rfl rfl (by decide) (by decide) E6.well (hI.keep W E6)) ews_nil))) (by decide) (by decide) (by decide)) E6.well fun v u HH DD a b => k v u HH (E6.trans DD) a b
  case many3 =>
    intro G1 D1' Q' q'
    refine ⟨sz_of (show (6 : Nat) ≤ 100000 by decide), fun l hl => ⟨_, rfl, wl, 6, rfl, D1'.well.same (same_upd hl), by decide, by decide, fun d G2 d0 d1 D2' => ?_⟩⟩
    have hl2 : G2 l = some (.lst [.int 1, .int 2, .int 64, .int 65, .int 0, .int 33]) := D2'.keep _ _ (D1'.well.ne hl).1 upd_same
    have D12 : Drawn wl G1 G2 := ((Drawn.refl D1'.well).new hl).trans D2'
    have go : ∀ (i : Nat) (t : Int), d = (i : Int) → ([.int 1, .int 2, .int 64, .int 65, .int 0, .int 33] : List V)[i]? = some (.int t) → t.natAbs < 2 ^ 60 → rIxL K (.ref l) (.int d) G2 Q' := fun i t e1 e2 e3 => ⟨l, _, d, .int t, rfl, rfl, sq_of hl2, by rw [e1]; exact atI_nat e2, q' _ (.int t) G2 D12 (.int t) ⟨by simp [wt], by simp [dep], by simp only [tidy]; omega⟩⟩
    rcases (show d = 0 ∨ d = 1 ∨ d = 2 ∨ d = 3 ∨ d = 4 ∨ d = 5 by omega) with h | h | h | h | h | h
    · exact go 0 1 h rfl (by decide)
    · exact go 1 2 h rfl (by decide)
    · exact go 2 64 h rfl (by decide)
    · exact go 3 65 h rfl (by decide)
    · exact go 4 0 h rfl (by decide)
    · exact go 5 33 h rfl (by decide)
end
end Hs
namespace Hs
open PySem PySem.Spec PyProof.Rows L2 Hu Evl
section
variable {wl : WA} {C : Addr} {σ : L2.St} {H : Hp} {K : PySem.W.Frag} {E : XK} {m d : Nat}
/-- those of a list of data for which a draw is above 0, as a tuple -/
theorem ew_filt {L : Addr} {xs : List V} {us : List U} {iL j : Nat} {vs : List Nat} {k : Int} (h : σ[iL]? = some (some (.ref L))) (W : Well H wl) (hL : H L = some (.lst xs)) (nL : L ≠ wl.w) (al : AtL wl.w C H xs us) (hb : ∀ u ∈ us, Bd u m d 0) (hz : us.length ≤ 100) (hw : ∀ x, wipe ((wipe σ vs).set j (some x)) vs = wipe σ vs)
    (h0 : ∀ x, ((wipe σ vs).set j (some x))[0]? = some (some (.ref wl.w))) (hj : ∀ x, ((wipe σ vs).set j (some x))[j]? = some (some x)) (k0 : 0 < k) (k1 : k < 2 ^ 62) :
    EvW wl C (tCB (rTupQ K) (tCons (tLc (iList K (tVar iL)) (gName j) (tTest (tOp (rI0 fun i j => .bl (decide (j < i))) (tCall spDraw [] E (tCons (tVar 0) (tCons (tC (.int k)) tNil))) (tC (.int 0)))) (tVar j) vs) tNil)) σ H (BdR (us.length * (m + 2) + 3) (d + 1)) := fun H1 D1 Q q => by
  have hl1 : H1 L = some (.lst xs) := D1.keep _ _ nL hL
  have al1 := AtL.drawn D1 al
  have hlen := AtL.length al
  refine ⟨_, h, L, rfl, ⟨xs, sq_of hl1⟩, fun D' hD => ?_⟩
  have nD := (D1.well.ne hD).1
  have nDL : D' ≠ L := fun e => by rw [e, hl1] at hD; cases hD
  refine lc_list (xs := xs) (fun i H' => Drawn wl H1 H' ∧ ∃ (ys : List V) (ws : List U), H' D' = some (.lst ys) ∧ AtL wl.w C H1 ys ws ∧ BdL ws (i * (m + 2)) d 0 ∧ ws.length ≤ i) ⟨(Drawn.refl D1.well).new hD, [], [], upd_same, .nil, ⟨by simp [wtL], by simp [depL], trivial⟩, Nat.le_refl _⟩ (fun i H' _ ⟨D2, _⟩ => sq_of (D2.keep _ _ nL hl1)) ?_ ?_
  · rintro i x H2 hi ⟨D2, ys, ws, hy, aw, bw, lw⟩
    have hi' : i < us.length := by
      have := (List.getElem?_eq_some_iff.mp hi).1
      omega
    refine ⟨hw x, _, h0 x, wl, k, rfl, D2.well, k0, k1, fun e H3 e0 e1 D3 => ⟨e, 0, rfl, rfl, decide (0 < e), rfl, ?_⟩⟩
    obtain ⟨x', hx', ax⟩ := AtL.get al1 (List.getElem?_eq_getElem hi')
    rw [hi] at hx'
    cases hx'
    refine ite2 (fun _ => ?_) (fun _ => ?_)
    · have hl := AtL.length aw
      refine ⟨x, hj x, ys, D3.keep _ _ nD hy, sz_lt (by omega), (D2.trans D3).put D1.well hD, ys ++ [x], ws ++ [us[i]], upd_same, AtL.snoc aw ax, ?_, ?_⟩
      · have := bw.snoc (hb _ (List.getElem_mem hi'))
        rw [show (i + 1) * (m + 2) = i * (m + 2) + (m + 2) by rw [Nat.succ_mul]]
        exact this
      · rw [List.length_append]
        show ws.length + 1 ≤ i + 1
        omega
    · exact ⟨D2.trans D3, ys, ws, D3.keep _ _ nD hy, aw, bw.mono (Nat.mul_le_mul_right _ (by omega)) (Nat.le_refl _) (Nat.le_refl _), by omega⟩
  · rintro H2 ⟨D2, ys, ws, hy, aw, bw, lw⟩
    refine ⟨D', ys, rfl, .inl ⟨sq_of hy, fun p hp => q (.ref p) (.tup ws) _ (D2.new hp) (.tup upd_same (D2.well.ne hp).1 (ex_atl (Ex.new hp) (AtL.drawn D2 aw))) ?_⟩⟩
    rw [hlen] at bw
    exact Bd.tup bw
theorem Nm.atl {H : Hp} {N : Addr} {zs : List Str} : AtL wl.w C H (zs.map V.str) (zs.map U.str) := by
  induction zs with
  | nil => exact .nil
  | cons z zs ih => exact .cons (.str z) ih
theorem ew_filtN {N : Addr} {zs : List Str} {iL j : Nat} {vs : List Nat} {k : Int} (h : σ[iL]? = some (some (.ref N))) (W : Well H wl) (Y : Nm wl H N zs) (hw : ∀ x, wipe ((wipe σ vs).set j (some x)) vs = wipe σ vs)
    (h0 : ∀ x, ((wipe σ vs).set j (some x))[0]? = some (some (.ref wl.w))) (hj : ∀ x, ((wipe σ vs).set j (some x))[j]? = some (some x)) (k0 : 0 < k) (k1 : k < 2 ^ 62) :
    EvW wl C (tCB (rTupQ K) (tCons (tLc (iList K (tVar iL)) (gName j) (tTest (tOp (rI0 fun i j => .bl (decide (j < i))) (tCall spDraw [] E (tCons (tVar 0) (tCons (tC (.int k)) tNil))) (tC (.int 0)))) (tVar j) vs) tNil)) σ H (BdR 300 4) :=
  (ew_filt h W Y.h Y.ne (us := zs.map U.str) (Nm.atl (N := N)) (fun u hu => by
    obtain ⟨z, hz, rfl⟩ := List.mem_map.mp hu
    exact (nam_bd (Y.g z hz)).mono (d' := 3) (Nat.le_refl _) (by decide) (Nat.le_refl _)) (by rw [List.length_map]; have := Y.n3; omega) hw h0 hj k0 k1).mono (bdr_mono (by rw [List.length_map]; have := Y.n3; omega) (by decide))
theorem ew_filtI {I : Addr} {xs : List V} {js : List (Int × Int)} {iL j : Nat} {vs : List Nat} {k : Int} (h : σ[iL]? = some (some (.ref I))) (W : Well H wl) (X : Ids C wl H I xs js) (hw : ∀ x, wipe ((wipe σ vs).set j (some x)) vs = wipe σ vs)
    (h0 : ∀ x, ((wipe σ vs).set j (some x))[0]? = some (some (.ref wl.w))) (hj : ∀ x, ((wipe σ vs).set j (some x))[j]? = some (some x)) (k0 : 0 < k) (k1 : k < 2 ^ 62) :
    EvW wl C (tCB (rTupQ K) (tCons (tLc (iList K (tVar iL)) (gName j) (tTest (tOp (rI0 fun i j => .bl (decide (j < i))) (tCall spDraw [] E (tCons (tVar 0) (tCons (tC (.int k)) tNil))) (tC (.int 0)))) (tVar j) vs) tNil)) σ H (BdR 3000 4) :=
  (ew_filt h W X.h X.ne (X.atl W) (fun u hu => by
    obtain ⟨z, hz, rfl⟩ := List.mem_map.mp hu
    exact (idV_ok (X.b z hz)).1.mono (d' := 3) (Nat.le_refl _) (by decide) (Nat.le_refl _)) (by rw [List.length_map]; have := X.n.2; omega) hw h0 hj k0 k1).mono (bdr_mono (by rw [List.length_map]; have := X.n.2; omega) (by decide))
/-- (epoch,) + found[1], found a word and its rest -/
theorem ew_found {ie jf : Nat} {v : V} {u : U} {ve : V} {ue : U} {M : Nat} (he : σ[ie]? = some (some ve)) (ae : At wl.w C H ve ue) (be : Bd ue 80 4 0) (hf : σ[jf]? = some (some v)) (af : At wl.w C H v u) (bf : WR M u) (hM : M ≤ 100000) :
    EvW wl C (tTup (tCons (tOp (rIxT K) (tVar jf) (tC (.int 0))) (tCons (tOp (rCatA K) (tTup (tCons (tVar ie) tNil)) (tOp (rIxT K) (tVar jf) (tC (.int 1)))) tNil))) σ H (WR (82 + M)) := fun H1 D1 Q q => by
  obtain ⟨a, rs, rfl, ba, br, l1⟩ := bf
  obtain ⟨p, x, y, rfl, hp, hx, hy⟩ := pair_at (At.drawn D1 af)
  have ae1 := At.drawn D1 ae
  obtain ⟨o, ho⟩ := D1.well.at
  have hlr : 2 * rs.length ≤ M := Nat.le_trans (wt_len rs) br.w
  refine ⟨_, hf, p, _, _, x, rfl, rfl, st_of hp, rfl, _, he, sz_of (show (1 : Nat) ≤ 100000 by decide), fun t ht => ⟨_, hf, p, _, _, y, rfl, rfl, st_of (Ex.new ht _ _ hp), rfl, ?_⟩⟩
  have nt := (D1.well.ne ht).1
  have D2 : Drawn wl H1 (upd H1 t (.tup [ve])) := (Drawn.refl D1.well).new ht
  refine cat_at (w := wl.w) (C := C) ⟨o, Ex.new ht _ _ ho⟩ (us1 := [ue]) (.tup upd_same nt (.cons (ex_at (Ex.new ht) ae1) .nil)) (ex_at (Ex.new ht) hy) (by rw [List.length_singleton]; omega) fun v' H3 e3 a3 => ?_
  refine ⟨sz_of (show (2 : Nat) ≤ 100000 by decide), fun r hr => q (.ref r) (.tup [a, .tup ([ue] ++ rs)]) _ ((D2.same e3).new hr) (.tup upd_same (((D2.same e3).well).ne hr).1 (.cons (ex_at (((Ex.new ht).trans e3).trans (Ex.new hr)) hx) (.cons (ex_at (Ex.new hr) a3) .nil))) ⟨a, _, rfl, ba, ?_, by simp⟩⟩
  exact (BdL.append (.one be) br).mono (by omega) (Nat.le_refl _) (Nat.le_refl _)
end
section
variable {P : Program} {wd : World} {K : PySem.W.Frag} {mg : Str → Option Value} {base : Heap} {C : Addr} {fD : Addr} {dD : FuncData}
def spPlain (C : Addr) : Sp := fun vs H Q _ => ∃ (wl : WA) (N I : Addr) (zs : List Str) (xs : List V) (js : List (Int × Int)) (kj : Nat), vs = [.ref wl.w, .ref N, .ref I, .int (kj : Int)] ∧ Well H wl ∧ Nm wl H N zs ∧ Ids C wl H I xs js ∧ kj ≤ 8 ∧ ∀ (v : V) (u : U) (H' : Hp), Drawn wl H H' → At wl.w C H' v u → WR 4000 u → Q v H'
theorem scPlainM : FnScope ["well", "names", "ids", "kind", "name", "one", "stamp", "other"] ["well", "names", "ids", "kind"] (defScope lPlain) := ⟨rfl, rfl, rfl, by decide +kernel, rfl, by decide +kernel, by decide +kernel⟩
set_option maxHeartbeats 1000000 in
theorem ok_PlainM {f fS fR fT : Addr} {fd dS dR dT : FuncData} (F : Fun K "_law_plain_to_hand" "_law_plain_to_hand" lPlain f fd) (B : Bt mg) (D : Dd P wd K mg base fD dD) (DS : Df K mg "_law_stamp" lStamp ["well"] fS dS) (GS : FnOk P wd K mg base CX0 5 fS dS ["well"] spStampL)
    (DR : Df K mg "_law_row" lRow ["well", "ids"] fR dR) (GR : FnOk P wd K mg base CX0 4 fR dR ["well", "ids"] (spRow C))
    (DT : Df K mg "_law_string" sString ["well", "many"] fT dT) (GT : FnOk P wd K mg base CX0 4 fT dT ["well", "many"] spString) : FnOk P wd K mg base CX0 7 f fd ["well", "names", "ids", "kind"] (spPlain C) := by
  refine F.ok scPlainM (fun vs H Q E h => ?_) (fun cdv A outer s H vs Q E hr h => ?_)
  · obtain ⟨wl, N, I, zs, xs, js, kj, rfl, _⟩ := h
    rfl
  obtain ⟨wl, N, I, zs, xs, js, kj, rfl, W, hN, hI, k8, k⟩ := h
  refine ⟨_, pss_cons (ps_set (i := 4) scPlainM.nd rfl (.inl rfl) (pe_ix (show IxR _ (rIxL K) from ix_list) (pv 1) (pe_draw D hr (by decide) (by rfl) (pv 0) (pe_callB (show CallR _ _ (rLenQ K) from call_len_seq) (by rfl) B.len PySem.boot_len (pa_cons (pv 1) pa_nil))) (fun _ _ => rfl)))
    (pss_cons (ps_set (i := 5) scPlainM.nd rfl (.inl rfl) (pe_ix (show IxR _ (rIxL K) from ix_list) (pv 2) (pe_draw D hr (by decide) (by rfl) (pv 0) (pe_callB (show CallR _ _ (rLenQ K) from call_len_seq) (by rfl) B.len PySem.boot_len (pa_cons (pv 2) pa_nil))) (fun _ _ => rfl)))
    (pss_cons (ps_set (i := 6) scPlainM.nd rfl (.inl rfl) (pe_call GS (hr.mono (by decide)) (by rfl) DS.g DS.F.kp DS.b .nil pass0 (pa_cons (pv 0) pa_nil)))
    (pss_cons (ps_if (pt_cmpR op_eq (pv 3) pe_int (nomark _)) (pss_one (ps_ret (pe_tup (pa_cons pe_str (pa_cons (pe_tup (pa_cons (pv 4) (pa_cons (pv 6) (pa_cons (pe_call GR (hr.mono (by decide)) (by rfl) DR.g DR.F.kp DR.b .nil pass0 (pa_cons (pv 0) (pa_cons (pv 2) pa_nil))) pa_nil)))) pa_nil))))) pss_nil)
    (pss_cons (ps_if (pt_cmpR op_eq (pv 3) pe_int (nomark _)) (pss_one (ps_ret (pe_tup (pa_cons pe_str (pa_cons (pe_tup (pa_cons (pe_callTy (show CallR _ _ (rTupQ K) from call_tuple_of) (by rfl) B.tup boot_tuple' (pa_cons (pe_lc (own := [("other", 7)]) (g := gName 7) rfl scPlainM.nd (pi_list (pv 1)) (blkOk_by (N := ["well", "names", "ids", "kind", "name", "one", "stamp", "other"]) (sc := defScope lPlain) (by decide +kernel)) (fun _ _ _ _ _ => pg_name (i := 7) scPlainM.nd rfl (Or.inl rfl)) (fun _ _ _ _ _ => pts_one (pt_cmpR op_gt (pe_call (D.ok.mono (by decide)) hr (by rfl) D.g D.kp D.b .nil pass0 (pa_cons (pv 0) (pa_cons pe_int pa_nil))) pe_int (nomark _))) (fun _ _ _ _ _ => pv 7)) pa_nil)) pa_nil)) pa_nil))))) pss_nil)
    (pss_cons (ps_if (pt_cmpR op_eq (pv 3) pe_int (nomark _)) (pss_one (ps_ret (pe_tup (pa_cons pe_str (pa_cons (pe_tup (pa_cons (pv 5) (pa_cons (pe_call GT (hr.mono (by decide)) (by rfl) DT.g DT.F.kp DT.b .nil pass0 (pa_cons (pv 0) (pa_cons (pe_op op_add pe_int (pe_draw D hr (by decide) (by rfl) (pv 0) pe_int)) pa_nil))) pa_nil))) pa_nil))))) pss_nil)
    (pss_cons (ps_if (pt_cmpR op_le (pv 3) pe_int (nomark _)) (pss_one (ps_ret (pe_tup (pa_cons (pe_ix (show IxR _ (rIxL K) from ix_list) (pe_lst (pa_cons pe_str (pa_cons pe_str pa_nil))) (pe_op op_sub (pv 3) pe_int) (fun _ _ => rfl)) (pa_cons (pe_tup (pa_cons (pv 5) pa_nil)) pa_nil))))) pss_nil)
    (pss_cons (ps_if (pt_cmpR op_eq (pv 3) pe_int (nomark _)) (pss_one (ps_ret (pe_tup (pa_cons pe_str (pa_cons (pe_tup (pa_cons (pv 4) (pa_cons (pv 6) pa_nil))) pa_nil))))) pss_nil)
    (pss_cons (ps_if (pt_cmpR op_eq (pv 3) pe_int (nomark _)) (pss_one (ps_ret (pe_tup (pa_cons pe_str (pa_cons (pe_tup (pa_cons (pv 4) (pa_cons (pv 6) (pa_cons (pe_callTy (show CallR _ _ (rTupQ K) from call_tuple_of) (by rfl) B.tup boot_tuple' (pa_cons (pe_lc (own := [("other", 7)]) (g := gName 7) rfl scPlainM.nd (pi_list (pv 2)) (blkOk_by (N := ["well", "names", "ids", "kind", "name", "one", "stamp", "other"]) (sc := defScope lPlain) (by decide +kernel)) (fun _ _ _ _ _ => pg_name (i := 7) scPlainM.nd rfl (Or.inl rfl)) (fun _ _ _ _ _ => pts_one (pt_cmpR op_gt (pe_call (D.ok.mono (by decide)) hr (by rfl) D.g D.kp D.b .nil pass0 (pa_cons (pv 0) (pa_cons pe_int pa_nil))) pe_int (nomark _))) (fun _ _ _ _ _ => pv 7)) pa_nil)) pa_nil)))) pa_nil))))) pss_nil)
    (pss_cons (ps_if (pt_cmpR op_eq (pv 3) pe_int (nomark _)) (pss_one (ps_ret (pe_tup (pa_cons pe_str (pa_cons (pe_tup (pa_cons (pv 4) (pa_cons (pv 6) (pa_cons (pe_call GR (hr.mono (by decide)) (by rfl) DR.g DR.F.kp DR.b .nil pass0 (pa_cons (pv 0) (pa_cons (pv 2) pa_nil))) pa_nil)))) pa_nil))))) pss_nil)
    (pss_one (ps_ret (pe_tup (pa_cons pe_str (pa_cons (pe_tup (pa_cons (pv 4) pa_nil)) pa_nil)))))))))))))), ?_⟩
  refine q_asgW (wl := wl) (C := C) ((ew_name rfl rfl hN).mono fun u h => name_bd h) W fun v1 u1 H1 D1 a1 b1 => ?_
  have E1 : Drawn wl H H1 := D1
  show tSeq _ _ _ [some (V.ref wl.w), some (.ref N), some (.ref I), some (.int (kj : Int)), some v1, none, none, none] H1
  refine q_asgW (wl := wl) (C := C) (ew_id rfl rfl E1.well (hI.keep W E1)) E1.well fun v2 u2 H2 D2 a2 b2 => ?_
  have E2 : Drawn wl H H2 := E1.trans D2
  show tSeq _ _ _ [some (V.ref wl.w), some (.ref N), some (.ref I), some (.int (kj : Int)), some v1, some v2, none, none] H2
  refine q_asgW (wl := wl) (C := C) (ew_stamp rfl) E2.well fun v3 u3 H3 D3 a3 b3 => ?_
  have E3 : Drawn wl H H3 := E2.trans D3
  show tSeq _ _ _ [some (V.ref wl.w), some (.ref N), some (.ref I), some (.int (kj : Int)), some v1, some v2, some v3, none] H3
  refine q_whenD (wl := wl) (b := decide (V.int (kj : Int) = V.int 0)) (et_test (ev_op (ev_var rfl) ev_c (rv_eq rfl))) E3.well (fun c4 H4 D4 => ?_) (fun c4 H4 D4 => ?_)
  · have E4 : Drawn wl H H4 := E3.trans D4
    exact s_retW (C := C) (ew_wr (M := 4000) (ew_c (C := C) (fun _ => .str _) (nam_of (z := "told") (by decide +kernel))) (ews_cons (ew_var (C := C) rfl (At.drawn ((D2.trans D3).trans D4) a1) b1) (ews_cons (ew_var (C := C) rfl (At.drawn D4 a3) b3) (ews_cons (ew_row rfl rfl E4.well (hI.keep W E4)) ews_nil))) (by decide) (by decide) (by decide)) E4.well fun v u HH DD a b => k v u HH (E4.trans DD) a b
  have E4 : Drawn wl H H4 := E3.trans D4
  have n4 : (kj : Int) ≠ 0 := fun z => of_decide_eq_false c4 (by rw [z])
  refine q_whenD (wl := wl) (b := decide (V.int (kj : Int) = V.int 1)) (et_test (ev_op (ev_var rfl) ev_c (rv_eq rfl))) E4.well (fun c5 H5 D5 => ?_) (fun c5 H5 D5 => ?_)
  · have E5 : Drawn wl H H5 := E4.trans D5
    exact s_retW (C := C) (ew_wr (M := 4000) (ew_c (C := C) (fun _ => .str _) (nam_of (z := "names") (by decide +kernel))) (ews_cons (ew_filtN rfl E5.well (hN.keep E5) (fun _ => rfl) (fun _ => rfl) (fun _ => rfl) (by decide) (by decide)) ews_nil) (by decide) (by decide) (by decide)) E5.well fun v u HH DD a b => k v u HH (E5.trans DD) a b
  have E5 : Drawn wl H H5 := E4.trans D5
  have n5 : (kj : Int) ≠ 1 := fun z => of_decide_eq_false c5 (by rw [z])
  refine q_whenD (wl := wl) (b := decide (V.int (kj : Int) = V.int 2)) (et_test (ev_op (ev_var rfl) ev_c (rv_eq rfl))) E5.well (fun c6 H6 D6 => ?_) (fun c6 H6 D6 => ?_)
  · have E6 : Drawn wl H H6 := E5.trans D6
    exact s_retW (C := C) (ew_wr (M := 4000) (ew_c (C := C) (fun _ => .str _) (nam_of (z := "block") (by decide +kernel))) (ews_cons (ew_var (C := C) rfl (At.drawn (((D3.trans D4).trans D5).trans D6) a2) b2) (ews_cons (ew_str8 (d := 4) rfl (ei_add (ei_draw rfl (by decide) (by decide)))) ews_nil)) (by decide) (by decide) (by decide)) E6.well fun v u HH DD a b => k v u HH (E6.trans DD) a b
  have E6 : Drawn wl H H6 := E5.trans D6
  have n6 : (kj : Int) ≠ 2 := fun z => of_decide_eq_false c6 (by rw [z])
  refine q_whenD (wl := wl) (b := decide ((kj : Int) ≤ 4)) (et_test (ev_op (ev_var rfl) ev_c rv_I0)) E6.well (fun c7 H7 D7 => ?_) (fun c7 H7 D7 => ?_)
  · have E7 : Drawn wl H H7 := E6.trans D7
    have n7 : (kj : Int) ≤ 4 := of_decide_eq_true c7
    exact s_retW (C := C) (ew_wr (M := 4000) (ew_pick (zs := ["none", "have"]) (j := kj - 3) (fun G => el_lst (ea_cons ev_c (ea_cons ev_c (ea_nil))) (by show (2 : Nat) ≤ 100000; decide)) (fun G => ev_is (ev_op (ev_var rfl) ev_c rv_I0) (by show V.int ((kj : Int) - 3) = V.int ((kj - 3 : Nat) : Int); congr 1; omega)) (by show _ < 2; omega) (by decide +kernel)) (ews_cons (ew_var (C := C) rfl (At.drawn ((((D3.trans D4).trans D5).trans D6).trans D7) a2) b2) ews_nil) (by decide) (by decide) (by decide)) E7.well fun v u HH DD a b => k v u HH (E7.trans DD) a b
  have E7 : Drawn wl H H7 := E6.trans D7
  have n7 : ¬ (kj : Int) ≤ 4 := of_decide_eq_false c7
  refine q_whenD (wl := wl) (b := decide (V.int (kj : Int) = V.int 5)) (et_test (ev_op (ev_var rfl) ev_c (rv_eq rfl))) E7.well (fun c8 H8 D8 => ?_) (fun c8 H8 D8 => ?_)
  · have E8 : Drawn wl H H8 := E7.trans D8
    exact s_retW (C := C) (ew_wr (M := 4000) (ew_c (C := C) (fun _ => .str _) (nam_of (z := "kept") (by decide +kernel))) (ews_cons (ew_var (C := C) rfl (At.drawn ((((((D2.trans D3).trans D4).trans D5).trans D6).trans D7).trans D8) a1) b1) (ews_cons (ew_var (C := C) rfl (At.drawn ((((D4.trans D5).trans D6).trans D7).trans D8) a3) b3) ews_nil)) (by decide) (by decide) (by decide)) E8.well fun v u HH DD a b => k v u HH (E8.trans DD) a b
  have E8 : Drawn wl H H8 := E7.trans D8
  have n8 : (kj : Int) ≠ 5 := fun z => of_decide_eq_false c8 (by rw [z])
  refine q_whenD (wl := wl) (b := decide (V.int (kj : Int) = V.int 6)) (et_test (ev_op (ev_var rfl) ev_c (rv_eq rfl))) E8.well (fun c9 H9 D9 => ?_) (fun c9 H9 D9 => ?_)
  · have E9 : Drawn wl H H9 := E8.trans D9
    exact s_retW (C := C) (ew_wr (M := 4000) (ew_c (C := C) (fun _ => .str _) (nam_of (z := "lacks") (by decide +kernel))) (ews_cons (ew_var (C := C) rfl (At.drawn (((((((D2.trans D3).trans D4).trans D5).trans D6).trans D7).trans D8).trans D9) a1) b1) (ews_cons (ew_var (C := C) rfl (At.drawn (((((D4.trans D5).trans D6).trans D7).trans D8).trans D9) a3) b3) (ews_cons (ew_filtI rfl E9.well (hI.keep W E9) (fun _ => rfl) (fun _ => rfl) (fun _ => rfl) (by decide) (by decide)) ews_nil))) (by decide) (by decide) (by decide)) E9.well fun v u HH DD a b => k v u HH (E9.trans DD) a b
  have E9 : Drawn wl H H9 := E8.trans D9
  have n9 : (kj : Int) ≠ 6 := fun z => of_decide_eq_false c9 (by rw [z])
  refine q_whenD (wl := wl) (b := decide (V.int (kj : Int) = V.int 7)) (et_test (ev_op (ev_var rfl) ev_c (rv_eq rfl))) E9.well (fun c10 H10 D10 => ?_) (fun c10 H10 D10 => ?_)
  · have E10 : Drawn wl H H10 := E9.trans D10
    exact s_retW (C := C) (ew_wr (M := 4000) (ew_c (C := C) (fun _ => .str _) (nam_of (z := "granted") (by decide +kernel))) (ews_cons (ew_var (C := C) rfl (At.drawn ((((((((D2.trans D3).trans D4).trans D5).trans D6).trans D7).trans D8).trans D9).trans D10) a1) b1) (ews_cons (ew_var (C := C) rfl (At.drawn ((((((D4.trans D5).trans D6).trans D7).trans D8).trans D9).trans D10) a3) b3) (ews_cons (ew_row rfl rfl E10.well (hI.keep W E10)) ews_nil))) (by decide) (by decide) (by decide)) E10.well fun v u HH DD a b => k v u HH (E10.trans DD) a b
  have E10 : Drawn wl H H10 := E9.trans D10
  have n10 : (kj : Int) ≠ 7 := fun z => of_decide_eq_false c10 (by rw [z])
  exact s_retW (C := C) (ew_wr (M := 4000) (ew_c (C := C) (fun _ => .str _) (nam_of (z := "freed") (by decide +kernel))) (ews_cons (ew_var (C := C) rfl (At.drawn ((((((((D2.trans D3).trans D4).trans D5).trans D6).trans D7).trans D8).trans D9).trans D10) a1) b1) ews_nil) (by decide) (by decide) (by decide)) E10.well fun v u HH DD a b => k v u HH (E10.trans DD) a b
end
end Hs
namespace Hs
open PySem PySem.Spec PyProof.Rows L2 Hu Evl
theorem wr_mono {M M' : Nat} {u : U} (h : M ≤ M') : WR M u → WR M' u := fun ⟨a, rs, e, ba, br, l⟩ => ⟨a, rs, e, ba, br.mono h (Nat.le_refl _) (Nat.le_refl _), l⟩
section
variable {P : Program} {wd : World} {K : PySem.W.Frag} {mg : Str → Option Value} {base : Heap} {C : Addr} {fD : Addr} {dD : FuncData}
theorem scToHandM : FnScope ["well", "names", "ids", "kind", "epoch", "found", "stamp", "members", "rest", "ahead"] ["well", "names", "ids"] (defScope lToHand) := ⟨rfl, rfl, rfl, by decide +kernel, rfl, by decide +kernel, by decide +kernel⟩
set_option maxHeartbeats 1000000 in
theorem ok_ToHandM {f fN fS fV fM fH fB fP : Addr} {fd dN dS dV dM dH dB dP : FuncData} (F : Fun K "_law_to_hand" "_law_to_hand" lToHand f fd) (B : Bt mg) (D : Dd P wd K mg base fD dD) (DN : Df K mg "_law_number" lNumber ["well"] fN dN)
    (DS : Df K mg "_law_stamp" lStamp ["well"] fS dS) (GS : FnOk P wd K mg base CX0 5 fS dS ["well"] spStampL)
    (DV : Df K mg "_law_vote" lVoteL ["well"] fV dV) (GV : FnOk P wd K mg base CX0 6 fV dV ["well"] (spVoteB C))
    (DM : Df K mg "_law_members" lMembers ["well"] fM dM) (GM : FnOk P wd K mg base CX0 4 fM dM ["well"] spMem)
    (DH : Df K mg "_law_heads" lHeads ["well", "names", "ids"] fH dH) (GH : FnOk P wd K mg base CX0 6 fH dH ["well", "names", "ids"] (spHeads C))
    (DB : Df K mg "_law_blocks" lBlocks ["well", "ids", "share"] fB dB) (GB : FnOk P wd K mg base CX0 6 fB dB ["well", "ids", "share"] (spBlocks C))
    (DP : Df K mg "_law_plain_to_hand" lPlain ["well", "names", "ids", "kind"] fP dP) (GP : FnOk P wd K mg base CX0 7 fP dP ["well", "names", "ids", "kind"] (spPlain C)) : FnOk P wd K mg base CX0 8 f fd ["well", "names", "ids"] (spWR3 C) := by
  have GN : FnOk P wd K mg base CX0 4 fN dN ["well"] spNumber := ok_number DN.F D
  refine F.ok scToHandM (fun vs H Q E h => ?_) (fun cdv A outer s H vs Q E hr h => ?_)
  · obtain ⟨wl, N, I, zs, xs, js, rfl, _⟩ := h
    rfl
  obtain ⟨wl, N, I, zs, xs, js, rfl, W, hN, hI, k⟩ := h
  refine ⟨_, pss_cons (ps_set (i := 3) scToHandM.nd rfl (.inl rfl) (pe_draw D hr (by decide) (by rfl) (pv 0) pe_int))
    (pss_cons (ps_set (i := 4) scToHandM.nd rfl (.inl rfl) (pe_call GN (hr.mono (by decide)) (by rfl) DN.g DN.F.kp DN.b .nil pass0 (pa_cons (pv 0) pa_nil)))
    (pss_cons (ps_if (pt_cmpR op_eq (pv 3) pe_int (nomark _)) (pss_one (ps_ret (pe_tup (pa_cons pe_str (pa_cons (pe_tup (pa_cons (pv 4) pa_nil)) pa_nil))))) pss_nil)
    (pss_cons (ps_if (pt_cmpR op_le (pv 3) pe_int (nomark _)) (pss_cons (ps_set (i := 5) scToHandM.nd rfl (.inl rfl) (pe_call GP (hr.mono (by decide)) (by rfl) DP.g DP.F.kp DP.b .nil pass0 (pa_cons (pv 0) (pa_cons (pv 1) (pa_cons (pv 2) (pa_cons (pv 3) pa_nil)))))) (pss_one (ps_ret (pe_tup (pa_cons (pe_ix (show IxR _ (rIxT K) from ix_tup) (pv 5) pe_int (fun _ _ => rfl)) (pa_cons (pe_op (show OpR _ _ (rCatA K) from op_catA) (pe_tup (pa_cons (pv 4) pa_nil)) (pe_ix (show IxR _ (rIxT K) from ix_tup) (pv 5) pe_int (fun _ _ => rfl))) pa_nil)))))) pss_nil)
    (pss_cons (ps_if (pt_cmpR op_le (pv 3) pe_int (nomark _)) (pss_one (ps_ret (pe_tup (pa_cons (pe_ix (show IxR _ (rIxL K) from ix_list) (pe_lst (pa_cons pe_str (pa_cons pe_str pa_nil))) (pe_op op_sub (pv 3) pe_int) (fun _ _ => rfl)) (pa_cons (pe_tup (pa_cons (pv 4) pa_nil)) pa_nil))))) pss_nil)
    (pss_cons (ps_set (i := 6) scToHandM.nd rfl (.inl rfl) (pe_call GS (hr.mono (by decide)) (by rfl) DS.g DS.F.kp DS.b .nil pass0 (pa_cons (pv 0) pa_nil)))
    (pss_cons (ps_if (pt_cmpR op_eq (pv 3) pe_int (nomark _)) (pss_one (ps_ret (pe_tup (pa_cons pe_str (pa_cons (pe_tup (pa_cons (pv 4) (pa_cons (pv 6) (pa_cons (pe_call GV (hr.mono (by decide)) (by rfl) DV.g DV.F.kp DV.b .nil pass0 (pa_cons (pv 0) pa_nil)) pa_nil)))) pa_nil))))) pss_nil)
    (pss_cons (ps_if (pt_cmpR op_le (pv 3) pe_int (nomark _)) (pss_one (ps_ret (pe_tup (pa_cons (pe_ix (show IxR _ (rIxL K) from ix_list) (pe_lst (pa_cons pe_str (pa_cons pe_str pa_nil))) (pe_op op_sub (pv 3) pe_int) (fun _ _ => rfl)) (pa_cons (pe_tup (pa_cons (pv 4) (pa_cons (pv 6) pa_nil))) pa_nil))))) pss_nil)
    (pss_cons (ps_set (i := 7) scToHandM.nd rfl (.inl rfl) (pe_call GM (hr.mono (by decide)) (by rfl) DM.g DM.F.kp DM.b .nil pass0 (pa_cons (pv 0) pa_nil)))
    (pss_cons (ps_if (pt_cmpR op_le (pv 3) pe_int (nomark _)) (pss_cons (ps_set (i := 8) scToHandM.nd rfl (.inl rfl) (pe_tup (pa_cons (pv 4) (pa_cons (pv 7) (pa_cons (pe_call GH (hr.mono (by decide)) (by rfl) DH.g DH.F.kp DH.b .nil pass0 (pa_cons (pv 0) (pa_cons (pv 1) (pa_cons (pv 2) pa_nil)))) (pa_cons (pe_call GB (hr.mono (by decide)) (by rfl) DB.g DB.F.kp DB.b .nil pass0 (pa_cons (pv 0) (pa_cons (pv 2) (pa_cons pe_int pa_nil)))) pa_nil)))))) (pss_one (ps_ret (pe_tup (pa_cons (pe_ix (show IxR _ (rIxL K) from ix_list) (pe_lst (pa_cons pe_str (pa_cons pe_str pa_nil))) (pe_op op_sub (pv 3) pe_int) (fun _ _ => rfl)) (pa_cons (pv 8) pa_nil)))))) pss_nil)
    (pss_cons (ps_set (i := 9) scToHandM.nd rfl (.inl rfl) (pe_ix (show IxR _ (rIxL K) from ix_list) (pe_lst (pa_cons (pe_tup pa_nil) (pa_cons (pe_call GM (hr.mono (by decide)) (by rfl) DM.g DM.F.kp DM.b .nil pass0 (pa_cons (pv 0) pa_nil)) pa_nil))) (pe_draw D hr (by decide) (by rfl) (pv 0) pe_int) (fun _ _ => rfl)))
    (pss_one (ps_ret (pe_tup (pa_cons pe_str (pa_cons (pe_tup (pa_cons (pv 4) (pa_cons (pe_call GN (hr.mono (by decide)) (by rfl) DN.g DN.F.kp DN.b .nil pass0 (pa_cons (pv 0) pa_nil)) (pa_cons (pv 7) (pa_cons (pv 9) pa_nil))))) pa_nil))))))))))))))), ?_⟩
  refine q_asgI (wl := wl) (ei_draw rfl (by decide) (by decide)) W fun kd H1 D1 k0 k1 => ?_
  have E1 : Drawn wl H H1 := D1
  obtain ⟨kj, rfl⟩ : ∃ n : Nat, kd = (n : Int) := ⟨kd.toNat, by omega⟩
  show tSeq _ _ _ [some (V.ref wl.w), some (.ref N), some (.ref I), some (.int (kj : Int)), none, none, none, none, none, none] H1
  refine q_asgW (wl := wl) (C := C) (ew_int (d := 4) (ei_num rfl) (by decide) (by decide)) E1.well fun v2 u2 H2 D2 a2 b2 => ?_
  have E2 : Drawn wl H H2 := E1.trans D2
  show tSeq _ _ _ [some (V.ref wl.w), some (.ref N), some (.ref I), some (.int (kj : Int)), some v2, none, none, none, none, none] H2
  refine q_whenD (wl := wl) (b := decide (V.int (kj : Int) = V.int 17)) (et_test (ev_op (ev_var rfl) ev_c (rv_eq rfl))) E2.well (fun c3 H3 D3 => ?_) (fun c3 H3 D3 => ?_)
  · have E3 : Drawn wl H H3 := E2.trans D3
    exact s_retW (C := C) (ew_wr (M := 20000) (ew_c (C := C) (fun _ => .str _) (nam_of (z := "behind") (by decide +kernel))) (ews_cons (ew_var (C := C) rfl (At.drawn D3 a2) b2) ews_nil) (by decide) (by decide) (by decide)) E3.well fun v u HH DD a b => k v u HH (E3.trans DD) a b
  have E3 : Drawn wl H H3 := E2.trans D3
  have n3 : (kj : Int) ≠ 17 := fun z => of_decide_eq_false c3 (by rw [z])
  refine q_whenD (wl := wl) (b := decide ((kj : Int) ≤ 8)) (et_test (ev_op (ev_var rfl) ev_c rv_I0)) E3.well (fun c4 H4 D4 => ?_) (fun c4 H4 D4 => ?_)
  · have E4 : Drawn wl H H4 := E3.trans D4
    have n4 : (kj : Int) ≤ 8 := of_decide_eq_true c4
    refine q_asgW (wl := wl) (C := C) (R := WR 4000) (fun G DG Q' q' => ⟨_, rfl, _, rfl, _, rfl, _, rfl, wl, N, I, zs, xs, js, kj, rfl, DG.well, (hN.keep E4).keep DG, (hI.keep W E4).keep E4.well DG, by omega, fun v u H' D' a b => q' v u H' D' a b⟩) E4.well fun v5 u5 H5 D5 a5 b5 => ?_
    have E5 : Drawn wl H H5 := E4.trans D5
    exact s_retW (C := C) (ew_found (M := 4000) rfl (At.drawn ((D3.trans D4).trans D5) a2) b2 rfl a5 b5 (by decide)) E5.well fun v u HH DD a b => k v u HH (E5.trans DD) a (wr_mono (by decide) b)
  have E4 : Drawn wl H H4 := E3.trans D4
  have n4 : ¬ (kj : Int) ≤ 8 := of_decide_eq_false c4
  refine q_whenD (wl := wl) (b := decide ((kj : Int) ≤ 10)) (et_test (ev_op (ev_var rfl) ev_c rv_I0)) E4.well (fun c5 H5 D5 => ?_) (fun c5 H5 D5 => ?_)
  · have E5 : Drawn wl H H5 := E4.trans D5
    have n5 : (kj : Int) ≤ 10 := of_decide_eq_true c5
    exact s_retW (C := C) (ew_wr (M := 20000) (ew_pick (zs := ["leased", "installed"]) (j := kj - 9) (fun G => el_lst (ea_cons ev_c (ea_cons ev_c (ea_nil))) (by show (2 : Nat) ≤ 100000; decide)) (fun G => ev_is (ev_op (ev_var rfl) ev_c rv_I0) (by show V.int ((kj : Int) - 9) = V.int ((kj - 9 : Nat) : Int); congr 1; omega)) (by show _ < 2; omega) (by decide +kernel)) (ews_cons (ew_var (C := C) rfl (At.drawn ((D3.trans D4).trans D5) a2) b2) ews_nil) (by decide) (by decide) (by decide)) E5.well fun v u HH DD a b => k v u HH (E5.trans DD) a b
  have E5 : Drawn wl H H5 := E4.trans D5
  have n5 : ¬ (kj : Int) ≤ 10 := of_decide_eq_false c5
  refine q_asgW (wl := wl) (C := C) (ew_stamp rfl) E5.well fun v6 u6 H6 D6 a6 b6 => ?_
  have E6 : Drawn wl H H6 := E5.trans D6
  show tSeq _ _ _ [some (V.ref wl.w), some (.ref N), some (.ref I), some (.int (kj : Int)), some v2, none, some v6, none, none, none] H6
  refine q_whenD (wl := wl) (b := decide (V.int (kj : Int) = V.int 11)) (et_test (ev_op (ev_var rfl) ev_c (rv_eq rfl))) E6.well (fun c7 H7 D7 => ?_) (fun c7 H7 D7 => ?_)
  · have E7 : Drawn wl H H7 := E6.trans D7
    exact s_retW (C := C) (ew_wr (M := 20000) (ew_c (C := C) (fun _ => .str _) (nam_of (z := "promised") (by decide +kernel))) (ews_cons (ew_var (C := C) rfl (At.drawn ((((D3.trans D4).trans D5).trans D6).trans D7) a2) b2) (ews_cons (ew_var (C := C) rfl (At.drawn D7 a6) b6) (ews_cons (ew_vote rfl) ews_nil))) (by decide) (by decide) (by decide)) E7.well fun v u HH DD a b => k v u HH (E7.trans DD) a b
  have E7 : Drawn wl H H7 := E6.trans D7
  have n7 : (kj : Int) ≠ 11 := fun z => of_decide_eq_false c7 (by rw [z])
  refine q_whenD (wl := wl) (b := decide ((kj : Int) ≤ 13)) (et_test (ev_op (ev_var rfl) ev_c rv_I0)) E7.well (fun c8 H8 D8 => ?_) (fun c8 H8 D8 => ?_)
  · have E8 : Drawn wl H H8 := E7.trans D8
    have n8 : (kj : Int) ≤ 13 := of_decide_eq_true c8
    exact s_retW (C := C) (ew_wr (M := 20000) (ew_pick (zs := ["voted", "beaten"]) (j := kj - 12) (fun G => el_lst (ea_cons ev_c (ea_cons ev_c (ea_nil))) (by show (2 : Nat) ≤ 100000; decide)) (fun G => ev_is (ev_op (ev_var rfl) ev_c rv_I0) (by show V.int ((kj : Int) - 12) = V.int ((kj - 12 : Nat) : Int); congr 1; omega)) (by show _ < 2; omega) (by decide +kernel)) (ews_cons (ew_var (C := C) rfl (At.drawn (((((D3.trans D4).trans D5).trans D6).trans D7).trans D8) a2) b2) (ews_cons (ew_var (C := C) rfl (At.drawn (D7.trans D8) a6) b6) ews_nil)) (by decide) (by decide) (by decide)) E8.well fun v u HH DD a b => k v u HH (E8.trans DD) a b
  have E8 : Drawn wl H H8 := E7.trans D8
  have n8 : ¬ (kj : Int) ≤ 13 := of_decide_eq_false c8
  refine q_asgW (wl := wl) (C := C) (ew_mem rfl) E8.well fun v9 u9 H9 D9 a9 b9 => ?_
  have E9 : Drawn wl H H9 := E8.trans D9
  show tSeq _ _ _ [some (V.ref wl.w), some (.ref N), some (.ref I), some (.int (kj : Int)), some v2, none, some v6, some v9, none, none] H9
  refine q_whenD (wl := wl) (b := decide ((kj : Int) ≤ 15)) (et_test (ev_op (ev_var rfl) ev_c rv_I0)) E9.well (fun c10 H10 D10 => ?_) (fun c10 H10 D10 => ?_)
  · have E10 : Drawn wl H H10 := E9.trans D10
    have n10 : (kj : Int) ≤ 15 := of_decide_eq_true c10
    refine q_asgW (wl := wl) (C := C) (ew_tupR (M := 20000) (ews_cons (ew_var (C := C) rfl (At.drawn (((((((D3.trans D4).trans D5).trans D6).trans D7).trans D8).trans D9).trans D10) a2) b2) (ews_cons (ew_var (C := C) rfl (At.drawn D10 a9) b9) (ews_cons (ew_heads rfl rfl rfl E10.well (hN.keep E10) (hI.keep W E10)) (ews_cons (ew_blocks rfl rfl (by decide) (by decide) E10.well (hI.keep W E10)) ews_nil)))) (by decide) (by decide) (by decide)) E10.well fun v11 u11 H11 D11 a11 b11 => ?_
    have E11 : Drawn wl H H11 := E10.trans D11
    exact s_retW (C := C) (ew_wv (M := 20000) (ew_pick (zs := ["sealed", "stood"]) (j := kj - 14) (fun G => el_lst (ea_cons ev_c (ea_cons ev_c (ea_nil))) (by show (2 : Nat) ≤ 100000; decide)) (fun G => ev_is (ev_op (ev_var rfl) ev_c rv_I0) (by show V.int ((kj : Int) - 14) = V.int ((kj - 14 : Nat) : Int); congr 1; omega)) (by show _ < 2; omega) (by decide +kernel)) (ew_var (C := C) rfl a11 b11)) E11.well fun v u HH DD a b => k v u HH (E11.trans DD) a b
  have E10 : Drawn wl H H10 := E9.trans D10
  have n10 : ¬ (kj : Int) ≤ 15 := of_decide_eq_false c10
  refine q_asgW (wl := wl) (C := C) (ew_lots rfl ((ew_tupB (d := 0) ews_nil (by decide)).mono (bdr_mono (by decide) (by decide)))) E10.well fun v11 u11 H11 D11 a11 b11 => ?_
  have E11 : Drawn wl H H11 := E10.trans D11
  show tRet _ _ [some (V.ref wl.w), some (.ref N), some (.ref I), some (.int (kj : Int)), some v2, none, some v6, some v9, none, some v11] H11
  exact s_retW (C := C) (ew_wr (M := 20000) (ew_c (C := C) (fun _ => .str _) (nam_of (z := "moved") (by decide +kernel))) (ews_cons (ew_var (C := C) rfl (At.drawn ((((((((D3.trans D4).trans D5).trans D6).trans D7).trans D8).trans D9).trans D10).trans D11) a2) b2) (ews_cons (ew_int (d := 4) (ei_num rfl) (by decide) (by decide)) (ews_cons (ew_var (C := C) rfl (At.drawn (D10.trans D11) a9) b9) (ews_cons (ew_var (C := C) rfl a11 b11) ews_nil)))) (by decide) (by decide) (by decide)) E11.well fun v u HH DD a b => k v u HH (E11.trans DD) a b
end
end Hs
/-! a letter, as the law draws it -/
namespace Hs
open PySem PySem.Spec PyProof.Rows L2 Hu Evl
section
variable {wl : WA} {C : Addr} {σ : L2.St} {H : Hp} {te tb tc : TE} {R R' : U → Prop} {K : PySem.W.Frag} {E : XK}
theorem ew_eb (h : ∀ G, Drawn wl H G → EvB wl.w C te σ G R) : EvW wl C te σ H R := fun H1 D1 Q q => h H1 D1 H1 (Ex.refl _) Q fun v u H2 e2 a r => q v u H2 ((Drawn.refl D1.well).same e2) a r
/-- a + b, tuples with lengths -/
def TupN (n M : Nat) (u : U) : Prop := ∃ us, u = .tup us ∧ us.length = n ∧ BdL us M 5 0
theorem ew_cat {n1 n2 M1 M2 : Nat} (h1 : EvW wl C tb σ H (TupN n1 M1)) (h2 : EvW wl C tc σ H (TupN n2 M2)) (hn : n1 + n2 ≤ 100000) : EvW wl C (tOp (rCatA K) tb tc) σ H (TupN (n1 + n2) (M1 + M2)) := fun H1 D1 Q q =>
  h1 H1 D1 _ fun v1 u1 H2 D2 a1 ⟨us1, e1, l1, b1⟩ => h2 H2 (D1.trans D2) _ fun v2 u2 H3 D3 a2 ⟨us2, e2, l2, b2⟩ => by
    subst e1 e2
    obtain ⟨o, ho⟩ := D3.well.at
    refine cat_at (w := wl.w) (C := C) ⟨o, ho⟩ (At.drawn D3 a1) a2 (by omega) fun v H4 e4 a4 => ?_
    exact q v _ H4 ((D2.trans D3).same e4) a4 ⟨_, rfl, by rw [List.length_append, l1, l2], b1.append b2⟩
theorem wr_tup {M : Nat} {u : U} (h : WR M u) : TupN 2 (M + 67) u := by
  obtain ⟨a, rs, rfl, ba, br, l⟩ := h
  have h2 : Bd (.tup rs) (M + 3) 5 0 := Bd.tup br
  exact ⟨_, rfl, rfl, (BdL.append (.one (ba.mono (d' := 5) (Nat.le_refl _) (by decide) (Nat.le_refl _))) (.one h2)).mono (by omega) (Nat.le_refl _) (Nat.le_refl _)⟩
def StrP (u : U) : Prop := ∃ a, u = .str a ∧ Bd (.str a) 60 4 0
def StrP2 (u : U) : Prop := ∃ a b, u = .tup [.str a, .str b] ∧ Bd (.str a) 60 4 0 ∧ Bd (.str b) 60 4 0
theorem eb_strs {w : Addr} {z y : Str} (hw : ∃ o, H w = some o) (hz : okWord z = true) (hy : okWord y = true) : EvB w C (tTup (tCons (tC (.str z)) (tCons (tC (.str y)) tNil))) σ H StrP2 :=
  eb_tup hw (ebs_cons (R := StrP) (eb_ev ev_c (.str z) ⟨z, rfl, word_bd hz⟩) (ebs_cons (eb_ev ev_c (.str y) ⟨y, rfl, word_bd hy⟩) ebs_nil)) (by decide) fun us hl hr => by
    match us, hl with
    | [a, b], _ =>
      obtain ⟨x, rfl, bx⟩ := hr a (by simp)
      obtain ⟨y, rfl, by_⟩ := hr b (by simp)
      exact ⟨x, y, rfl, bx, by_⟩
/-- _law_machine(well, machines[k]) -/
theorem ew_mach {v : V} {a b : Str} {i k : Nat} {z : Str} (h0 : σ[0]? = some (some (.ref wl.w))) (hv : σ[i]? = some (some v)) (av : At wl.w C H v (.tup [.str a, .str b])) (hk : ([a, b] : List Str)[k]? = some z) (bz : Bd (.str z) 60 4 0) : EvW wl C (tCall (spMachL C) [] E (tCons (tVar 0) (tCons (tOp (rIxT K) (tVar i) (tC (.int (k : Int)))) tNil))) σ H (BdR 200 5) := fun H1 D1 Q q => by
  obtain ⟨p, x, y, rfl, hp, hx, hy⟩ := pair_at (At.drawn D1 av)
  rw [at_str hx, at_str hy] at hp
  exact ⟨_, h0, _, hv, p, _, _, .str z, rfl, rfl, st_of hp, atI_nat (xs := [V.str a, V.str b]) (by
    have : ([V.str a, V.str b] : List V) = ([a, b] : List Str).map V.str := rfl
    rw [this, List.getElem?_map, hk]
    rfl), wl, z, rfl, D1.well, bz, fun v u H2 D2 a b => q v u H2 D2 a b⟩
end
section
variable {P : Program} {wd : World} {K : PySem.W.Frag} {mg : Str → Option Value} {base : Heap} {C : Addr} {fD : Addr} {dD : FuncData}
def spLetL (C : Addr) : Sp := fun vs H Q _ => ∃ wl : WA, vs = [.ref wl.w] ∧ Well H wl ∧ ∀ (v : V) (us : List U) (H' : Hp), Drawn wl H H' → At wl.w C H' v (.tup us) → us.length = 5 → BdL us 23000 5 0 → Q v H'
theorem scLetL : FnScope ["well", "lot", "k", "names", "ids", "machines", "to", "by", "talk"] ["well"] (defScope lLetter) := ⟨rfl, rfl, rfl, by decide +kernel, rfl, by decide +kernel, by decide +kernel⟩
set_option maxHeartbeats 1000000 in
theorem ok_letL {f fU fN fI fM fK fH fB fA : Addr} {fd dU dN dI dM dK dH dB dA : FuncData} (F : Fun K "_law_letter" "_law_letter" lLetter f fd) (B : Bt mg) (D : Dd P wd K mg base fD dD) (DU : Df K mg "_law_unlike" lUnlike ["things"] fU dU) (GS : FnOk P wd K mg base CX0 2 fU dU ["things"] spUnS) (GP : FnOk P wd K mg base CX0 2 fU dU ["things"] spUnP)
    (DN : Df K mg "_law_name" lName ["well"] fN dN) (GN : FnOk P wd K mg base CX0 4 fN dN ["well"] spName) (DI : Df K mg "_law_id" lId ["well"] fI dI) (GI : FnOk P wd K mg base CX0 5 fI dI ["well"] (spPair fun i j => 1 ≤ i ∧ i ≤ 99 ∧ 1 ≤ j)) (DM : Df K mg "_law_machine" lMachine ["well", "word"] fM dM) (GM : FnOk P wd K mg base CX0 4 fM dM ["well", "word"] (spMachL C))
    (DK : Df K mg "_law_number" lNumber ["well"] fK dK) (DH : Df K mg "_law_to_home" lToHome ["well", "names", "ids"] fH dH) (GH : FnOk P wd K mg base CX0 7 fH dH ["well", "names", "ids"] (spWR3 C)) (DB : Df K mg "_law_between" lBetween ["well", "names", "ids"] fB dB) (GB : FnOk P wd K mg base CX0 7 fB dB ["well", "names", "ids"] (spWR3 C))
    (DA : Df K mg "_law_to_hand" lToHand ["well", "names", "ids"] fA dA) (GA : FnOk P wd K mg base CX0 8 fA dA ["well", "names", "ids"] (spWR3 C)) : FnOk P wd K mg base CX0 9 f fd ["well"] (spLetL C) := by
  have GK : FnOk P wd K mg base CX0 4 fK dK ["well"] spNumber := ok_number DK.F D
  refine F.ok scLetL (fun vs H Q E h => ?_) (fun cdv A outer s H vs Q E hr h => ?_)
  · obtain ⟨wl, rfl, _⟩ := h
    rfl
  obtain ⟨wl, rfl, W, k⟩ := h
  have GN' : FnOk P wd K mg base CX0 8 fN dN ["well"] spName := GN.mono (by decide)
  have GI' : FnOk P wd K mg base CX0 8 fI dI ["well"] (spPair fun i j => 1 ≤ i ∧ i ≤ 99 ∧ 1 ≤ j) := GI.mono (by decide)
  refine ⟨_, pss_cons (ps_set (i := 1) scLetL.nd rfl (.inl rfl) (pe_draw D hr (by decide) (by rfl) (pv 0) pe_int))
    (pss_cons (ps_set (i := 3) scLetL.nd rfl (.inl rfl) (pe_call GS (hr.mono (by decide)) (by rfl) DU.g DU.F.kp DU.b .nil pass0 (pa_cons (pe_lc (own := [("k", 2)]) (g := gName 2) (tt := tYes) rfl scLetL.nd (pi_range1 (by rfl) B.range (pa_cons (pe_op op_add pe_int (pe_draw D hr (by decide) (by rfl) (pv 0) pe_int)) pa_nil)) (blkOk_by (N := ["well", "lot", "k", "names", "ids", "machines", "to", "by", "talk"]) (sc := defScope lLetter) (by decide +kernel))
      (fun _ _ _ _ _ => pg_name (i := 2) scLetL.nd rfl (Or.inl rfl)) (fun _ _ _ _ _ => pts_nil) (fun _ _ _ _ _ => pe_call GN' hr (by rfl) DN.g DN.F.kp DN.b .nil pass0 (pa_cons (pv 0) pa_nil))) pa_nil)))
    (pss_cons (ps_set (i := 4) scLetL.nd rfl (.inl rfl) (pe_call GP (hr.mono (by decide)) (by rfl) DU.g DU.F.kp DU.b .nil pass0 (pa_cons (pe_lc (own := [("k", 2)]) (g := gName 2) (tt := tYes) rfl scLetL.nd (pi_range1 (by rfl) B.range (pa_cons (pe_op op_add pe_int (pe_draw D hr (by decide) (by rfl) (pv 0) pe_int)) pa_nil)) (blkOk_by (N := ["well", "lot", "k", "names", "ids", "machines", "to", "by", "talk"]) (sc := defScope lLetter) (by decide +kernel))
      (fun _ _ _ _ _ => pg_name (i := 2) scLetL.nd rfl (Or.inl rfl)) (fun _ _ _ _ _ => pts_nil) (fun _ _ _ _ _ => pe_call GI' hr (by rfl) DI.g DI.F.kp DI.b .nil pass0 (pa_cons (pv 0) pa_nil))) pa_nil)))
    (pss_cons (ps_set (i := 5) scLetL.nd rfl (.inl rfl) (pe_ix (show IxR _ (rIxL K) from ix_list) (pe_lst (pa_cons (pe_tup (pa_cons pe_str (pa_cons pe_str pa_nil))) (pa_cons (pe_tup (pa_cons pe_str (pa_cons pe_str pa_nil))) (pa_cons (pe_tup (pa_cons pe_str (pa_cons pe_str pa_nil))) (pa_cons (pe_tup (pa_cons pe_str (pa_cons pe_str pa_nil))) pa_nil))))) (pv 1) (fun _ _ => rfl)))
    (pss_cons (ps_set (i := 6) scLetL.nd rfl (.inl rfl) (pe_call GM (hr.mono (by decide)) (by rfl) DM.g DM.F.kp DM.b .nil pass0 (pa_cons (pv 0) (pa_cons (pe_ix (show IxR _ (rIxT K) from ix_tup) (pv 5) pe_int (fun _ _ => rfl)) pa_nil))))
    (pss_cons (ps_set (i := 7) scLetL.nd rfl (.inl rfl) (pe_call GM (hr.mono (by decide)) (by rfl) DM.g DM.F.kp DM.b .nil pass0 (pa_cons (pv 0) (pa_cons (pe_ix (show IxR _ (rIxT K) from ix_tup) (pv 5) pe_int (fun _ _ => rfl)) pa_nil))))
    (pss_cons (ps_set (i := 8) scLetL.nd rfl (.inl rfl) (pe_call GK (hr.mono (by decide)) (by rfl) DK.g DK.F.kp DK.b .nil pass0 (pa_cons (pv 0) pa_nil)))
    (pss_cons (ps_if (pt_cmpR op_eq (pv 1) pe_int (nomark _)) (pss_one (ps_ret (pe_op (show OpR _ _ (rCatA K) from op_catA) (pe_tup (pa_cons (pv 6) (pa_cons (pv 7) (pa_cons (pv 8) pa_nil)))) (pe_call GH (hr.mono (by decide)) (by rfl) DH.g DH.F.kp DH.b .nil pass0 (pa_cons (pv 0) (pa_cons (pv 3) (pa_cons (pv 4) pa_nil))))))) pss_nil)
    (pss_cons (ps_if (pt_cmpR op_eq (pv 1) pe_int (nomark _)) (pss_one (ps_ret (pe_op (show OpR _ _ (rCatA K) from op_catA) (pe_tup (pa_cons (pv 6) (pa_cons (pv 7) (pa_cons (pv 8) pa_nil)))) (pe_call GB (hr.mono (by decide)) (by rfl) DB.g DB.F.kp DB.b .nil pass0 (pa_cons (pv 0) (pa_cons (pv 3) (pa_cons (pv 4) pa_nil))))))) pss_nil)
    (pss_one (ps_ret (pe_op (show OpR _ _ (rCatA K) from op_catA) (pe_tup (pa_cons (pv 6) (pa_cons (pv 7) (pa_cons (pv 8) pa_nil)))) (pe_call GA hr (by rfl) DA.g DA.F.kp DA.b .nil pass0 (pa_cons (pv 0) (pa_cons (pv 3) (pa_cons (pv 4) pa_nil))))))))))))))), ?_⟩
  -- the lot
  refine q_asgI (wl := wl) (ei_draw rfl (by decide) (by decide)) W fun kd H0 D0 k0 k1 => ?_
  obtain ⟨kj, rfl⟩ : ∃ n : Nat, kd = (n : Int) := ⟨kd.toNat, by omega⟩
  show tSeq _ _ _ [some (V.ref wl.w), some (.int (kj : Int)), none, none, none, none, none, none, none] H0
  have W0 := D0.well
  -- the names
  refine ⟨_, rfl, wl, 3, rfl, W0, by decide, by decide, fun d H1 d0 d1 D1 => ⟨_, _, rfl, rfl, 1 + d, rfl, by omega, by omega, fun Dl hD => ?_⟩⟩
  have nD := (D1.well.ne hD).1
  refine lc_range (lo := 0) (n := (1 + d).toNat) (fun i H' => Drawn wl H0 H' ∧ Drawn wl H1 H' ∧ ∃ zs : List Str, H' Dl = some (.lst (zs.map V.str)) ∧ zs.length = i ∧ ∀ z ∈ zs, gNam (.str z) = true) ⟨D1.new hD, (Drawn.refl D1.well).new hD, [], upd_same, rfl, fun z hz => (by cases hz)⟩ ?_ ?_
  · rintro i H2 hi ⟨D2, D2', zs, hz, hl, hg⟩
    refine ⟨rfl, ?_⟩
    refine et_yes _ (Ex.refl _) _ fun H3 e3 => ?_
    rw [if_pos rfl]
    refine ⟨_, rfl, wl, rfl, D2.well.same e3, fun z H4 gz D4 => ?_⟩
    have D34 : Drawn wl H2 H4 := ((Drawn.refl D2.well).same e3).trans D4
    refine ⟨_, D34.keep _ _ nD hz, ?_, D2.trans D34 |>.put W0 (D1.free W0 hD), (D2'.trans D34).put D1.well hD, zs ++ [z], ?_, ?_, ?_⟩
    · rw [List.length_map, hl]
      exact sz_lt (by omega)
    · rw [upd_same, List.map_append]
      rfl
    · rw [List.length_append, hl]
      rfl
    · intro y hy
      rcases List.mem_append.mp hy with h | h
      · exact hg y h
      · rw [List.mem_singleton.mp h]
        exact gz
  rintro H2 ⟨D2, _, zs, hz, hl, hg⟩
  refine ⟨Dl, zs, rfl, hz, by omega, by omega, fun z h => nam_ok (hg z h), fun N ns H3 hN0 e3 hN l1 l2 mem pw => ?_⟩
  have D3 := D2.same e3
  have hng : ∀ z ∈ ns, gNam (.str z) = true := fun z h => hg z (mem z h)
  have nN : N ≠ wl.w := fun z => by
    obtain ⟨o, ho⟩ := D2.well.at
    rw [← z, hN0] at ho
    cases ho
  dsimp only [gName]
  show tSeq _ _ _ [some (V.ref wl.w), some (.int (kj : Int)), none, some (.ref N), none, none, none, none, none] H3
  -- the ids
  refine ⟨_, rfl, wl, 3, rfl, D3.well, by decide, by decide, fun d2 H4 f0 f1 D4 => ⟨_, _, rfl, rfl, 1 + d2, rfl, by omega, by omega, fun Dm hDm => ?_⟩⟩
  have nDm := (D4.well.ne hDm).1
  have D34 := D3.trans D4
  refine lc_range (lo := 0) (n := (1 + d2).toNat) (fun i H' => Drawn wl H0 H' ∧ Drawn wl H4 H' ∧ ∃ (xs : List V) (js : List (Int × Int)), H' Dm = some (.lst xs) ∧ P2 H' xs js ∧ js.length = i ∧ ∀ j ∈ js, 1 ≤ j.1 ∧ j.1 ≤ 99 ∧ 1 ≤ j.2 ∧ j.2 < 2 ^ 60) ⟨D34.new hDm, (Drawn.refl D4.well).new hDm, [], [], upd_same, .nil, rfl, fun z hz => (by cases hz)⟩ ?_ ?_
  · rintro i H5 hi ⟨D5, D5', xs, js, hx, p2, hl, hb⟩
    refine ⟨rfl, ?_⟩
    refine et_yes _ (Ex.refl _) _ fun H6 e6 => ?_
    rw [if_pos rfl]
    refine ⟨_, rfl, wl, rfl, D5.well.same e6, fun a b p H7 b1 b2 hR hp D7 h7 => ?_⟩
    have D57 : Drawn wl H5 H7 := ((Drawn.refl D5.well).same e6).trans D7
    have hx7 := D57.keep _ _ nDm hx
    have nt : ∀ c zs, H7 c = some (.tup zs) → upd H7 Dm (.lst (xs ++ [.ref p])) c = some (.tup zs) := fun c zs hc => by
      rw [upd_ne (fun z => by rw [z, hx7] at hc; cases hc)]
      exact hc
    refine ⟨_, hx7, ?_, (D5.trans D57).put W0 (D34.free W0 hDm), (D5'.trans D57).put D4.well hDm, xs ++ [.ref p], js ++ [(a, b)], upd_same, ?_, ?_, ?_⟩
    · rw [p2.len, hl]
      exact sz_lt (by omega)
    · exact ((p2.tups (fun c zs hc => D57.keep c _ (not_well D5.well hc) hc)).snoc (k := (a, b)) h7).tups nt
    · rw [List.length_append, hl]
      rfl
    · intro j hj
      rcases List.mem_append.mp hj with h | h
      · exact hb j h
      · rw [List.mem_singleton.mp h]
        exact ⟨hR.1, hR.2.1, hR.2.2, by show b < 2 ^ 60; omega⟩
  rintro H5 ⟨D5, D5', xs, js, hx, p2, hl, hb⟩
  refine ⟨Dm, xs, js, rfl, hx, p2, by omega, by omega, fun I ys ks H6 hI0 e6 hI p2' k1' k2' kmem kpw => ?_⟩
  have D6 := D5.same e6
  have nI : I ≠ wl.w := fun z => by
    obtain ⟨o, ho⟩ := D5.well.at
    rw [← z, hI0] at ho
    cases ho
  have hN6 : H6 N = some (.lst (ns.map V.str)) := e6 _ _ (D5'.keep _ _ nN (D4.keep _ _ nN hN))
  have W6 := D6.well
  have Y : Nm wl H6 N ns := ⟨hN6, nN, l1, by omega, hng, pw⟩
  have X : Ids C wl H6 I ys ks := ⟨hI, nI, p2', ⟨k1', by omega⟩, fun j hj => hb j (kmem j hj), kpw⟩
  have E6 : Drawn wl H H6 := D0.trans D6
  dsimp only [gName]
  show tSeq _ _ _ [some (V.ref wl.w), some (.int (kj : Int)), none, some (.ref N), some (.ref I), none, none, none, none] H6
  refine q_asgW (wl := wl) (C := C) (R := StrP2) (ew_eb fun G DG => eb_pick (K := K) (n := 4) (ebs_cons (eb_strs DG.well.at (by decide +kernel) (by decide +kernel)) (ebs_cons (eb_strs DG.well.at (by decide +kernel) (by decide +kernel)) (ebs_cons (eb_strs DG.well.at (by decide +kernel) (by decide +kernel)) (ebs_cons (eb_strs DG.well.at (by decide +kernel) (by decide +kernel)) ebs_nil)))) (by decide) (ev_var (i := 1) rfl) (by omega)) W6 fun v5 u5 H7 D7 a7 b7 => ?_
  obtain ⟨wa, wb, rfl, ba, bb⟩ := b7
  show tSeq _ _ _ [some (V.ref wl.w), some (.int (kj : Int)), none, some (.ref N), some (.ref I), some v5, none, none, none] H7
  refine q_asgW (wl := wl) (C := C) (ew_mach (k := 0) rfl rfl a7 rfl ba) D7.well fun v6 u6 H8 D8 a8 b8 => ?_
  show tSeq _ _ _ [some (V.ref wl.w), some (.int (kj : Int)), none, some (.ref N), some (.ref I), some v5, some v6, none, none] H8
  refine q_asgW (wl := wl) (C := C) (ew_mach (k := 1) rfl rfl (At.drawn D8 a7) rfl bb) D8.well fun v7 u7 H9 D9 a9 b9 => ?_
  show tSeq _ _ _ [some (V.ref wl.w), some (.int (kj : Int)), none, some (.ref N), some (.ref I), some v5, some v6, some v7, none] H9
  refine q_asgW (wl := wl) (C := C) (ew_int (d := 5) (ei_num rfl) (by decide) (by decide)) D9.well fun v8 u8 H10 D10 a10 b10 => ?_
  show tSeq _ _ _ [some (V.ref wl.w), some (.int (kj : Int)), none, some (.ref N), some (.ref I), some v5, some v6, some v7, some v8] H10
  have D610 := ((D7.trans D8).trans D9).trans D10
  have E10 := E6.trans D610
  have Y10 := Y.keep D610
  have X10 := X.keep W6 D610
  have c6 := At.drawn (D9.trans D10) a8
  have c7 := At.drawn D10 a9
  have head : ∀ {G : Hp}, Drawn wl H10 G → EvW wl C (tTup (tCons (tVar 6) (tCons (tVar 7) (tCons (tVar 8) tNil)))) [some (V.ref wl.w), some (.int (kj : Int)), none, some (.ref N), some (.ref I), some v5, some v6, some v7, some v8] G (TupN 3 (200 + 2 + (200 + 2 + (80 + 2 + 0)))) := fun {G} DG =>
    (ew_tup (ews_cons (ew_var (C := C) rfl (At.drawn DG c6) b8) (ews_cons (ew_var (C := C) rfl (At.drawn DG c7) b9) (ews_cons (ew_var (C := C) rfl (At.drawn DG a10) b10) ews_nil))) (by decide)).mono fun u ⟨us, e, l, b⟩ => ⟨us, e, l, b⟩
  have tail : ∀ {G : Hp} {E : XK}, Drawn wl H10 G → EvW wl C (tCall (spWR3 C) [] E (tCons (tVar 0) (tCons (tVar 3) (tCons (tVar 4) tNil)))) [some (V.ref wl.w), some (.int (kj : Int)), none, some (.ref N), some (.ref I), some v5, some v6, some v7, some v8] G (TupN 2 20067) := fun {G E} DG H1 D1 Q q =>
    ⟨_, rfl, _, rfl, _, rfl, wl, N, I, ns, ys, ks, rfl, D1.well, Y10.keep (DG.trans D1), X10.keep E10.well (DG.trans D1), fun v u H2 D2 a b => q v u H2 D2 a (wr_tup b)⟩
  have fin : ∀ {G : Hp}, Drawn wl H10 G → ∀ v u H2, Drawn wl G H2 → At wl.w C H2 v u → TupN (3 + 2) (200 + 2 + (200 + 2 + (80 + 2 + 0)) + 20067) u → Q v H2 := fun {G} DG v u H2 D2 a ⟨us, e, l, b⟩ => by
    subst e
    exact k v us H2 ((E10.trans DG).trans D2) a l (b.mono (by decide) (Nat.le_refl _) (Nat.le_refl _))
  refine q_whenD (wl := wl) (b := decide (V.int (kj : Int) = V.int 0)) (et_test (ev_op (ev_var rfl) ev_c (rv_eq rfl))) E10.well (fun c H11 D11 => ?_) (fun c H11 D11 => ?_)
  · exact s_retW (C := C) (ew_cat (head D11) (tail D11) (by decide)) D11.well (fin D11)
  refine q_whenD (wl := wl) (b := decide (V.int (kj : Int) = V.int 1)) (et_test (ev_op (ev_var rfl) ev_c (rv_eq rfl))) D11.well (fun c H12 D12 => ?_) (fun c H12 D12 => ?_)
  · exact s_retW (C := C) (ew_cat (head (D11.trans D12)) (tail (D11.trans D12)) (by decide)) D12.well (fin (D11.trans D12))
  · exact s_retW (C := C) (ew_cat (head (D11.trans D12)) (tail (D11.trans D12)) (by decide)) D12.well (fin (D11.trans D12))
end
end Hs
/-! what is Hu.shown is short -/
namespace Hs
open PySem PySem.Spec PyProof.Rows L2 Hu Evl
mutual
theorem tidy_small {b : Nat} (hb : b ≤ 100) : ∀ u : U, tidy b u → smallU u
  | .non, _ => by simp only [smallU]
  | .bl _, _ => by simp only [smallU]
  | .int i, h => by
    simp only [tidy] at h
    simp only [smallU]
    exact Nat.lt_of_lt_of_le (PySem.Flt.log2_lt_of (k := 66) (by decide) (by omega)) (by decide)
  | .str z, _ => by simp only [smallU]
  | .tup us, h => by simp only [smallU]; exact tidyL_small hb us (by simpa only [tidy] using h)
  | .lst us, h => by simp only [smallU]; exact tidyL_small hb us (by simpa only [tidy] using h)
  | .dct us, h => by simp only [smallU]; exact tidyL_small hb us (by simpa only [tidy] using h)
  | .exc, _ => by simp only [smallU]
theorem tidyL_small {b : Nat} (hb : b ≤ 100) : ∀ us : List U, tidyL b us → smallL us
  | [], _ => by simp only [smallL]
  | u :: us, h => by simp only [smallL]; exact ⟨tidy_small hb u h.1, tidyL_small hb us h.2⟩
end
def nmT : Str := "NoTable"
theorem line_lt {z : Str} (h : lined z) : ∀ c ∈ z.cps.toList, c < 16 ^ 8 := fun c hc => Nat.lt_trans (lined_lt h c hc) (by decide)
mutual
theorem shown_wt {b : Nat} (hb : b ≤ 100) : ∀ u : U, tidy b u → (Hu.shown nmT u).length ≤ 10 * wt u
  | .non, _ => by simp only [Hu.shown, wt]; decide +kernel
  | .bl x, _ => by cases x <;> simp only [Hu.shown, wt] <;> decide +kernel
  | .int i, h => by
    simp only [tidy] at h
    simp only [Hu.shown, wt]
    have := int_text_length_le (a := i) (k := 66) (by decide) (PySem.Flt.log2_lt_of (k := 66) (by decide) (by omega))
    rw [PySem.ofString_length]
    omega
  | .str z, h => by
    have hz : lined z := by simp only [tidy] at h; exact h
    have := StrLaws.reprText_len z (line_lt hz)
    simp only [Hu.shown, wt]
    omega
  | .tup us, h => by
    have := tupleText_len_le (shownL nmT us)
    have := shownL_wt hb us (by simpa only [tidy] using h)
    simp only [Hu.shown, wt]
    omega
  | .lst us, h => by
    have := listText_len_le (shownL nmT us)
    have := shownL_wt hb us (by simpa only [tidy] using h)
    simp only [Hu.shown, wt]
    omega
  | .dct us, h => by
    have h1 := listText_len_le (shownL nmT us)
    have h2 := shownL_wt hb us (by simpa only [tidy] using h)
    have h3 := dictText_len_le [reprText "a" ++ ": " ++ listText (shownL nmT us), (toString (1 : Int) : Str) ++ ": " ++ "None"]
    simp only [Hu.shown, wt]
    simp only [List.map_cons, List.map_nil, List.sum_cons, List.sum_nil, List.length_cons, List.length_nil] at h3
    have e1 : (reprText "a" ++ ": " ++ listText (shownL nmT us)).length = 5 + (listText (shownL nmT us)).length := by
      rw [len_add, show (reprText "a" ++ ": ").length = 5 by decide +kernel]
    have e2 : ((toString (1 : Int) : Str) ++ ": " ++ "None").length = 7 := by decide +kernel
    rw [e1, e2] at h3
    omega
  | .exc, _ => by simp only [Hu.shown, wt]; decide +kernel
theorem shownL_wt {b : Nat} (hb : b ≤ 100) : ∀ us : List U, tidyL b us → ((shownL nmT us).map (·.length)).sum + 2 * (shownL nmT us).length ≤ 10 * wtL us
  | [], _ => by simp [shownL]
  | u :: us, h => by
    have h1 := shown_wt hb u h.1
    have h2 := shownL_wt hb us h.2
    simp only [shownL, wtL, List.map_cons, List.sum_cons, List.length_cons]
    omega
end
section
variable {σ : L2.St} {H : Hp} {tp : TE} {tu tz : TS} {D : Ends}
theorem q_forRX {j : Nat} {R : Nat → Hp → Prop} (made : ∀ Q : VK, (∀ n H', R n H' → Q (.int (n : Int)) H') → tp σ H Q) (hn : ∀ n H', R n H' → n ≤ 100000) (Pv : Nat → Nat → L2.St → Hp → Prop) (h0 : ∀ n H', R n H' → Pv n 0 σ H')
    (hs : ∀ n (i : Nat) σ' H', i < n → Pv n i σ' H' → tu { D with nx := Pv n (i + 1), ct := Pv n (i + 1), bk := tz D } (σ'.set j (some (.int (i : Int)))) H') (hd : ∀ n σ' H', Pv n n σ' H' → tz D σ' H') : tSeq (tFor (iRng1 (tCons tp tNil)) (gName j) tu) tz D σ H :=
  made (fun x H1 => tNil σ H1 fun xs H2 => ∃ j' : Int, x :: xs = [.int j'] ∧ -(2 ^ 62) ≤ j' ∧ j' < 2 ^ 62 ∧ _) fun n H1 r => by
    have hb := hn n H1 r
    refine ⟨(n : Int), rfl, by omega, by omega, for_range (D := { D with nx := tz D }) (lo := 0) (n := n) (Pv n) (h0 n H1 r) (fun i σ' H' hi p => ?_) (fun σ' H' p => hd n σ' H' p)⟩
    have e0 : (0 : Int) + (i : Int) = (i : Int) := Int.zero_add _
    show tu { D with nx := Pv n (i + 1), ct := Pv n (i + 1), bk := tz D } (σ'.set j (some (.int ((0 : Int) + (i : Int))))) H'
    rw [e0]
    exact hs n i σ' H' (by omega) p
end
end Hs
/-! a letter, or two crossed, or a spoilt one, or anything -/
namespace Hs
open PySem PySem.Spec PyProof.Rows L2 Hu Evl
section
variable {wl : WA} {C : Addr} {σ : L2.St} {H : Hp} {ta : TA} {R : U → Prop} {K : PySem.W.Frag} {E : XK}
/-- [..][a draw below their number] -/
theorem ew_pickD {n : Nat} (h0 : σ[0]? = some (some (.ref wl.w))) (h : ∀ G, Drawn wl H G → EvBs wl.w C ta σ G n R) (n1 : 1 ≤ n) (hn : n ≤ 1000) : EvW wl C (tOp (rIxL K) (tLst ta) (tCall spDraw [] E (tCons (tVar 0) (tCons (tC (.int (n : Int))) tNil)))) σ H R := fun H1 D1 Q q =>
  h H1 D1 H1 (Ex.refl _) _ fun vs us H2 e2 l hl rs => ⟨sz_of (by rw [AtL.length l, hl]; omega), fun p hp => ⟨_, h0, wl, n, rfl, D1.well.same (e2.trans (Ex.new hp)), by omega, by omega, fun d H3 d0 d1 D3 => by
    have D2 : Drawn wl H1 H2 := (Drawn.refl D1.well).same e2
    obtain ⟨j, rfl⟩ : ∃ j : Nat, d = (j : Int) := ⟨d.toNat, by omega⟩
    have hj : j < us.length := by omega
    obtain ⟨x, hx, ax⟩ := AtL.get l (List.getElem?_eq_getElem hj)
    refine ⟨p, _, _, x, rfl, rfl, sq_of (D3.keep _ _ (D2.well.ne hp).1 upd_same), atI_nat hx, q x us[j] H3 ((D2.new hp).trans D3) (At.drawn D3 (ex_at (Ex.new hp) ax)) (rs _ (List.getElem_mem hj))⟩⟩⟩
end
section
variable {P : Program} {wd : World} {K : PySem.W.Frag} {mg : Str → Option Value} {base : Heap} {C : Addr} {fD : Addr} {dD : FuncData}
def Mk5 : Nat → Nat | 0 => 23003 | n + 1 => 2 * Mk5 n + 400
def spThK (C : Addr) : Sp := fun vs H Q _ => ∃ wl : WA, vs = [.ref wl.w] ∧ Well H wl ∧ ∀ (v : V) (u' : U) (H' : Hp), Drawn wl H H' → At wl.w C H' v u' → Bd u' 100000 20 2 → Q v H'
theorem scThK : FnScope ["well", "kind", "thing", "other", "k"] ["well"] (defScope lThingK) := ⟨rfl, rfl, rfl, by decide +kernel, rfl, by decide +kernel, by decide +kernel⟩
set_option maxHeartbeats 1000000 in
theorem ok_thingK {f fL fA fS fN : Addr} {fd dL dA dS dN : FuncData} (F : Fun K "_law_thing" "_law_thing" lThingK f fd) (B : Bt mg) (D : Dd P wd K mg base fD dD) (DL : Df K mg "_law_letter" lLetter ["well"] fL dL) (GL : FnOk P wd K mg base CX0 9 fL dL ["well"] (spLetL C)) (DA : Df K mg "_law_any" lAny ["well", "deep"] fA dA) (GA : FnOk P wd K mg base CX0 39 fA dA ["well", "deep"] (spAny C 3))
    (DS : Df K mg "_law_spoilt" lSpoilt ["thing", "at", "well"] fS dS) (GS : FnOk P wd K mg base CX0 39 fS dS ["thing", "at", "well"] (spSpoilt C 30)) (DN : Df K mg "_law_nodes" lNodes ["thing"] fN dN) (GN : FnOk P wd K mg base CX0 39 fN dN ["thing"] (spNodes C 30)) : FnOk P wd K mg base CX0 40 f fd ["well"] (spThK C) := by
  refine F.ok scThK (fun vs H Q E h => ?_) (fun cdv A outer s H vs Q E hr h => ?_)
  · obtain ⟨wl, rfl, _⟩ := h
    rfl
  obtain ⟨wl, rfl, W, k⟩ := h
  refine ⟨_, pss_cons (ps_set (i := 1) scThK.nd rfl (.inl rfl) (pe_draw D hr (by decide) (by rfl) (pv 0) pe_int))
    (pss_cons (ps_if (pt_cmpR op_eq (pv 1) pe_int (nomark _)) (pss_one (ps_ret (pe_call GA hr (by rfl) DA.g DA.F.kp DA.b .nil pass0 (pa_cons (pv 0) (pa_cons pe_int pa_nil))))) pss_nil)
    (pss_cons (ps_set (i := 2) scThK.nd rfl (.inl rfl) (pe_call GL (hr.mono (by decide)) (by rfl) DL.g DL.F.kp DL.b .nil pass0 (pa_cons (pv 0) pa_nil)))
    (pss_cons (ps_if (pt_cmpR op_eq (pv 1) pe_int (nomark _))
      (pss_cons (ps_set (i := 3) scThK.nd rfl (.inl rfl) (pe_call GL (hr.mono (by decide)) (by rfl) DL.g DL.F.kp DL.b .nil pass0 (pa_cons (pv 0) pa_nil)))
        (pss_one (ps_ret (pe_ix (show IxR _ (rIxL K) from ix_list) (pe_lst (pa_cons (pe_op (show OpR _ _ (rCatA K) from op_catA) (pe_slice (show SlR _ (rSlA K) from sl_tupA) (pv 3) po_none (po_some pe_int)) (pe_slice (show SlR _ (rSlA K) from sl_tupA) (pv 2) (po_some pe_int) po_none))
          (pa_cons (pe_op (show OpR _ _ (rCatA K) from op_catA) (pe_op (show OpR _ _ (rCatA K) from op_catA) (pe_slice (show SlR _ (rSlA K) from sl_tupA) (pv 2) po_none (po_some pe_int)) (pe_tup (pa_cons (pe_ix (show IxR _ (rIxT K) from ix_tup) (pv 3) pe_int (fun _ _ => rfl)) pa_nil))) (pe_slice (show SlR _ (rSlA K) from sl_tupA) (pv 2) (po_some pe_int) po_none)) pa_nil)))
          (pe_draw D hr (by decide) (by rfl) (pv 0) pe_int) (fun _ _ => rfl))))) pss_nil)
    (pss_cons (ps_for PassesOwn.never rfl (pi_range1 (by rfl) B.range (pa_cons (pe_ix ix_list (pe_lst (pa_cons pe_int (pa_cons pe_int (pa_cons pe_int (pa_cons pe_int (pa_cons pe_int (pa_cons pe_int (pa_cons pe_int pa_nil)))))))) (pe_op op_sub (pv 1) pe_int) (fun _ _ => rfl)) pa_nil)) (pg_name (i := 4) scThK.nd rfl (Or.inl rfl))
      (pss_one (ps_set (i := 2) scThK.nd rfl (.inl rfl) (pe_call GS hr (by rfl) DS.g DS.F.kp DS.b .nil pass0 (pa_cons (pv 2) (pa_cons (pe_draw D hr (by decide) (by rfl) (pv 0) (pe_call GN hr (by rfl) DN.g DN.F.kp DN.b .nil pass0 (pa_cons (pv 2) pa_nil))) (pa_cons (pv 0) pa_nil)))))))
    (pss_one (ps_ret (pv 2))))))), ?_⟩
  refine q_asgI (wl := wl) (ei_draw rfl (by decide) (by decide)) W fun kd H1 D1 d0 d1 => ?_
  show tSeq _ _ _ [some (V.ref wl.w), some (.int kd), none, none, none] H1
  refine q_whenD (wl := wl) (b := decide (V.int kd = V.int 0)) (et_test (ev_op (ev_var rfl) ev_c (rv_eq rfl))) D1.well (fun q H2 D2 => ?_) (fun q H2 D2 => ?_)
  · exact ⟨_, rfl, wl, rfl, D2.well, fun v u' H3 D3 hv bv => k v u' H3 ((D1.trans D2).trans D3) (at_full hv) (bv.mono (by decide) (by decide) (by decide))⟩
  have E2 := D1.trans D2
  have hk : kd ≠ 0 := fun z => of_decide_eq_false q (by rw [z])
  refine ⟨_, rfl, wl, rfl, D2.well, fun v us H3 D3 hv l5 bl => ?_⟩
  have E3 := E2.trans D3
  dsimp only [gName]
  show tSeq _ _ _ [some (V.ref wl.w), some (.int kd), some v, none, none] H3
  refine q_whenD (wl := wl) (b := decide (V.int kd = V.int 1)) (et_test (ev_op (ev_var rfl) ev_c (rv_eq rfl))) D3.well (fun q1 H4 D4 => ?_) (fun q1 H4 D4 => ?_)
  · refine ⟨_, rfl, wl, rfl, D4.well, fun v' us' H5 D5 hv' l5' bl' => ?_⟩
    dsimp only [gName]
    have E5 := (E3.trans D4).trans D5
    refine s_retW (C := C) (R := Part 70000 5 0 20) (ew_pickD (C := C) (n := 2) rfl (fun G DG => ?_) (by decide) (by decide)) D5.well fun x u HH DD a b => ?_
    · obtain ⟨a, xs, rfl, ha, na, hl⟩ := at_tup (At.drawn ((D4.trans D5).trans DG) hv)
      obtain ⟨a', xs', rfl, ha', na', hl'⟩ := at_tup (At.drawn DG hv')
      have hw := DG.well.at
      have mono : ∀ {m l : Nat}, m ≤ 70000 → l ≤ 20 → ∀ u, Part m 5 0 l u → Part 70000 5 0 20 u := fun hm hl u ⟨us, e, b, h⟩ => ⟨us, e, b.mono hm (Nat.le_refl _) (Nat.le_refl _), Nat.le_trans h hl⟩
      have tk : ∃ x4, xs'[3]? = some x4 ∧ ∃ u4, At wl.w C G x4 u4 ∧ Bd u4 23000 5 0 := by
        have h3 : 3 < us'.length := by omega
        obtain ⟨x4, h4, a4⟩ := AtL.get hl' (List.getElem?_eq_getElem h3)
        exact ⟨x4, h4, _, a4, bl'.get (List.getElem_mem h3)⟩
      obtain ⟨x4, h4, u4, a4, b4⟩ := tk
      refine ebs_cons (eb_mono (eb_cat hw (eb_slice hw (ev_var rfl) ha' na' hl' eo_none (eo_some ev_c) bl') (eb_slice hw (ev_var rfl) ha na hl (eo_some ev_c) eo_none bl) (by omega)) (mono (by decide) (by omega))) (ebs_cons (eb_mono (eb_cat hw (eb_cat hw (eb_slice hw (ev_var rfl) ha na hl eo_none (eo_some ev_c) bl)
        (eb_tup (R' := Part 23002 5 0 1) hw (ebs_cons (R := fun u => Bd u 23000 5 0) (eb_ev (ev_ixT (K := K) (j := 3) (ev_var rfl) ha' h4) a4 b4) ebs_nil) (by decide) fun ws hl hr => ?_) (by omega)) (eb_slice hw (ev_var rfl) ha na hl (eo_some ev_c) eo_none bl) (by omega)) (mono (by decide) (by omega))) ebs_nil)
      match ws, hl with
      | [w1], _ => exact ⟨_, rfl, BdL.one (hr w1 (by simp)), Nat.le_refl _⟩
    · obtain ⟨ws, rfl, bw, lw⟩ := b
      exact k x (.tup ws) HH (E5.trans DD) a ((Bd.tup bw).mono (by decide) (by decide) (by decide))
  have E4 := E3.trans D4
  have hk1 : kd ≠ 1 := fun z => of_decide_eq_false q1 (by rw [z])
  have a4 := At.drawn D4 hv
  refine q_forRX (R := fun n H' => n ≤ 2 ∧ Drawn wl H4 H') ?md (fun n H' h => by omega) (fun n i σ' H' => n ≤ 2 ∧ ∃ (v : V) (u' : U) (x4 : Option V), σ' = [some (V.ref wl.w), some (.int kd), some v, none, x4] ∧ Drawn wl H4 H' ∧ At wl.w C H' v u' ∧ Bd u' (Mk5 i) (6 + 6 * i) i)
    (fun n H' h => ⟨h.1, v, .tup us, none, rfl, h.2, At.drawn h.2 a4, (Bd.tup bl).mono (Nat.le_refl _) (Nat.le_refl _) (Nat.le_refl _)⟩) ?_ ?_
  case md =>
    refine fun Q q => ⟨sz_of (show (7 : Nat) ≤ 100000 by decide), fun l hl => ?_⟩
    have pick : ∃ t : Nat, t ≤ 2 ∧ atI ([.int 0, .int 0, .int 0, .int 1, .int 1, .int 1, .int 2] : List V) (kd - 2) = some (.int (t : Int)) := by
      have : kd = 2 ∨ kd = 3 ∨ kd = 4 ∨ kd = 5 ∨ kd = 6 ∨ kd = 7 ∨ kd = 8 := by omega
      rcases this with rfl | rfl | rfl | rfl | rfl | rfl | rfl
      · exact ⟨0, by decide, rfl⟩
      · exact ⟨0, by decide, rfl⟩
      · exact ⟨0, by decide, rfl⟩
      · exact ⟨1, by decide, rfl⟩
      · exact ⟨1, by decide, rfl⟩
      · exact ⟨1, by decide, rfl⟩
      · exact ⟨2, by decide, rfl⟩
    obtain ⟨t, ht, hat⟩ := pick
    exact ⟨_, rfl, _, _, rfl, rfl, l, _, kd - 2, .int (t : Int), rfl, rfl, SqL.of upd_same, hat, q t _ ⟨ht, (Drawn.refl D4.well).new hl⟩⟩
  · rintro n i σ' H5 hi ⟨hn, v, u', x4, rfl, D5, hv, bv⟩
    have hms : Mk5 i ≤ 50000 := by
      rcases (show i = 0 ∨ i = 1 by omega) with rfl | rfl <;> decide
    have hdep : dep u' < 30 := by
      have := bv.d
      omega
    have hnod : nod u' ≤ 50000 := Nat.le_trans (nod_wt u') (Nat.le_trans bv.w hms)
    have hnp := nod_pos u'
    exact ⟨_, rfl, _, rfl, _, rfl, v, u', wl.w, rfl, hv, bv.fine (by omega) (by omega), hdep, fun H6 s6 => ⟨wl, (nod u' : Int), rfl, D5.well.same s6, by omega, by omega, fun e H7 e0 e1 D7 => ⟨_, rfl, wl, v, u', e, Mk5 i, 6 + 6 * i, i, rfl, D7.well, At.drawn D7 (ex_at s6 hv), bv, by omega, by omega, hdep, e0, e1, fun v' u2 H8 D8 hv' bv' => ⟨hn, v', u2, _, rfl, ((D5.same s6).trans D7).trans D8, hv', bv'⟩⟩⟩⟩
  · rintro n σ' H5 ⟨hn, v, u', x4, rfl, D5, hv, bv⟩
    have hms : Mk5 n ≤ 100000 := by
      rcases (show n = 0 ∨ n = 1 ∨ n = 2 by omega) with rfl | rfl | rfl <;> decide
    exact ⟨_, rfl, k v u' H5 (E4.trans D5) hv (bv.mono hms (by omega) hn)⟩
end
end Hs
/-! the law -/
namespace Hs
open PySem PySem.Spec PyProof.Rows L2 Hu Evl
theorem boot_repr' : bootBuiltins "repr" = some (.builtin "repr") := by decide +kernel
abbrev rRep (C : Addr) : List V → Hp → VK → Prop := fun xs H Q => ∃ (v : V) (u : U) (w : Addr), xs = [v] ∧ At w C H v u ∧ smallU u ∧ dep u ≤ 60 ∧ (Hu.shown nmT u).length ≤ sizeLine ∧ Q (.str (Hu.shown nmT u)) H
section
variable {σ : L2.St} {H : Hp} {te : TE} {v : V} {u : U} {w C : Addr} {t : TT} {tu tw tz : TS} {D : Ends}
theorem ev_repr (h : Ev te σ H v) (hat : At w C H v u) (bd : Bd u 100000 20 2) : Ev (tCB (rRep C) (tCons te tNil)) σ H (.str (Hu.shown nmT u)) :=
  ev_cb (ea_cons h ea_nil) fun H1 e Q q => ⟨v, u, w, rfl, ex_at e hat, tidy_small (by decide) _ bd.c, by have := bd.d; omega, len_fine (by have := shown_wt (b := 2) (by decide) u bd.c; have := bd.w; omega), q H1 (Ex.refl H1)⟩
theorem s_next (h : D.nx σ H) : tNext D σ H := h
end
abbrev nmL : List Str := ["script", "well", "turn", "thing", "before", "told"]
section
variable {P : Program} {wd : World} {K : PySem.W.Frag} {mg : Str → Option Value} {base : Heap} {C : Addr} {fD : Addr} {dD : FuncData}
theorem scLaw : FnScope nmL ["script"] (defScope lLaw) := ⟨rfl, rfl, rfl, by decide +kernel, rfl, by decide +kernel, by decide +kernel⟩
theorem law_core {fW fT fJ fL : Addr} {dW dT dJ dL : FuncData} {A : Around} {outer : List Env} {s : Shared} {H : Hp} {fa : Addr} {cdv : Value} {a : Addr} {ns : List Int} {E : XK} (hS : SqL K H a (ns.map V.int)) (hr : Room 40 (A.deeper (envOfC "law" (defScope lLaw) s.heap.objs.size fa cdv))) (bare : (A.deeper (envOfC "law" (defScope lLaw) s.heap.objs.size fa cdv)).guards = some [])
    (S : Bs K mg C) (D : Dd P wd K mg base fD dD) (DW : Df K mg "_law_well" sWell ["script"] fW dW) (GW : FnOk P wd K mg base CX0 40 fW dW ["script"] (spWell K)) (DT : Df K mg "_law_thing" lThingK ["well"] fT dT) (GT : FnOk P wd K mg base CX0 40 fT dT ["well"] (spThK C))
    (J : Jw P wd K mg base C 11 "is_letter" "thing" fJ dJ Sm (gLetter thT toT amT)) (JL : Jw P wd K mg base C 9 "_law_letter_fits" "thing" fL dL Sm (gLetter thT toT amT)) :
    ∃ t, PSs (cxOf CX0 P wd K mg base nmL "law" (defScope lLaw) fa cdv A outer s H E) (defBody lLaw) t ∧ t { nx := fun _ H' => (fun (v : V) (_ : Hp) => v = .bl true) .non H', rt := fun v _ => v = .bl true } (L2.start nmL [.ref a]) H := by
  have B := S.B
  suffices hh : ∃ t, PSs (cxOf CX0 P wd K mg base nmL "law" (defScope lLaw) fa cdv A outer s H E).nox (defBody lLaw) t ∧ t { nx := fun _ H' => (fun (v : V) (_ : Hp) => v = .bl true) .non H', rt := fun v _ => v = .bl true } (L2.start nmL [.ref a]) H by
    obtain ⟨t, h, q⟩ := hh
    exact ⟨t, h.nox, q⟩
  refine ⟨_, pss_cons (ps_set (i := 1) scLaw.nd rfl (.inl rfl) (pe_call GW hr (by rfl) DW.g DW.F.kp DW.b .nil pass0 (pa_cons (pv 0) pa_nil)))
    (pss_cons (ps_for PassesOwn.never rfl (pi_range1 (by rfl) B.range (pa_cons (pe_op op_add pe_int (pe_draw D hr (by decide) (by rfl) (pv 1) pe_int)) pa_nil)) (pg_name (i := 2) scLaw.nd rfl (Or.inl rfl))
      (pss_cons (ps_set (i := 3) scLaw.nd rfl (.inl rfl) (pe_call GT hr (by rfl) DT.g DT.F.kp DT.b .nil pass0 (pa_cons (pv 1) pa_nil)))
      (pss_cons (ps_set (i := 4) scLaw.nd rfl (.inl rfl) (pe_callB (call_reprU (nm := nmT) hr bare S.E.r) (by rfl) B.rep boot_repr' (pa_cons (pv 3) pa_nil)))
      (pss_cons (ps_set (i := 5) scLaw.nd rfl (.inl rfl) (pe_Jw J hr (by decide) (by rfl) pass0 (pv 3)))
      (pss_cons (ps_if (PW.pt (pw_or (pt_not (pt_val (pe_isiX S (by rfl) (by rfl) S.B.boo boot_bool' (by decide) (pv 5) (by decide) (by decide)))) (pw_or1 (pt_cmpR op_ne (pv 5) (pe_Jw JL hr (by decide) (by rfl) pass0 (pv 3)) (nomark _))))) (pss_one (ps_ret pe_bl)) pss_nil)
      (pss_one (ps_if (pt_cmpR op_ne (pe_callB (call_reprU (nm := nmT) hr bare S.E.r) (by rfl) B.rep boot_repr' (pa_cons (pv 3) pa_nil)) (pv 4) (nomark _)) (pss_one (ps_ret pe_bl)) pss_nil)))))))
    (pss_one (ps_ret pe_bl))), ?_⟩
  refine ⟨_, rfl, a, ns, rfl, hS, fun wl H1 s1 W => ?_⟩
  refine ⟨_, rfl, wl, 10, rfl, W, by decide, by decide, fun c H2 c0 c1 D2 => ⟨_, _, rfl, rfl, 3 + c, rfl, by omega, by omega, ?_⟩⟩
  refine for_range (lo := 0) (n := (3 + c).toNat) (fun i σ H' => ∃ x2 x3 x4 x5 : Option V, σ = [some (.ref a), some (.ref wl.w), x2, x3, x4, x5] ∧ Well H' wl) ⟨none, none, none, none, rfl, D2.well⟩ ?_ ?_
  · rintro i σ H3 hi ⟨x2, x3, x4, x5, rfl, W3⟩
    refine ⟨_, rfl, wl, rfl, W3, fun v u H4 D4 hv bv => ?_⟩
    have fi : Fine u := bv.fine (by omega) (by omega)
    have sm : Sm u := by
      have := bv.w
      show wt u ≤ 160000
      omega
    have hw4 := D4.well.at
    dsimp only [gName]
    refine q_asg (ev_repr (C := C) (ev_var rfl) hv bv) fun H5 e5 => ?_
    refine q_asg (ev_Jw (ev_var rfl) (ex_at e5 hv) fi sm (hw4.imp fun o z => e5 _ _ z)) fun H6 e6 => ?_
    have e46 := e5.trans e6
    refine q_when (b := false) (et_is (et_or (et_not (et_B (ev_isi (C := C) (w := wl.w) (u := .bl (gLetter thT toT amT u)) (ev_var rfl) (.bl _)))) fun _ => et_test (ev_op (ev_var rfl) (ev_Jw (ev_var rfl) (ex_at e46 hv) fi sm (hw4.imp fun o z => e46 _ _ z)) (rv_ne rfl))) (by rw [decide_eq_true rfl]; rfl)) (fun z => by cases z) (fun _ H7 e7 => ?_)
    have e47 := e46.trans e7
    exact s_if (b := false) (et_is (et_test (ev_op (ev_repr (C := C) (ev_var rfl) (ex_at e47 hv) bv) (ev_var rfl) (rv_ne rfl))) (by rw [decide_eq_true rfl]; rfl)) (fun z => by cases z) fun _ H12 e12 => s_next ⟨_, _, _, _, rfl, D4.well.same (e47.trans e12)⟩
  · rintro σ H3 ⟨x2, x3, x4, x5, rfl, W3⟩
    exact rfl
end
end Hs
namespace Hs
open PySem PySem.Spec PyProof.Rows L2 Hu Evl
/-- all that the law's run reaches -/
structure La (K : PySem.W.Frag) (w : World) (mg : Str → Option Value) : Prop where
  B : Bt mg
  Z : Bz mg
  N : Cn mg
  P64 : ∃ t, mg "MOST_PLACES" = some (.int 64 t)
  E : ∃ C, Xc K mg "NoTable" C "NoTable" ∧ Eqx K C
  tTO_HANDS : ∃ (a : Addr) (es : Array DictEntry) (n : Nat), KTab K w mg "TO_HANDS" thT a es n
  tTO_HOMES : ∃ (a : Addr) (es : Array DictEntry) (n : Nat), KTab K w mg "TO_HOMES" toT a es n
  tAMONG_HOMES : ∃ (a : Addr) (es : Array DictEntry) (n : Nat), KTab K w mg "AMONG_HOMES" amT a es n
  dis_integer : ∃ (f : Addr) (d : FuncData), Df K mg "is_integer" sIsInt ["thing"] f d
  dis_from_one : ∃ (f : Addr) (d : FuncData), Df K mg "is_from_one" sFromOne ["thing"] f d
  dis_pair : ∃ (f : Addr) (d : FuncData), Df K mg "is_pair" sPair ["thing"] f d
  dis_signs : ∃ (f : Addr) (d : FuncData), Df K mg "is_signs" sIsSigns ["thing"] f d
  dis_ascending : ∃ (f : Addr) (d : FuncData), Df K mg "is_ascending" sAscending ["things"] f d
  dis_home : ∃ (f : Addr) (d : FuncData), Df K mg "is_home" sHome ["thing"] f d
  dis_hand : ∃ (f : Addr) (d : FuncData), Df K mg "is_hand" sHand ["thing"] f d
  dis_name : ∃ (f : Addr) (d : FuncData), Df K mg "is_name" sName ["thing"] f d
  dis_piece : ∃ (f : Addr) (d : FuncData), Df K mg "is_piece" sPiece ["thing"] f d
  dis_block_id : ∃ (f : Addr) (d : FuncData), Df K mg "is_block_id" sBlockId ["thing"] f d
  dis_row : ∃ (f : Addr) (d : FuncData), Df K mg "is_row" sRow ["thing"] f d
  dis_stamp : ∃ (f : Addr) (d : FuncData), Df K mg "is_stamp" sStamp ["thing"] f d
  dis_members : ∃ (f : Addr) (d : FuncData), Df K mg "is_members" sMembers ["thing"] f d
  dis_count : ∃ (f : Addr) (d : FuncData), Df K mg "is_count" sCount ["thing"] f d
  dis_tuple_of : ∃ (f : Addr) (d : FuncData), Df K mg "is_tuple_of" sTO ["many", "thing"] f d
  dis_ahead : ∃ (f : Addr) (d : FuncData), Df K mg "is_ahead" sAhead ["thing"] f d
  dis_vote : ∃ (f : Addr) (d : FuncData), Df K mg "is_vote" sVote ["thing"] f d
  dis_heads : ∃ (f : Addr) (d : FuncData), Df K mg "is_heads" sHeads ["thing"] f d
  d_is_named_head : ∃ (f : Addr) (d : FuncData), Df K mg "_is_named_head" sNamed ["thing"] f d
  dis_blocks : ∃ (f : Addr) (d : FuncData), Df K mg "is_blocks" sBlocks ["thing"] f d
  d_is_block : ∃ (f : Addr) (d : FuncData), Df K mg "_is_block" sBlk ["thing"] f d
  dis_names : ∃ (f : Addr) (d : FuncData), Df K mg "is_names" sNames ["thing"] f d
  dis_ids : ∃ (f : Addr) (d : FuncData), Df K mg "is_ids" sIds ["thing"] f d
  dis_counts : ∃ (f : Addr) (d : FuncData), Df K mg "is_counts" sCounts ["thing", "most"] f d
  dis_part : ∃ (f : Addr) (d : FuncData), Df K mg "is_part" sPartK ["kind", "thing"] f d
  d_is_lot : ∃ (f : Addr) (d : FuncData), Df K mg "_is_lot" sLot ["kind", "thing"] f d
  dare_parts : ∃ (f : Addr) (d : FuncData), Df K mg "are_parts" sPartsK ["kinds", "things"] f d
  dis_machine : ∃ (f : Addr) (d : FuncData), Df K mg "is_machine" sMachine ["thing"] f d
  d_is_told : ∃ (f : Addr) (d : FuncData), Df K mg "_is_told" sTold ["to", "by", "word", "rest"] f d
  dis_letter : ∃ (f : Addr) (d : FuncData), Df K mg "is_letter" sLetter ["thing"] f d
  d_law_mixed : ∃ (f : Addr) (d : FuncData), Df K mg "_law_mixed" sMixed ["number"] f d
  d_law_well : ∃ (f : Addr) (d : FuncData), Df K mg "_law_well" sWell ["script"] f d
  d_law_filled : ∃ (f : Addr) (d : FuncData), Df K mg "_law_filled" sFilled ["well"] f d
  d_law_draw : ∃ (f : Addr) (d : FuncData), Df K mg "_law_draw" sDraw ["well", "many"] f d
  d_law_number : ∃ (f : Addr) (d : FuncData), Df K mg "_law_number" lNumber ["well"] f d
  d_law_signs : ∃ (f : Addr) (d : FuncData), Df K mg "_law_signs" sSigns [] f d
  d_law_string : ∃ (f : Addr) (d : FuncData), Df K mg "_law_string" sString ["well", "many"] f d
  d_law_name : ∃ (f : Addr) (d : FuncData), Df K mg "_law_name" lName ["well"] f d
  d_law_unlike : ∃ (f : Addr) (d : FuncData), Df K mg "_law_unlike" lUnlike ["things"] f d
  d_law_any : ∃ (f : Addr) (d : FuncData), Df K mg "_law_any" lAny ["well", "deep"] f d
  d_law_nodes : ∃ (f : Addr) (d : FuncData), Df K mg "_law_nodes" lNodes ["thing"] f d
  d_law_changed : ∃ (f : Addr) (d : FuncData), Df K mg "_law_changed" lChanged ["thing", "well"] f d
  d_law_spoilt : ∃ (f : Addr) (d : FuncData), Df K mg "_law_spoilt" lSpoilt ["thing", "at", "well"] f d
  d_law_id : ∃ (f : Addr) (d : FuncData), Df K mg "_law_id" lId ["well"] f d
  d_law_stamp : ∃ (f : Addr) (d : FuncData), Df K mg "_law_stamp" lStamp ["well"] f d
  d_law_row : ∃ (f : Addr) (d : FuncData), Df K mg "_law_row" lRow ["well", "ids"] f d
  d_law_members : ∃ (f : Addr) (d : FuncData), Df K mg "_law_members" lMembers ["well"] f d
  d_law_heads : ∃ (f : Addr) (d : FuncData), Df K mg "_law_heads" lHeads ["well", "names", "ids"] f d
  d_law_blocks : ∃ (f : Addr) (d : FuncData), Df K mg "_law_blocks" lBlocks ["well", "ids", "share"] f d
  d_law_vote : ∃ (f : Addr) (d : FuncData), Df K mg "_law_vote" lVoteL ["well"] f d
  d_law_count : ∃ (f : Addr) (d : FuncData), Df K mg "_law_count" lCount ["thing"] f d
  d_law_long : ∃ (f : Addr) (d : FuncData), Df K mg "_law_long" lLong ["thing", "many"] f d
  d_law_rising : ∃ (f : Addr) (d : FuncData), Df K mg "_law_rising" lRising ["things"] f d
  d_law_name_fits : ∃ (f : Addr) (d : FuncData), Df K mg "_law_name_fits" lNameFits ["thing"] f d
  d_law_hand_fits : ∃ (f : Addr) (d : FuncData), Df K mg "_law_hand_fits" lHandFits ["thing"] f d
  d_law_signs_fit : ∃ (f : Addr) (d : FuncData), Df K mg "_law_signs_fit" lSignsFit ["thing", "least", "most"] f d
  d_law_id_fits : ∃ (f : Addr) (d : FuncData), Df K mg "_law_id_fits" lIdFits ["thing"] f d
  d_law_stamp_fits : ∃ (f : Addr) (d : FuncData), Df K mg "_law_stamp_fits" lStampFits ["thing"] f d
  d_law_row_fits : ∃ (f : Addr) (d : FuncData), Df K mg "_law_row_fits" lRowFits ["thing"] f d
  d_law_members_fit : ∃ (f : Addr) (d : FuncData), Df K mg "_law_members_fit" lMembersFit ["thing"] f d
  d_law_heads_fit : ∃ (f : Addr) (d : FuncData), Df K mg "_law_heads_fit" lHeadsFit ["thing"] f d
  d_law_head_fits : ∃ (f : Addr) (d : FuncData), Df K mg "_law_head_fits" lHeadFits ["thing"] f d
  d_law_block_fits : ∃ (f : Addr) (d : FuncData), Df K mg "_law_block_fits" lBlockFits ["thing"] f d
  d_law_blocks_fit : ∃ (f : Addr) (d : FuncData), Df K mg "_law_blocks_fit" lBlocksFit ["thing"] f d
  d_law_vote_fits : ∃ (f : Addr) (d : FuncData), Df K mg "_law_vote_fits" lVoteFits ["thing"] f d
  d_law_ahead_fits : ∃ (f : Addr) (d : FuncData), Df K mg "_law_ahead_fits" lAheadFits ["thing"] f d
  d_law_machine : ∃ (f : Addr) (d : FuncData), Df K mg "_law_machine" lMachine ["well", "word"] f d
  d_law_to_home : ∃ (f : Addr) (d : FuncData), Df K mg "_law_to_home" lToHome ["well", "names", "ids"] f d
  d_law_numbers : ∃ (f : Addr) (d : FuncData), Df K mg "_law_numbers" lNumbers ["well"] f d
  d_law_between : ∃ (f : Addr) (d : FuncData), Df K mg "_law_between" lBetween ["well", "names", "ids"] f d
  d_law_plain_to_hand : ∃ (f : Addr) (d : FuncData), Df K mg "_law_plain_to_hand" lPlain ["well", "names", "ids", "kind"] f d
  d_law_to_hand : ∃ (f : Addr) (d : FuncData), Df K mg "_law_to_hand" lToHand ["well", "names", "ids"] f d
  d_law_letter : ∃ (f : Addr) (d : FuncData), Df K mg "_law_letter" lLetter ["well"] f d
  d_law_thing : ∃ (f : Addr) (d : FuncData), Df K mg "_law_thing" lThing ["well"] f d
  d_law_machine_fits : ∃ (f : Addr) (d : FuncData), Df K mg "_law_machine_fits" lMachFits ["thing"] f d
  d_law_ids_fit : ∃ (f : Addr) (d : FuncData), Df K mg "_law_ids_fit" lIdsFit ["thing"] f d
  d_law_names_fit : ∃ (f : Addr) (d : FuncData), Df K mg "_law_names_fit" lNamesFit ["thing"] f d
  d_law_counts_fit : ∃ (f : Addr) (d : FuncData), Df K mg "_law_counts_fit" lCountsFit ["thing", "most"] f d
  d_law_many_fits : ∃ (f : Addr) (d : FuncData), Df K mg "_law_many_fits" lManyFits ["thing"] f d
  d_law_named_fits : ∃ (f : Addr) (d : FuncData), Df K mg "_law_named_fits" lNamedFits ["rest", "many"] f d
  d_law_to_home_fits : ∃ (f : Addr) (d : FuncData), Df K mg "_law_to_home_fits" lToHomeF ["word", "rest"] f d
  d_law_between_fits : ∃ (f : Addr) (d : FuncData), Df K mg "_law_between_fits" lBetweenF ["word", "rest"] f d
  d_law_voting_fits : ∃ (f : Addr) (d : FuncData), Df K mg "_law_voting_fits" lVotingF ["word", "rest"] f d
  d_law_to_hand_fits : ∃ (f : Addr) (d : FuncData), Df K mg "_law_to_hand_fits" lToHandF ["word", "rest"] f d
  d_law_letter_fits : ∃ (f : Addr) (d : FuncData), Df K mg "_law_letter_fits" lLetterF ["thing"] f d
section
variable {P : Program} {wd : World} {K : PySem.W.Frag} {mg : Str → Option Value} {base : Heap}
set_option maxHeartbeats 4000000 in
theorem law_body (L : La K wd mg) {A : Around} {outer : List Env} {s : Shared} {H : Hp} {fa : Addr} {cdv : Value} {a : Addr} {ns : List Int} {E : XK} (hS : SqL K H a (ns.map V.int)) (hr : Room 40 (A.deeper (envOfC "law" (defScope lLaw) s.heap.objs.size fa cdv))) (bare : (A.deeper (envOfC "law" (defScope lLaw) s.heap.objs.size fa cdv)).guards = some []) :
    ∃ t, PSs (cxOf CX0 P wd K mg base nmL "law" (defScope lLaw) fa cdv A outer s H E) (defBody lLaw) t ∧ t { nx := fun _ H' => (fun (v : V) (_ : Hp) => v = .bl true) .non H', rt := fun v _ => v = .bl true } (L2.start nmL [.ref a]) H := by
  obtain ⟨f_is_integer, d_is_integer, D_is_integer⟩ := L.dis_integer
  have F_is_integer := D_is_integer.F
  obtain ⟨f_is_from_one, d_is_from_one, D_is_from_one⟩ := L.dis_from_one
  have F_is_from_one := D_is_from_one.F
  obtain ⟨f_is_pair, d_is_pair, D_is_pair⟩ := L.dis_pair
  have F_is_pair := D_is_pair.F
  obtain ⟨f_is_signs, d_is_signs, D_is_signs⟩ := L.dis_signs
  have F_is_signs := D_is_signs.F
  obtain ⟨f_is_ascending, d_is_ascending, D_is_ascending⟩ := L.dis_ascending
  have F_is_ascending := D_is_ascending.F
  obtain ⟨f_is_home, d_is_home, D_is_home⟩ := L.dis_home
  have F_is_home := D_is_home.F
  obtain ⟨f_is_hand, d_is_hand, D_is_hand⟩ := L.dis_hand
  have F_is_hand := D_is_hand.F
  obtain ⟨f_is_name, d_is_name, D_is_name⟩ := L.dis_name
  have F_is_name := D_is_name.F
  obtain ⟨f_is_piece, d_is_piece, D_is_piece⟩ := L.dis_piece
  have F_is_piece := D_is_piece.F
  obtain ⟨f_is_block_id, d_is_block_id, D_is_block_id⟩ := L.dis_block_id
  have F_is_block_id := D_is_block_id.F
  obtain ⟨f_is_row, d_is_row, D_is_row⟩ := L.dis_row
  have F_is_row := D_is_row.F
  obtain ⟨f_is_stamp, d_is_stamp, D_is_stamp⟩ := L.dis_stamp
  have F_is_stamp := D_is_stamp.F
  obtain ⟨f_is_members, d_is_members, D_is_members⟩ := L.dis_members
  have F_is_members := D_is_members.F
  obtain ⟨f_is_count, d_is_count, D_is_count⟩ := L.dis_count
  have F_is_count := D_is_count.F
  obtain ⟨f_is_tuple_of, d_is_tuple_of, D_is_tuple_of⟩ := L.dis_tuple_of
  have F_is_tuple_of := D_is_tuple_of.F
  obtain ⟨f_is_ahead, d_is_ahead, D_is_ahead⟩ := L.dis_ahead
  have F_is_ahead := D_is_ahead.F
  obtain ⟨f_is_vote, d_is_vote, D_is_vote⟩ := L.dis_vote
  have F_is_vote := D_is_vote.F
  obtain ⟨f_is_heads, d_is_heads, D_is_heads⟩ := L.dis_heads
  have F_is_heads := D_is_heads.F
  obtain ⟨f__is_named_head, d__is_named_head, D__is_named_head⟩ := L.d_is_named_head
  have F__is_named_head := D__is_named_head.F
  obtain ⟨f_is_blocks, d_is_blocks, D_is_blocks⟩ := L.dis_blocks
  have F_is_blocks := D_is_blocks.F
  obtain ⟨f__is_block, d__is_block, D__is_block⟩ := L.d_is_block
  have F__is_block := D__is_block.F
  obtain ⟨f_is_names, d_is_names, D_is_names⟩ := L.dis_names
  have F_is_names := D_is_names.F
  obtain ⟨f_is_ids, d_is_ids, D_is_ids⟩ := L.dis_ids
  have F_is_ids := D_is_ids.F
  obtain ⟨f_is_counts, d_is_counts, D_is_counts⟩ := L.dis_counts
  have F_is_counts := D_is_counts.F
  obtain ⟨f_is_part, d_is_part, D_is_part⟩ := L.dis_part
  have F_is_part := D_is_part.F
  obtain ⟨f__is_lot, d__is_lot, D__is_lot⟩ := L.d_is_lot
  have F__is_lot := D__is_lot.F
  obtain ⟨f_are_parts, d_are_parts, D_are_parts⟩ := L.dare_parts
  have F_are_parts := D_are_parts.F
  obtain ⟨f_is_machine, d_is_machine, D_is_machine⟩ := L.dis_machine
  have F_is_machine := D_is_machine.F
  obtain ⟨f__is_told, d__is_told, D__is_told⟩ := L.d_is_told
  have F__is_told := D__is_told.F
  obtain ⟨f_is_letter, d_is_letter, D_is_letter⟩ := L.dis_letter
  have F_is_letter := D_is_letter.F
  obtain ⟨f__law_mixed, d__law_mixed, D__law_mixed⟩ := L.d_law_mixed
  have F__law_mixed := D__law_mixed.F
  obtain ⟨f__law_well, d__law_well, D__law_well⟩ := L.d_law_well
  have F__law_well := D__law_well.F
  obtain ⟨f__law_filled, d__law_filled, D__law_filled⟩ := L.d_law_filled
  have F__law_filled := D__law_filled.F
  obtain ⟨f__law_draw, d__law_draw, D__law_draw⟩ := L.d_law_draw
  have F__law_draw := D__law_draw.F
  obtain ⟨f__law_number, d__law_number, D__law_number⟩ := L.d_law_number
  have F__law_number := D__law_number.F
  obtain ⟨f__law_signs, d__law_signs, D__law_signs⟩ := L.d_law_signs
  have F__law_signs := D__law_signs.F
  obtain ⟨f__law_string, d__law_string, D__law_string⟩ := L.d_law_string
  have F__law_string := D__law_string.F
  obtain ⟨f__law_name, d__law_name, D__law_name⟩ := L.d_law_name
  have F__law_name := D__law_name.F
  obtain ⟨f__law_unlike, d__law_unlike, D__law_unlike⟩ := L.d_law_unlike
  have F__law_unlike := D__law_unlike.F
  obtain ⟨f__law_any, d__law_any, D__law_any⟩ := L.d_law_any
  have F__law_any := D__law_any.F
  obtain ⟨f__law_nodes, d__law_nodes, D__law_nodes⟩ := L.d_law_nodes
  have F__law_nodes := D__law_nodes.F
  obtain ⟨f__law_changed, d__law_changed, D__law_changed⟩ := L.d_law_changed
  have F__law_changed := D__law_changed.F
  obtain ⟨f__law_spoilt, d__law_spoilt, D__law_spoilt⟩ := L.d_law_spoilt
  have F__law_spoilt := D__law_spoilt.F
  obtain ⟨f__law_id, d__law_id, D__law_id⟩ := L.d_law_id
  have F__law_id := D__law_id.F
  obtain ⟨f__law_stamp, d__law_stamp, D__law_stamp⟩ := L.d_law_stamp
  have F__law_stamp := D__law_stamp.F
  obtain ⟨f__law_row, d__law_row, D__law_row⟩ := L.d_law_row
  have F__law_row := D__law_row.F
  obtain ⟨f__law_members, d__law_members, D__law_members⟩ := L.d_law_members
  have F__law_members := D__law_members.F
  obtain ⟨f__law_heads, d__law_heads, D__law_heads⟩ := L.d_law_heads
  have F__law_heads := D__law_heads.F
  obtain ⟨f__law_blocks, d__law_blocks, D__law_blocks⟩ := L.d_law_blocks
  have F__law_blocks := D__law_blocks.F
  obtain ⟨f__law_vote, d__law_vote, D__law_vote⟩ := L.d_law_vote
  have F__law_vote := D__law_vote.F
  obtain ⟨f__law_count, d__law_count, D__law_count⟩ := L.d_law_count
  have F__law_count := D__law_count.F
  obtain ⟨f__law_long, d__law_long, D__law_long⟩ := L.d_law_long
  have F__law_long := D__law_long.F
  obtain ⟨f__law_rising, d__law_rising, D__law_rising⟩ := L.d_law_rising
  have F__law_rising := D__law_rising.F
  obtain ⟨f__law_name_fits, d__law_name_fits, D__law_name_fits⟩ := L.d_law_name_fits
  have F__law_name_fits := D__law_name_fits.F
  obtain ⟨f__law_hand_fits, d__law_hand_fits, D__law_hand_fits⟩ := L.d_law_hand_fits
  have F__law_hand_fits := D__law_hand_fits.F
  obtain ⟨f__law_signs_fit, d__law_signs_fit, D__law_signs_fit⟩ := L.d_law_signs_fit
  have F__law_signs_fit := D__law_signs_fit.F
  obtain ⟨f__law_id_fits, d__law_id_fits, D__law_id_fits⟩ := L.d_law_id_fits
  have F__law_id_fits := D__law_id_fits.F
  obtain ⟨f__law_stamp_fits, d__law_stamp_fits, D__law_stamp_fits⟩ := L.d_law_stamp_fits
  have F__law_stamp_fits := D__law_stamp_fits.F
  obtain ⟨f__law_row_fits, d__law_row_fits, D__law_row_fits⟩ := L.d_law_row_fits
  have F__law_row_fits := D__law_row_fits.F
  obtain ⟨f__law_members_fit, d__law_members_fit, D__law_members_fit⟩ := L.d_law_members_fit
  have F__law_members_fit := D__law_members_fit.F
  obtain ⟨f__law_heads_fit, d__law_heads_fit, D__law_heads_fit⟩ := L.d_law_heads_fit
  have F__law_heads_fit := D__law_heads_fit.F
  obtain ⟨f__law_head_fits, d__law_head_fits, D__law_head_fits⟩ := L.d_law_head_fits
  have F__law_head_fits := D__law_head_fits.F
  obtain ⟨f__law_block_fits, d__law_block_fits, D__law_block_fits⟩ := L.d_law_block_fits
  have F__law_block_fits := D__law_block_fits.F
  obtain ⟨f__law_blocks_fit, d__law_blocks_fit, D__law_blocks_fit⟩ := L.d_law_blocks_fit
  have F__law_blocks_fit := D__law_blocks_fit.F
  obtain ⟨f__law_vote_fits, d__law_vote_fits, D__law_vote_fits⟩ := L.d_law_vote_fits
  have F__law_vote_fits := D__law_vote_fits.F
  obtain ⟨f__law_ahead_fits, d__law_ahead_fits, D__law_ahead_fits⟩ := L.d_law_ahead_fits
  have F__law_ahead_fits := D__law_ahead_fits.F
  obtain ⟨f__law_machine, d__law_machine, D__law_machine⟩ := L.d_law_machine
  have F__law_machine := D__law_machine.F
  obtain ⟨f__law_to_home, d__law_to_home, D__law_to_home⟩ := L.d_law_to_home
  have F__law_to_home := D__law_to_home.F
  obtain ⟨f__law_numbers, d__law_numbers, D__law_numbers⟩ := L.d_law_numbers
  have F__law_numbers := D__law_numbers.F
  obtain ⟨f__law_between, d__law_between, D__law_between⟩ := L.d_law_between
  have F__law_between := D__law_between.F
  obtain ⟨f__law_plain_to_hand, d__law_plain_to_hand, D__law_plain_to_hand⟩ := L.d_law_plain_to_hand
  have F__law_plain_to_hand := D__law_plain_to_hand.F
  obtain ⟨f__law_to_hand, d__law_to_hand, D__law_to_hand⟩ := L.d_law_to_hand
  have F__law_to_hand := D__law_to_hand.F
  obtain ⟨f__law_letter, d__law_letter, D__law_letter⟩ := L.d_law_letter
  have F__law_letter := D__law_letter.F
  obtain ⟨f__law_thing, d__law_thing, D__law_thing⟩ := L.d_law_thing
  have F__law_thing := D__law_thing.F
  obtain ⟨f__law_machine_fits, d__law_machine_fits, D__law_machine_fits⟩ := L.d_law_machine_fits
  have F__law_machine_fits := D__law_machine_fits.F
  obtain ⟨f__law_ids_fit, d__law_ids_fit, D__law_ids_fit⟩ := L.d_law_ids_fit
  have F__law_ids_fit := D__law_ids_fit.F
  obtain ⟨f__law_names_fit, d__law_names_fit, D__law_names_fit⟩ := L.d_law_names_fit
  have F__law_names_fit := D__law_names_fit.F
  obtain ⟨f__law_counts_fit, d__law_counts_fit, D__law_counts_fit⟩ := L.d_law_counts_fit
  have F__law_counts_fit := D__law_counts_fit.F
  obtain ⟨f__law_many_fits, d__law_many_fits, D__law_many_fits⟩ := L.d_law_many_fits
  have F__law_many_fits := D__law_many_fits.F
  obtain ⟨f__law_named_fits, d__law_named_fits, D__law_named_fits⟩ := L.d_law_named_fits
  have F__law_named_fits := D__law_named_fits.F
  obtain ⟨f__law_to_home_fits, d__law_to_home_fits, D__law_to_home_fits⟩ := L.d_law_to_home_fits
  have F__law_to_home_fits := D__law_to_home_fits.F
  obtain ⟨f__law_between_fits, d__law_between_fits, D__law_between_fits⟩ := L.d_law_between_fits
  have F__law_between_fits := D__law_between_fits.F
  obtain ⟨f__law_voting_fits, d__law_voting_fits, D__law_voting_fits⟩ := L.d_law_voting_fits
  have F__law_voting_fits := D__law_voting_fits.F
  obtain ⟨f__law_to_hand_fits, d__law_to_hand_fits, D__law_to_hand_fits⟩ := L.d_law_to_hand_fits
  have F__law_to_hand_fits := D__law_to_hand_fits.F
  obtain ⟨f__law_letter_fits, d__law_letter_fits, D__law_letter_fits⟩ := L.d_law_letter_fits
  have F__law_letter_fits := D__law_letter_fits.F
  obtain ⟨a0, es0, n0, T0⟩ := L.tTO_HANDS
  obtain ⟨a1, es1, n1, T1⟩ := L.tTO_HOMES
  obtain ⟨a2, es2, n2, T2⟩ := L.tAMONG_HOMES
  obtain ⟨C, XE, XQ⟩ := L.E
  have B := L.B
  have Z := L.Z
  have N := L.N
  have N64 := L.P64
  have S : Bs K mg C := ⟨B, XE, XQ⟩
  have hZ := Z.zip
  have JI : Jd P wd K mg base C 1 "is_integer" "thing" f_is_integer d_is_integer gInt := jd_int D_is_integer S
  have JF := jd_from D_is_from_one S JI
  have JH := jd_home D_is_home S N JI
  have JHa := jd_hand D_is_hand S N JI
  have JP : Jd P wd K mg base C 1 "is_pair" "thing" f_is_pair d_is_pair gPair := jd_pair D_is_pair S
  have JS : Jd P wd K mg base C 1 "is_signs" "thing" f_is_signs d_is_signs gSigns := jd_signs D_is_signs S
  have JPc := jd_piece D_is_piece S N JS
  have JN : Jd P wd K mg base C 2 "is_name" "thing" f_is_name d_is_name gNam := jd_name D_is_name S N
  have JId := jd_id D_is_block_id S JP JHa JF
  have JR := jd_row D_is_row S N JId
  have JSt := jd_stamp D_is_stamp S JP JI JF JHa
  have JM := jd_members D_is_members S N JH D_is_ascending
  have JC := jd_cnt D_is_count S JI
  have JT : JTO P wd K mg base C f_is_tuple_of d_is_tuple_of := ⟨D_is_tuple_of, ok_TO D_is_tuple_of S⟩
  have JA := jw_ahead D_is_ahead S JM
  have JV := jd_vote D_is_vote S JP JSt JM
  have JNd := jd_named D__is_named_head S JT JN JSt JR
  have JBk := jd_blk D__is_block S JP JId JPc
  have JHs := jw_heads D_is_heads S JNd D_is_ascending
  have JBs := jw_blocks D_is_blocks S JBk D_is_ascending
  have JNs := jw_names D_is_names S JN D_is_ascending
  have JIs := jw_ids D_is_ids S JId D_is_ascending
  have GCs := ok_counts D_is_counts S JC
  have GLot : FnOk P wd K mg base CX0 7 f__is_lot d__is_lot ["kind", "thing"] (spPk C gLot) := by apply ok_lot <;> assumption
  have GPk : FnOk P wd K mg base CX0 8 f_is_part d_is_part ["kind", "thing"] (spPk C gPart) := by apply ok_partK <;> assumption
  have GPs : FnOk P wd K mg base CX0 9 f_are_parts d_are_parts ["kinds", "things"] (spPks K C) := by apply ok_partsK <;> assumption
  have JMa : Jd P wd K mg base C 3 "is_machine" "thing" f_is_machine d_is_machine gMach := by apply jd_machine <;> assumption
  have GTold : FnOk P wd K mg base CX0 10 f__is_told d__is_told ["to", "by", "word", "rest"] (spTold C thT toT amT) := ok_told D__is_told T0 T1 T2 (by decide +kernel) (by decide +kernel) (by decide +kernel) D_are_parts GPs
  have JLet : Jw P wd K mg base C 11 "is_letter" "thing" f_is_letter d_is_letter Sm (gLetter thT toT amT) := jw_letter D_is_letter S JT JMa JC D__is_told GTold
  -- the law's own judges
  have LC : Jd P wd K mg base C 1 "_law_count" "thing" f__law_count d__law_count gCount := jl_count D__law_count S
  have LN : Jd P wd K mg base C 2 "_law_name_fits" "thing" f__law_name_fits d__law_name_fits gNam := jl_name D__law_name_fits S
  have LH : Jd P wd K mg base C 2 "_law_hand_fits" "thing" f__law_hand_fits d__law_hand_fits gHand := jl_hand D__law_hand_fits S LC
  have LI : Jd P wd K mg base C 3 "_law_id_fits" "thing" f__law_id_fits d__law_id_fits gId := jl_id D__law_id_fits S D__law_long LH LC
  have LS : Jd P wd K mg base C 3 "_law_stamp_fits" "thing" f__law_stamp_fits d__law_stamp_fits gStamp := jl_stamp D__law_stamp_fits S D__law_long LH LC
  have LR : Jd P wd K mg base C 4 "_law_row_fits" "thing" f__law_row_fits d__law_row_fits gRow := jl_row D__law_row_fits S LI
  have LM : Jd P wd K mg base C 4 "_law_members_fit" "thing" f__law_members_fit d__law_members_fit gMembers := jl_members D__law_members_fit S LC D__law_rising
  have JLo' : JLo P wd K mg base C f__law_long d__law_long := ⟨D__law_long, ok_longM D__law_long.F S⟩
  have LHd : Jw P wd K mg base C 5 "_law_head_fits" "thing" f__law_head_fits d__law_head_fits g3 gH3 := jl_headF D__law_head_fits S LN LS LR
  have LHs : Jw P wd K mg base C 6 "_law_heads_fit" "thing" f__law_heads_fit d__law_heads_fit Sm gHeads := jl_headsF D__law_heads_fit S LHd JLo' D__law_rising
  have LBk : Jd P wd K mg base C 5 "_law_block_fits" "thing" f__law_block_fits d__law_block_fits gBlk := jl_blkF D__law_block_fits S D__law_long LI D__law_signs_fit D__law_signs
  have LBs : Jw P wd K mg base C 6 "_law_blocks_fit" "thing" f__law_blocks_fit d__law_blocks_fit Sm gBlocks := jl_blocksF D__law_blocks_fit S LBk D__law_rising
  have LV : Jd P wd K mg base C 5 "_law_vote_fits" "thing" f__law_vote_fits d__law_vote_fits gV2 := jl_voteF D__law_vote_fits S D__law_long LS LM
  have LA' : Jd P wd K mg base C 5 "_law_ahead_fits" "thing" f__law_ahead_fits d__law_ahead_fits gAhead := jl_aheadF D__law_ahead_fits S JLo' LM
  have LMa : Jd P wd K mg base C 3 "_law_machine_fits" "thing" f__law_machine_fits d__law_machine_fits gMach := jl_machF D__law_machine_fits S D__law_long LC LH
  have LIs : Jw P wd K mg base C 6 "_law_ids_fit" "thing" f__law_ids_fit d__law_ids_fit Sm gIds := jl_idsF D__law_ids_fit S LI D__law_rising
  have LNs : Jw P wd K mg base C 6 "_law_names_fit" "thing" f__law_names_fit d__law_names_fit Sm gNames := jl_namesF D__law_names_fit S LN D__law_rising
  have LCs : FnOk P wd K mg base CX0 3 f__law_counts_fit d__law_counts_fit ["thing", "most"] (spCts C) := ok_countsF D__law_counts_fit S LC
  have LMy : Jd P wd K mg base C 2 "_law_many_fits" "thing" f__law_many_fits d__law_many_fits gMany := jl_manyF D__law_many_fits LC
  have LNm : FnOk P wd K mg base CX0 3 f__law_named_fits d__law_named_fits ["rest", "many"] (spNm C) := ok_namedF D__law_named_fits.F JLo' LN
  have LTo : FnOk P wd K mg base CX0 7 f__law_to_home_fits d__law_to_home_fits ["word", "rest"] (spWR C gToHomeL) := by apply ok_gToHomeL <;> assumption
  have LBe : FnOk P wd K mg base CX0 7 f__law_between_fits d__law_between_fits ["word", "rest"] (spWR C gBetweenL) := by apply ok_gBetweenL <;> assumption
  have LVo : FnOk P wd K mg base CX0 7 f__law_voting_fits d__law_voting_fits ["word", "rest"] (spWR C gVotingL) := by apply ok_gVotingL <;> assumption
  have LHa : FnOk P wd K mg base CX0 8 f__law_to_hand_fits d__law_to_hand_fits ["word", "rest"] (spWR C gToHandL) := by apply ok_gToHandL <;> assumption
  have LLet : Jw P wd K mg base C 9 "_law_letter_fits" "thing" f__law_letter_fits d__law_letter_fits Sm (gLetter thT toT amT) := jl_letterF D__law_letter_fits S JLo' LMa LC D__law_to_home_fits (LTo.mono (by decide)) D__law_to_hand_fits LHa D__law_between_fits (LBe.mono (by decide))
  -- the makers
  have R : Dr P wd K mg base f__law_mixed f__law_filled f__law_draw f__law_signs f__law_string d__law_mixed d__law_filled d__law_draw d__law_signs d__law_string := ⟨D__law_mixed, D__law_filled, D__law_draw, D__law_signs, D__law_string, B⟩
  have D : Dd P wd K mg base f__law_draw d__law_draw := ⟨ok_draw D__law_draw.F B D__law_mixed D__law_filled, D__law_draw.g, D__law_draw.F.kp, D__law_draw.b⟩
  have GT : FnOk P wd K mg base CX0 4 f__law_string d__law_string ["well", "many"] spString := ok_string R
  have GId := ok_idL D__law_id.F D D__law_number
  have GSt := ok_stampL D__law_stamp.F D D__law_number
  have GMe := ok_mem D__law_members.F B D
  have GNm := ok_name D__law_name.F B D
  have GRw := ok_rowL (C := C) D__law_row.F B D
  have GHs := ok_headsL D__law_heads.F B D D__law_stamp GSt D__law_row GRw
  have GBl := ok_blocksL (C := C) (kS := 4) D__law_blocks.F B D D__law_string (GT.mono (by decide))
  have GMa := ok_machL (C := C) D__law_machine.F D
  have GVo := ok_voteB (C := C) D__law_vote.F D D__law_stamp GSt D__law_members GMe
  have GNu := ok_nums (C := C) D__law_numbers.F B D D__law_number
  have GToH : FnOk P wd K mg base CX0 7 f__law_to_home d__law_to_home ["well", "names", "ids"] (spWR3 C) := by apply ok_ToHomeM <;> assumption
  have GBet : FnOk P wd K mg base CX0 7 f__law_between d__law_between ["well", "names", "ids"] (spWR3 C) := by apply ok_BetweenM <;> assumption
  have GPla : FnOk P wd K mg base CX0 7 f__law_plain_to_hand d__law_plain_to_hand ["well", "names", "ids", "kind"] (spPlain C) := by apply ok_PlainM <;> assumption
  have GToA : FnOk P wd K mg base CX0 8 f__law_to_hand d__law_to_hand ["well", "names", "ids"] (spWR3 C) := by apply ok_ToHandM <;> assumption
  have GUs : FnOk P wd K mg base CX0 2 f__law_unlike d__law_unlike ["things"] spUnS := ok_unS D__law_unlike.F Z
  have GUp : FnOk P wd K mg base CX0 2 f__law_unlike d__law_unlike ["things"] spUnP := ok_unP D__law_unlike.F Z
  have GLe : FnOk P wd K mg base CX0 9 f__law_letter d__law_letter ["well"] (spLetL C) := ok_letL D__law_letter.F B D D__law_unlike GUs GUp D__law_name GNm D__law_id GId D__law_machine GMa D__law_number D__law_to_home GToH D__law_between GBet D__law_to_hand GToA
  have GAny : ∀ n, FnOk P wd K mg base CX0 (4 + n + 1) f__law_any d__law_any ["well", "deep"] (spAny C n) := ok_anys D__law_any S D D__law_number D__law_name D__law_string GT
  have GCh : FnOk P wd K mg base CX0 7 f__law_changed d__law_changed ["thing", "well"] (spChanged C) := ok_lchanged D__law_changed.F S D D__law_any (GAny 1)
  have GSp : FnOk P wd K mg base CX0 37 f__law_spoilt d__law_spoilt ["thing", "at", "well"] (spSpoilt C 30) := ok_spoilt D__law_spoilt S D__law_changed GCh D__law_nodes 30
  have GNo : FnOk P wd K mg base CX0 30 f__law_nodes d__law_nodes ["thing"] (spNodes C 30) := ok_nodes D__law_nodes S 30
  have GTh : FnOk P wd K mg base CX0 40 f__law_thing d__law_thing ["well"] (spThK C) := ok_thingK D__law_thing.F B D D__law_letter GLe D__law_any ((GAny 3).mono (by decide)) D__law_spoilt (GSp.mono (by decide)) D__law_nodes (GNo.mono (by decide))
  have GW := ok_well (P := P) (w := wd) (base := base) D__law_well.F B
  exact law_core hS hr bare S D D__law_well (GW.mono (by decide)) D__law_thing GTh JLet LLet
end
end Hs
namespace Hs
open PySem PySem.Spec PyProof.Rows L2
section
variable {K : PySem.W.Frag} {h : Heap} {mg : Str → Option Value}
theorem df_mk {x : Str} {st : Stmt} {ps : List Str} {f : Addr} {oc : Value} {od an : Option Addr} {sl : Array (Option Value)} {kV dc pm cd ct : Value} (X : K.In h) (G : h.Ns mainGlobals mg)
    (a : PySem.W.nsIn K mainGlobals x = some (some (.ref f))) (l : K.lookup f = some ⟨oc, od, .func (PySem.W.fnOf x x (defArgs st) (defBody st) (defScope st) .none kV dc pm an cd ct), sl⟩) (c : PySem.W.codeIn K cd x = true) (k : PySem.W.keepIn K (.ref f) = true)
    (b : ∀ (kV doc pm : Value) (an : Option Addr) (cdv ct : Value) (us : List Value), us.length = ps.length → bindArgs (PySem.W.fnOf x x (defArgs st) (defBody st) (defScope st) .none kV doc pm an cdv ct) ⟨us, []⟩ = pure (ps.zip us)) :
    Df K mg x st ps f (PySem.W.fnOf x x (defArgs st) (defBody st) (defScope st) .none kV dc pm an cd ct) := by
  have F := fun_mk (st := st) l c k
  exact ⟨F, F.binds b, PySem.W.mg_of X G a⟩
theorem exm_self {S : Addr} (h1 : PySem.W.subIn K (.ref S) (.type "BaseException") = some true) (h2 : PySem.W.isClsIn K S = true) (h3 : PySem.W.typeIn K (.ref S) = some (.type "type")) (h4 : PySem.W.subIn K (.ref S) (.ref S) = some true) :
    PySem.W.exmOne K (.ref S) (.ref S) = some true := by
  have e1 : (PySem.W.subIn K (.ref S) (.type "BaseException") == some true) = true := by rw [h1] <;> rfl
  have e2 : ((PySem.W.clsIn K S).isSome && PySem.W.typeIn K (.ref S) == some (.type "type")) = true := by
    have h2' : (PySem.W.clsIn K S).isSome = true := h2
    rw [h2', h3] <;> rfl
  show (if (PySem.W.subIn K (.ref S) (.type "BaseException") == some true) = true then (if ((PySem.W.clsIn K S).isSome && PySem.W.typeIn K (.ref S) == some (.type "type")) = true then PySem.W.subIn K (.ref S) (.ref S) else none) else none) = some true
  rw [if_pos e1, if_pos e2]
  exact h4
theorem gh_mk {x : Str} {C : Addr} (X : K.In h) (G : h.Ns mainGlobals mg) (a : PySem.W.nsIn K mainGlobals x = some (some (.ref C))) : mg x = some (.ref C) := PySem.W.mg_of X G a
theorem gi_mk {x : Str} {n : Int} {t : Tok} (X : K.In h) (G : h.Ns mainGlobals mg) (a : PySem.W.nsIn K mainGlobals x = some (some (.int n t))) : ∃ t, mg x = some (.int n t) := ⟨t, PySem.W.mg_of X G a⟩
theorem gn_mk {x : Str} (X : K.In h) (G : h.Ns mainGlobals mg) (a : PySem.W.nsIn K mainGlobals x = some none) : mg x = none := PySem.W.mg_none_of X G a
theorem ec_mk {x : Str} {C : Addr} (X : K.In h) (G : h.Ns mainGlobals mg) (a : PySem.W.nsIn K mainGlobals x = some (some (.ref C)))
    (q : PySem.W.excIn K C [.type "ValueError", .type "Exception", .type "BaseException", .type "object"] "ValueError.__new__" = true) (k : PySem.W.keepIn K (.ref C) = true) (b : PySem.W.subIn K (.ref C) (.type "BaseException") = some true)
    (t : PySem.W.typeIn K (.ref C) = some (.type "type")) (i : PySem.W.isClsIn K C = true) (s : PySem.W.subIn K (.ref C) (.ref C) = some true) : Ec K mg x C := ⟨PySem.W.mg_of X G a, q, k, b, t, exm_self b i t s⟩

theorem xc_mk {x : Str} {C : Addr} {nm : Str} {oc : Obj} {cd : ClassData} (X : K.In h) (G : h.Ns mainGlobals mg) (a : PySem.W.nsIn K mainGlobals x = some (some (.ref C)))
    (q : PySem.W.excIn K C [.type "ValueError", .type "Exception", .type "BaseException", .type "object"] "ValueError.__new__" = true) (k : PySem.W.keepIn K (.ref C) = true)
    (c1 : PySem.W.findIn K (.ref C) "__getattribute__" = some (some (.builtin "BaseException.__getattribute__"))) (c2 : PySem.W.findIn K (.ref C) "__getattr__" = some none) (c3 : PySem.W.subIn K (.ref C) (.type "BaseException") = some true) (c4 : PySem.W.hasDictIn K C = true)
    (c5 : PySem.W.findIn K (.ref C) "__class__" = some (some (.builtin "object.__class__"))) (c6 : PySem.W.specialIn K (.builtin "object.__class__") "__get__" = some (some (.builtin "getset_descriptor.__get__"))) (c7 : PySem.W.takesIn K (.builtin "object.__class__") = some true) (c8 : PySem.W.mroIn K C (.type "object") = some true)
    (r1 : K.lookup C = some oc) (r2 : oc.data = .cls cd) (r3 : Str.ofString ((cd.name.toString.cutAt '.').getLastD "") = nm) (r4 : PySem.W.findIn K (.ref C) "__repr__" = some (some (.builtin "BaseException.__repr__")))
    (ki : PySem.W.kitOne K (.ref C) (.type "int") = some false) (kb : PySem.W.kitOne K (.ref C) (.type "bool") = some false) (ks : PySem.W.kitOne K (.ref C) (.type "str") = some false) (kt : PySem.W.kitOne K (.ref C) (.type "tuple") = some false) : Hu.Xc K mg x C nm :=
  ⟨PySem.W.mg_of X G a, q, k, ⟨c1, c2, c3, c4, c5, c6, c7, c8⟩, ⟨⟨oc, cd, r1, r2, r3⟩, r4, c3⟩, ki, kb, ks, kt⟩
theorem tk1_mk {p : Addr} {od : Option Addr} {z0 : Str} {t0 : Tok} {n : Nat} {sl : Array (Option Value)} (l : K.lookup p = some ⟨.type "tuple", od, .seq #[.str z0 t0] n, sl⟩) : TupK K p [z0] :=
  fun H => .inr ⟨_, _, _, l, rfl, rfl, by show (1 : Nat) ≤ sizeLine; decide, .cons ⟨_, rfl⟩ (.nil)⟩
theorem tk2_mk {p : Addr} {od : Option Addr} {z0 z1 : Str} {t0 t1 : Tok} {n : Nat} {sl : Array (Option Value)} (l : K.lookup p = some ⟨.type "tuple", od, .seq #[.str z0 t0, .str z1 t1] n, sl⟩) : TupK K p [z0, z1] :=
  fun H => .inr ⟨_, _, _, l, rfl, rfl, by show (2 : Nat) ≤ sizeLine; decide, .cons ⟨_, rfl⟩ (.cons ⟨_, rfl⟩ (.nil))⟩
theorem tk3_mk {p : Addr} {od : Option Addr} {z0 z1 z2 : Str} {t0 t1 t2 : Tok} {n : Nat} {sl : Array (Option Value)} (l : K.lookup p = some ⟨.type "tuple", od, .seq #[.str z0 t0, .str z1 t1, .str z2 t2] n, sl⟩) : TupK K p [z0, z1, z2] :=
  fun H => .inr ⟨_, _, _, l, rfl, rfl, by show (3 : Nat) ≤ sizeLine; decide, .cons ⟨_, rfl⟩ (.cons ⟨_, rfl⟩ (.cons ⟨_, rfl⟩ (.nil)))⟩
theorem tk4_mk {p : Addr} {od : Option Addr} {z0 z1 z2 z3 : Str} {t0 t1 t2 t3 : Tok} {n : Nat} {sl : Array (Option Value)} (l : K.lookup p = some ⟨.type "tuple", od, .seq #[.str z0 t0, .str z1 t1, .str z2 t2, .str z3 t3] n, sl⟩) : TupK K p [z0, z1, z2, z3] :=
  fun H => .inr ⟨_, _, _, l, rfl, rfl, by show (4 : Nat) ≤ sizeLine; decide, .cons ⟨_, rfl⟩ (.cons ⟨_, rfl⟩ (.cons ⟨_, rfl⟩ (.cons ⟨_, rfl⟩ (.nil))))⟩
theorem tk5_mk {p : Addr} {od : Option Addr} {z0 z1 z2 z3 z4 : Str} {t0 t1 t2 t3 t4 : Tok} {n : Nat} {sl : Array (Option Value)} (l : K.lookup p = some ⟨.type "tuple", od, .seq #[.str z0 t0, .str z1 t1, .str z2 t2, .str z3 t3, .str z4 t4] n, sl⟩) : TupK K p [z0, z1, z2, z3, z4] :=
  fun H => .inr ⟨_, _, _, l, rfl, rfl, by show (5 : Nat) ≤ sizeLine; decide, .cons ⟨_, rfl⟩ (.cons ⟨_, rfl⟩ (.cons ⟨_, rfl⟩ (.cons ⟨_, rfl⟩ (.cons ⟨_, rfl⟩ (.nil)))))⟩
theorem ktab_mk {w : World} {a : Addr} {es : Array DictEntry} {n : Nat} {x : Str} {tab : List (Str × List Str)} (X : K.In h) (G : h.Ns mainGlobals mg) (g : PySem.W.nsIn K mainGlobals x = some (some (.ref a))) (l : K.lookup a = some ⟨.type "dict", none, .dict es n, #[]⟩)
    (lit : PySem.W.KeysLit w.params es.toList) (low : (a == sysModules) = false) (r : Rws K es.toList tab) : ∃ (a : Addr) (es : Array DictEntry) (n : Nat), KTab K w mg x tab a es n :=
  ⟨a, es, n, PySem.W.mg_of X G g, ⟨l, lit, low⟩, r⟩
theorem eqx_mk {C : Addr} (X : K.In h) (m : PySem.W.mroIn K C (.type "object") = some true) (e : PySem.W.findIn K (.ref C) "__eq__" = some (some (.builtin "object.__eq__"))) (t : PySem.W.subIn K (.ref C) (.type "tuple") = some false) : Eqx K C := ⟨m, e, t⟩
theorem law_run {l : PySem.W.OpenLaw} {w : World} {f fa : Addr} {oc : Value} {od an : Option Addr} {sl : Array (Option Value)} {kV dc pm cd ct : Value} (X : K.In h) (G : h.Ns mainGlobals mg) (hfa : mg "law" = some (.ref fa))
    (a : PySem.W.nsIn K mainGlobals "law" = some (some (.ref f))) (lk : K.lookup f = some ⟨oc, od, .func (PySem.W.fnOf "law" "law" (defArgs lLaw) (defBody lLaw) (defScope lLaw) .none kV dc pm an cd ct), sl⟩) (c : PySem.W.codeIn K cd "law" = true)
    (A0 : La K w mg) : ∀ (s : Shared) (a : Addr) (ns : List Int) (base : Heap) (H : Hp), K.In base → base.Ns mainGlobals mg → Env0 l.prog w K mg base callerA [] s H → SqL K H a (ns.map V.int) →
        codeAny (model l.prog w) callerA (.call (.ref fa) ⟨[.ref a], []⟩) (CR CX0 [] l.prog w H s (fun v _ => v = .bl true) (fun _ _ _ => False)) s := by
  have e := hfa.symm.trans (PySem.W.mg_of X G a)
  cases e
  exact fun s a ns base H kb gb ev hS => Gd.run_at (k := 40) (us := [.ref a]) (vs := [.ref a]) lk c scLaw ⟨rfl, by decide, by decide⟩ ev (.of_eq rfl) (.cons rfl .nil) rfl (fun room => law_body A0 hS room rfl)
end
end Hs
open PySem PySem.W PyProof.Rows
set_option maxRecDepth 100000 in
set_option maxHeartbeats 0 in
theorem PySem.Challenge.cw_homeshold_k09_letters_judged_holds : PySem.Challenge.rw_homeshold_k09_letters_judged.Holds := by
  w_on; o_law; k_head; (case hw => w_witness2)
  k_fill
  refine Gd.walk_at (l := PySem.Challenge.rw_homeshold_k09_letters_judged) (n := 63) rfl (by decide) rfl (fun w h Y => PySem.W.kIn_of Y) ?F
  case F =>
    intro w mg fa h KX G hmg
    obtain his_integer : ∃ f fd, Hs.Df _ mg "is_integer" Hs.sIsInt ["thing"] f fd := by
      refine' ⟨_, _, Hs.df_mk KX G ?a ?l ?c ?k (fun _ _ _ _ _ _ us hl => match us, hl with | [_], _ => rfl)⟩
      (case a => k_is); (case l => k_is); (case c => k_is); (case k => k_is)
    obtain his_from_one : ∃ f fd, Hs.Df _ mg "is_from_one" Hs.sFromOne ["thing"] f fd := by
      refine' ⟨_, _, Hs.df_mk KX G ?a ?l ?c ?k (fun _ _ _ _ _ _ us hl => match us, hl with | [_], _ => rfl)⟩
      (case a => k_is); (case l => k_is); (case c => k_is); (case k => k_is)
    obtain his_pair : ∃ f fd, Hs.Df _ mg "is_pair" Hs.sPair ["thing"] f fd := by
      refine' ⟨_, _, Hs.df_mk KX G ?a ?l ?c ?k (fun _ _ _ _ _ _ us hl => match us, hl with | [_], _ => rfl)⟩
      (case a => k_is); (case l => k_is); (case c => k_is); (case k => k_is)
    obtain his_signs : ∃ f fd, Hs.Df _ mg "is_signs" Hs.sIsSigns ["thing"] f fd := by
      refine' ⟨_, _, Hs.df_mk KX G ?a ?l ?c ?k (fun _ _ _ _ _ _ us hl => match us, hl with | [_], _ => rfl)⟩
      (case a => k_is); (case l => k_is); (case c => k_is); (case k => k_is)
    obtain his_ascending : ∃ f fd, Hs.Df _ mg "is_ascending" Hs.sAscending ["things"] f fd := by
      refine' ⟨_, _, Hs.df_mk KX G ?a ?l ?c ?k (fun _ _ _ _ _ _ us hl => match us, hl with | [_], _ => rfl)⟩
      (case a => k_is); (case l => k_is); (case c => k_is); (case k => k_is)
    obtain his_home : ∃ f fd, Hs.Df _ mg "is_home" Hs.sHome ["thing"] f fd := by
      refine' ⟨_, _, Hs.df_mk KX G ?a ?l ?c ?k (fun _ _ _ _ _ _ us hl => match us, hl with | [_], _ => rfl)⟩
      (case a => k_is); (case l => k_is); (case c => k_is); (case k => k_is)
    obtain his_hand : ∃ f fd, Hs.Df _ mg "is_hand" Hs.sHand ["thing"] f fd := by
      refine' ⟨_, _, Hs.df_mk KX G ?a ?l ?c ?k (fun _ _ _ _ _ _ us hl => match us, hl with | [_], _ => rfl)⟩
      (case a => k_is); (case l => k_is); (case c => k_is); (case k => k_is)
    obtain his_name : ∃ f fd, Hs.Df _ mg "is_name" Hs.sName ["thing"] f fd := by
      refine' ⟨_, _, Hs.df_mk KX G ?a ?l ?c ?k (fun _ _ _ _ _ _ us hl => match us, hl with | [_], _ => rfl)⟩
      (case a => k_is); (case l => k_is); (case c => k_is); (case k => k_is)
    obtain his_piece : ∃ f fd, Hs.Df _ mg "is_piece" Hs.sPiece ["thing"] f fd := by
      refine' ⟨_, _, Hs.df_mk KX G ?a ?l ?c ?k (fun _ _ _ _ _ _ us hl => match us, hl with | [_], _ => rfl)⟩
      (case a => k_is); (case l => k_is); (case c => k_is); (case k => k_is)
    obtain his_block_id : ∃ f fd, Hs.Df _ mg "is_block_id" Hs.sBlockId ["thing"] f fd := by
      refine' ⟨_, _, Hs.df_mk KX G ?a ?l ?c ?k (fun _ _ _ _ _ _ us hl => match us, hl with | [_], _ => rfl)⟩
      (case a => k_is); (case l => k_is); (case c => k_is); (case k => k_is)
    obtain his_row : ∃ f fd, Hs.Df _ mg "is_row" Hs.sRow ["thing"] f fd := by
      refine' ⟨_, _, Hs.df_mk KX G ?a ?l ?c ?k (fun _ _ _ _ _ _ us hl => match us, hl with | [_], _ => rfl)⟩
      (case a => k_is); (case l => k_is); (case c => k_is); (case k => k_is)
    obtain his_stamp : ∃ f fd, Hs.Df _ mg "is_stamp" Hs.sStamp ["thing"] f fd := by
      refine' ⟨_, _, Hs.df_mk KX G ?a ?l ?c ?k (fun _ _ _ _ _ _ us hl => match us, hl with | [_], _ => rfl)⟩
      (case a => k_is); (case l => k_is); (case c => k_is); (case k => k_is)
    obtain his_members : ∃ f fd, Hs.Df _ mg "is_members" Hs.sMembers ["thing"] f fd := by
      refine' ⟨_, _, Hs.df_mk KX G ?a ?l ?c ?k (fun _ _ _ _ _ _ us hl => match us, hl with | [_], _ => rfl)⟩
      (case a => k_is); (case l => k_is); (case c => k_is); (case k => k_is)
    obtain his_count : ∃ f fd, Hs.Df _ mg "is_count" Hs.sCount ["thing"] f fd := by
      refine' ⟨_, _, Hs.df_mk KX G ?a ?l ?c ?k (fun _ _ _ _ _ _ us hl => match us, hl with | [_], _ => rfl)⟩
      (case a => k_is); (case l => k_is); (case c => k_is); (case k => k_is)
    obtain his_tuple_of : ∃ f fd, Hs.Df _ mg "is_tuple_of" Hs.sTO ["many", "thing"] f fd := by
      refine' ⟨_, _, Hs.df_mk KX G ?a ?l ?c ?k (fun _ _ _ _ _ _ us hl => match us, hl with | [_, _], _ => rfl)⟩
      (case a => k_is); (case l => k_is); (case c => k_is); (case k => k_is)
    obtain his_ahead : ∃ f fd, Hs.Df _ mg "is_ahead" Hs.sAhead ["thing"] f fd := by
      refine' ⟨_, _, Hs.df_mk KX G ?a ?l ?c ?k (fun _ _ _ _ _ _ us hl => match us, hl with | [_], _ => rfl)⟩
      (case a => k_is); (case l => k_is); (case c => k_is); (case k => k_is)
    obtain his_vote : ∃ f fd, Hs.Df _ mg "is_vote" Hs.sVote ["thing"] f fd := by
      refine' ⟨_, _, Hs.df_mk KX G ?a ?l ?c ?k (fun _ _ _ _ _ _ us hl => match us, hl with | [_], _ => rfl)⟩
      (case a => k_is); (case l => k_is); (case c => k_is); (case k => k_is)
    obtain his_heads : ∃ f fd, Hs.Df _ mg "is_heads" Hs.sHeads ["thing"] f fd := by
      refine' ⟨_, _, Hs.df_mk KX G ?a ?l ?c ?k (fun _ _ _ _ _ _ us hl => match us, hl with | [_], _ => rfl)⟩
      (case a => k_is); (case l => k_is); (case c => k_is); (case k => k_is)
    obtain h_is_named_head : ∃ f fd, Hs.Df _ mg "_is_named_head" Hs.sNamed ["thing"] f fd := by
      refine' ⟨_, _, Hs.df_mk KX G ?a ?l ?c ?k (fun _ _ _ _ _ _ us hl => match us, hl with | [_], _ => rfl)⟩
      (case a => k_is); (case l => k_is); (case c => k_is); (case k => k_is)
    obtain his_blocks : ∃ f fd, Hs.Df _ mg "is_blocks" Hs.sBlocks ["thing"] f fd := by
      refine' ⟨_, _, Hs.df_mk KX G ?a ?l ?c ?k (fun _ _ _ _ _ _ us hl => match us, hl with | [_], _ => rfl)⟩
      (case a => k_is); (case l => k_is); (case c => k_is); (case k => k_is)
    obtain h_is_block : ∃ f fd, Hs.Df _ mg "_is_block" Hs.sBlk ["thing"] f fd := by
      refine' ⟨_, _, Hs.df_mk KX G ?a ?l ?c ?k (fun _ _ _ _ _ _ us hl => match us, hl with | [_], _ => rfl)⟩
      (case a => k_is); (case l => k_is); (case c => k_is); (case k => k_is)
    obtain his_names : ∃ f fd, Hs.Df _ mg "is_names" Hs.sNames ["thing"] f fd := by
      refine' ⟨_, _, Hs.df_mk KX G ?a ?l ?c ?k (fun _ _ _ _ _ _ us hl => match us, hl with | [_], _ => rfl)⟩
      (case a => k_is); (case l => k_is); (case c => k_is); (case k => k_is)
    obtain his_ids : ∃ f fd, Hs.Df _ mg "is_ids" Hs.sIds ["thing"] f fd := by
      refine' ⟨_, _, Hs.df_mk KX G ?a ?l ?c ?k (fun _ _ _ _ _ _ us hl => match us, hl with | [_], _ => rfl)⟩
      (case a => k_is); (case l => k_is); (case c => k_is); (case k => k_is)
    obtain his_counts : ∃ f fd, Hs.Df _ mg "is_counts" Hs.sCounts ["thing", "most"] f fd := by
      refine' ⟨_, _, Hs.df_mk KX G ?a ?l ?c ?k (fun _ _ _ _ _ _ us hl => match us, hl with | [_, _], _ => rfl)⟩
      (case a => k_is); (case l => k_is); (case c => k_is); (case k => k_is)
    obtain his_part : ∃ f fd, Hs.Df _ mg "is_part" Hs.sPartK ["kind", "thing"] f fd := by
      refine' ⟨_, _, Hs.df_mk KX G ?a ?l ?c ?k (fun _ _ _ _ _ _ us hl => match us, hl with | [_, _], _ => rfl)⟩
      (case a => k_is); (case l => k_is); (case c => k_is); (case k => k_is)
    obtain h_is_lot : ∃ f fd, Hs.Df _ mg "_is_lot" Hs.sLot ["kind", "thing"] f fd := by
      refine' ⟨_, _, Hs.df_mk KX G ?a ?l ?c ?k (fun _ _ _ _ _ _ us hl => match us, hl with | [_, _], _ => rfl)⟩
      (case a => k_is); (case l => k_is); (case c => k_is); (case k => k_is)
    obtain hare_parts : ∃ f fd, Hs.Df _ mg "are_parts" Hs.sPartsK ["kinds", "things"] f fd := by
      refine' ⟨_, _, Hs.df_mk KX G ?a ?l ?c ?k (fun _ _ _ _ _ _ us hl => match us, hl with | [_, _], _ => rfl)⟩
      (case a => k_is); (case l => k_is); (case c => k_is); (case k => k_is)
    obtain his_machine : ∃ f fd, Hs.Df _ mg "is_machine" Hs.sMachine ["thing"] f fd := by
      refine' ⟨_, _, Hs.df_mk KX G ?a ?l ?c ?k (fun _ _ _ _ _ _ us hl => match us, hl with | [_], _ => rfl)⟩
      (case a => k_is); (case l => k_is); (case c => k_is); (case k => k_is)
    obtain h_is_told : ∃ f fd, Hs.Df _ mg "_is_told" Hs.sTold ["to", "by", "word", "rest"] f fd := by
      refine' ⟨_, _, Hs.df_mk KX G ?a ?l ?c ?k (fun _ _ _ _ _ _ us hl => match us, hl with | [_, _, _, _], _ => rfl)⟩
      (case a => k_is); (case l => k_is); (case c => k_is); (case k => k_is)
    obtain his_letter : ∃ f fd, Hs.Df _ mg "is_letter" Hs.sLetter ["thing"] f fd := by
      refine' ⟨_, _, Hs.df_mk KX G ?a ?l ?c ?k (fun _ _ _ _ _ _ us hl => match us, hl with | [_], _ => rfl)⟩
      (case a => k_is); (case l => k_is); (case c => k_is); (case k => k_is)
    obtain h_law_mixed : ∃ f fd, Hs.Df _ mg "_law_mixed" Hs.sMixed ["number"] f fd := by
      refine' ⟨_, _, Hs.df_mk KX G ?a ?l ?c ?k (fun _ _ _ _ _ _ us hl => match us, hl with | [_], _ => rfl)⟩
      (case a => k_is); (case l => k_is); (case c => k_is); (case k => k_is)
    obtain h_law_well : ∃ f fd, Hs.Df _ mg "_law_well" Hs.sWell ["script"] f fd := by
      refine' ⟨_, _, Hs.df_mk KX G ?a ?l ?c ?k (fun _ _ _ _ _ _ us hl => match us, hl with | [_], _ => rfl)⟩
      (case a => k_is); (case l => k_is); (case c => k_is); (case k => k_is)
    obtain h_law_filled : ∃ f fd, Hs.Df _ mg "_law_filled" Hs.sFilled ["well"] f fd := by
      refine' ⟨_, _, Hs.df_mk KX G ?a ?l ?c ?k (fun _ _ _ _ _ _ us hl => match us, hl with | [_], _ => rfl)⟩
      (case a => k_is); (case l => k_is); (case c => k_is); (case k => k_is)
    obtain h_law_draw : ∃ f fd, Hs.Df _ mg "_law_draw" Hs.sDraw ["well", "many"] f fd := by
      refine' ⟨_, _, Hs.df_mk KX G ?a ?l ?c ?k (fun _ _ _ _ _ _ us hl => match us, hl with | [_, _], _ => rfl)⟩
      (case a => k_is); (case l => k_is); (case c => k_is); (case k => k_is)
    obtain h_law_number : ∃ f fd, Hs.Df _ mg "_law_number" Hs.lNumber ["well"] f fd := by
      refine' ⟨_, _, Hs.df_mk KX G ?a ?l ?c ?k (fun _ _ _ _ _ _ us hl => match us, hl with | [_], _ => rfl)⟩
      (case a => k_is); (case l => k_is); (case c => k_is); (case k => k_is)
    obtain h_law_signs : ∃ f fd, Hs.Df _ mg "_law_signs" Hs.sSigns [] f fd := by
      refine' ⟨_, _, Hs.df_mk KX G ?a ?l ?c ?k (fun _ _ _ _ _ _ us hl => match us, hl with | [], _ => rfl)⟩
      (case a => k_is); (case l => k_is); (case c => k_is); (case k => k_is)
    obtain h_law_string : ∃ f fd, Hs.Df _ mg "_law_string" Hs.sString ["well", "many"] f fd := by
      refine' ⟨_, _, Hs.df_mk KX G ?a ?l ?c ?k (fun _ _ _ _ _ _ us hl => match us, hl with | [_, _], _ => rfl)⟩
      (case a => k_is); (case l => k_is); (case c => k_is); (case k => k_is)
    obtain h_law_name : ∃ f fd, Hs.Df _ mg "_law_name" Hs.lName ["well"] f fd := by
      refine' ⟨_, _, Hs.df_mk KX G ?a ?l ?c ?k (fun _ _ _ _ _ _ us hl => match us, hl with | [_], _ => rfl)⟩
      (case a => k_is); (case l => k_is); (case c => k_is); (case k => k_is)
    obtain h_law_unlike : ∃ f fd, Hs.Df _ mg "_law_unlike" Hs.lUnlike ["things"] f fd := by
      refine' ⟨_, _, Hs.df_mk KX G ?a ?l ?c ?k (fun _ _ _ _ _ _ us hl => match us, hl with | [_], _ => rfl)⟩
      (case a => k_is); (case l => k_is); (case c => k_is); (case k => k_is)
    obtain h_law_any : ∃ f fd, Hs.Df _ mg "_law_any" Hs.lAny ["well", "deep"] f fd := by
      refine' ⟨_, _, Hs.df_mk KX G ?a ?l ?c ?k (fun _ _ _ _ _ _ us hl => match us, hl with | [_, _], _ => rfl)⟩
      (case a => k_is); (case l => k_is); (case c => k_is); (case k => k_is)
    obtain h_law_nodes : ∃ f fd, Hs.Df _ mg "_law_nodes" Hs.lNodes ["thing"] f fd := by
      refine' ⟨_, _, Hs.df_mk KX G ?a ?l ?c ?k (fun _ _ _ _ _ _ us hl => match us, hl with | [_], _ => rfl)⟩
      (case a => k_is); (case l => k_is); (case c => k_is); (case k => k_is)
    obtain h_law_changed : ∃ f fd, Hs.Df _ mg "_law_changed" Hs.lChanged ["thing", "well"] f fd := by
      refine' ⟨_, _, Hs.df_mk KX G ?a ?l ?c ?k (fun _ _ _ _ _ _ us hl => match us, hl with | [_, _], _ => rfl)⟩
      (case a => k_is); (case l => k_is); (case c => k_is); (case k => k_is)
    obtain h_law_spoilt : ∃ f fd, Hs.Df _ mg "_law_spoilt" Hs.lSpoilt ["thing", "at", "well"] f fd := by
      refine' ⟨_, _, Hs.df_mk KX G ?a ?l ?c ?k (fun _ _ _ _ _ _ us hl => match us, hl with | [_, _, _], _ => rfl)⟩
      (case a => k_is); (case l => k_is); (case c => k_is); (case k => k_is)
    obtain h_law_id : ∃ f fd, Hs.Df _ mg "_law_id" Hs.lId ["well"] f fd := by
      refine' ⟨_, _, Hs.df_mk KX G ?a ?l ?c ?k (fun _ _ _ _ _ _ us hl => match us, hl with | [_], _ => rfl)⟩
      (case a => k_is); (case l => k_is); (case c => k_is); (case k => k_is)
    obtain h_law_stamp : ∃ f fd, Hs.Df _ mg "_law_stamp" Hs.lStamp ["well"] f fd := by
      refine' ⟨_, _, Hs.df_mk KX G ?a ?l ?c ?k (fun _ _ _ _ _ _ us hl => match us, hl with | [_], _ => rfl)⟩
      (case a => k_is); (case l => k_is); (case c => k_is); (case k => k_is)
    obtain h_law_row : ∃ f fd, Hs.Df _ mg "_law_row" Hs.lRow ["well", "ids"] f fd := by
      refine' ⟨_, _, Hs.df_mk KX G ?a ?l ?c ?k (fun _ _ _ _ _ _ us hl => match us, hl with | [_, _], _ => rfl)⟩
      (case a => k_is); (case l => k_is); (case c => k_is); (case k => k_is)
    obtain h_law_members : ∃ f fd, Hs.Df _ mg "_law_members" Hs.lMembers ["well"] f fd := by
      refine' ⟨_, _, Hs.df_mk KX G ?a ?l ?c ?k (fun _ _ _ _ _ _ us hl => match us, hl with | [_], _ => rfl)⟩
      (case a => k_is); (case l => k_is); (case c => k_is); (case k => k_is)
    obtain h_law_heads : ∃ f fd, Hs.Df _ mg "_law_heads" Hs.lHeads ["well", "names", "ids"] f fd := by
      refine' ⟨_, _, Hs.df_mk KX G ?a ?l ?c ?k (fun _ _ _ _ _ _ us hl => match us, hl with | [_, _, _], _ => rfl)⟩
      (case a => k_is); (case l => k_is); (case c => k_is); (case k => k_is)
    obtain h_law_blocks : ∃ f fd, Hs.Df _ mg "_law_blocks" Hs.lBlocks ["well", "ids", "share"] f fd := by
      refine' ⟨_, _, Hs.df_mk KX G ?a ?l ?c ?k (fun _ _ _ _ _ _ us hl => match us, hl with | [_, _, _], _ => rfl)⟩
      (case a => k_is); (case l => k_is); (case c => k_is); (case k => k_is)
    obtain h_law_vote : ∃ f fd, Hs.Df _ mg "_law_vote" Hs.lVoteL ["well"] f fd := by
      refine' ⟨_, _, Hs.df_mk KX G ?a ?l ?c ?k (fun _ _ _ _ _ _ us hl => match us, hl with | [_], _ => rfl)⟩
      (case a => k_is); (case l => k_is); (case c => k_is); (case k => k_is)
    obtain h_law_count : ∃ f fd, Hs.Df _ mg "_law_count" Hs.lCount ["thing"] f fd := by
      refine' ⟨_, _, Hs.df_mk KX G ?a ?l ?c ?k (fun _ _ _ _ _ _ us hl => match us, hl with | [_], _ => rfl)⟩
      (case a => k_is); (case l => k_is); (case c => k_is); (case k => k_is)
    obtain h_law_long : ∃ f fd, Hs.Df _ mg "_law_long" Hs.lLong ["thing", "many"] f fd := by
      refine' ⟨_, _, Hs.df_mk KX G ?a ?l ?c ?k (fun _ _ _ _ _ _ us hl => match us, hl with | [_, _], _ => rfl)⟩
      (case a => k_is); (case l => k_is); (case c => k_is); (case k => k_is)
    obtain h_law_rising : ∃ f fd, Hs.Df _ mg "_law_rising" Hs.lRising ["things"] f fd := by
      refine' ⟨_, _, Hs.df_mk KX G ?a ?l ?c ?k (fun _ _ _ _ _ _ us hl => match us, hl with | [_], _ => rfl)⟩
      (case a => k_is); (case l => k_is); (case c => k_is); (case k => k_is)
    obtain h_law_name_fits : ∃ f fd, Hs.Df _ mg "_law_name_fits" Hs.lNameFits ["thing"] f fd := by
      refine' ⟨_, _, Hs.df_mk KX G ?a ?l ?c ?k (fun _ _ _ _ _ _ us hl => match us, hl with | [_], _ => rfl)⟩
      (case a => k_is); (case l => k_is); (case c => k_is); (case k => k_is)
    obtain h_law_hand_fits : ∃ f fd, Hs.Df _ mg "_law_hand_fits" Hs.lHandFits ["thing"] f fd := by
      refine' ⟨_, _, Hs.df_mk KX G ?a ?l ?c ?k (fun _ _ _ _ _ _ us hl => match us, hl with | [_], _ => rfl)⟩
      (case a => k_is); (case l => k_is); (case c => k_is); (case k => k_is)
    obtain h_law_signs_fit : ∃ f fd, Hs.Df _ mg "_law_signs_fit" Hs.lSignsFit ["thing", "least", "most"] f fd := by
      refine' ⟨_, _, Hs.df_mk KX G ?a ?l ?c ?k (fun _ _ _ _ _ _ us hl => match us, hl with | [_, _, _], _ => rfl)⟩
      (case a => k_is); (case l => k_is); (case c => k_is); (case k => k_is)
    obtain h_law_id_fits : ∃ f fd, Hs.Df _ mg "_law_id_fits" Hs.lIdFits ["thing"] f fd := by
      refine' ⟨_, _, Hs.df_mk KX G ?a ?l ?c ?k (fun _ _ _ _ _ _ us hl => match us, hl with | [_], _ => rfl)⟩
      (case a => k_is); (case l => k_is); (case c => k_is); (case k => k_is)
    obtain h_law_stamp_fits : ∃ f fd, Hs.Df _ mg "_law_stamp_fits" Hs.lStampFits ["thing"] f fd := by
      refine' ⟨_, _, Hs.df_mk KX G ?a ?l ?c ?k (fun _ _ _ _ _ _ us hl => match us, hl with | [_], _ => rfl)⟩
      (case a => k_is); (case l => k_is); (case c => k_is); (case k => k_is)
    obtain h_law_row_fits : ∃ f fd, Hs.Df _ mg "_law_row_fits" Hs.lRowFits ["thing"] f fd := by
      refine' ⟨_, _, Hs.df_mk KX G ?a ?l ?c ?k (fun _ _ _ _ _ _ us hl => match us, hl with | [_], _ => rfl)⟩
      (case a => k_is); (case l => k_is); (case c => k_is); (case k => k_is)
    obtain h_law_members_fit : ∃ f fd, Hs.Df _ mg "_law_members_fit" Hs.lMembersFit ["thing"] f fd := by
      refine' ⟨_, _, Hs.df_mk KX G ?a ?l ?c ?k (fun _ _ _ _ _ _ us hl => match us, hl with | [_], _ => rfl)⟩
      (case a => k_is); (case l => k_is); (case c => k_is); (case k => k_is)
    obtain h_law_heads_fit : ∃ f fd, Hs.Df _ mg "_law_heads_fit" Hs.lHeadsFit ["thing"] f fd := by
      refine' ⟨_, _, Hs.df_mk KX G ?a ?l ?c ?k (fun _ _ _ _ _ _ us hl => match us, hl with | [_], _ => rfl)⟩
      (case a => k_is); (case l => k_is); (case c => k_is); (case k => k_is)
    obtain h_law_head_fits : ∃ f fd, Hs.Df _ mg "_law_head_fits" Hs.lHeadFits ["thing"] f fd := by
      refine' ⟨_, _, Hs.df_mk KX G ?a ?l ?c ?k (fun _ _ _ _ _ _ us hl => match us, hl with | [_], _ => rfl)⟩
      (case a => k_is); (case l => k_is); (case c => k_is); (case k => k_is)
    obtain h_law_block_fits : ∃ f fd, Hs.Df _ mg "_law_block_fits" Hs.lBlockFits ["thing"] f fd := by
      refine' ⟨_, _, Hs.df_mk KX G ?a ?l ?c ?k (fun _ _ _ _ _ _ us hl => match us, hl with | [_], _ => rfl)⟩
      (case a => k_is); (case l => k_is); (case c => k_is); (case k => k_is)
    obtain h_law_blocks_fit : ∃ f fd, Hs.Df _ mg "_law_blocks_fit" Hs.lBlocksFit ["thing"] f fd := by
      refine' ⟨_, _, Hs.df_mk KX G ?a ?l ?c ?k (fun _ _ _ _ _ _ us hl => match us, hl with | [_], _ => rfl)⟩
      (case a => k_is); (case l => k_is); (case c => k_is); (case k => k_is)
    obtain h_law_vote_fits : ∃ f fd, Hs.Df _ mg "_law_vote_fits" Hs.lVoteFits ["thing"] f fd := by
      refine' ⟨_, _, Hs.df_mk KX G ?a ?l ?c ?k (fun _ _ _ _ _ _ us hl => match us, hl with | [_], _ => rfl)⟩
      (case a => k_is); (case l => k_is); (case c => k_is); (case k => k_is)
    obtain h_law_ahead_fits : ∃ f fd, Hs.Df _ mg "_law_ahead_fits" Hs.lAheadFits ["thing"] f fd := by
      refine' ⟨_, _, Hs.df_mk KX G ?a ?l ?c ?k (fun _ _ _ _ _ _ us hl => match us, hl with | [_], _ => rfl)⟩
      (case a => k_is); (case l => k_is); (case c => k_is); (case k => k_is)
    obtain h_law_machine : ∃ f fd, Hs.Df _ mg "_law_machine" Hs.lMachine ["well", "word"] f fd := by
      refine' ⟨_, _, Hs.df_mk KX G ?a ?l ?c ?k (fun _ _ _ _ _ _ us hl => match us, hl with | [_, _], _ => rfl)⟩
      (case a => k_is); (case l => k_is); (case c => k_is); (case k => k_is)
    obtain h_law_to_home : ∃ f fd, Hs.Df _ mg "_law_to_home" Hs.lToHome ["well", "names", "ids"] f fd := by
      refine' ⟨_, _, Hs.df_mk KX G ?a ?l ?c ?k (fun _ _ _ _ _ _ us hl => match us, hl with | [_, _, _], _ => rfl)⟩
      (case a => k_is); (case l => k_is); (case c => k_is); (case k => k_is)
    obtain h_law_numbers : ∃ f fd, Hs.Df _ mg "_law_numbers" Hs.lNumbers ["well"] f fd := by
      refine' ⟨_, _, Hs.df_mk KX G ?a ?l ?c ?k (fun _ _ _ _ _ _ us hl => match us, hl with | [_], _ => rfl)⟩
      (case a => k_is); (case l => k_is); (case c => k_is); (case k => k_is)
    obtain h_law_between : ∃ f fd, Hs.Df _ mg "_law_between" Hs.lBetween ["well", "names", "ids"] f fd := by
      refine' ⟨_, _, Hs.df_mk KX G ?a ?l ?c ?k (fun _ _ _ _ _ _ us hl => match us, hl with | [_, _, _], _ => rfl)⟩
      (case a => k_is); (case l => k_is); (case c => k_is); (case k => k_is)
    obtain h_law_plain_to_hand : ∃ f fd, Hs.Df _ mg "_law_plain_to_hand" Hs.lPlain ["well", "names", "ids", "kind"] f fd := by
      refine' ⟨_, _, Hs.df_mk KX G ?a ?l ?c ?k (fun _ _ _ _ _ _ us hl => match us, hl with | [_, _, _, _], _ => rfl)⟩
      (case a => k_is); (case l => k_is); (case c => k_is); (case k => k_is)
    obtain h_law_to_hand : ∃ f fd, Hs.Df _ mg "_law_to_hand" Hs.lToHand ["well", "names", "ids"] f fd := by
      refine' ⟨_, _, Hs.df_mk KX G ?a ?l ?c ?k (fun _ _ _ _ _ _ us hl => match us, hl with | [_, _, _], _ => rfl)⟩
      (case a => k_is); (case l => k_is); (case c => k_is); (case k => k_is)
    obtain h_law_letter : ∃ f fd, Hs.Df _ mg "_law_letter" Hs.lLetter ["well"] f fd := by
      refine' ⟨_, _, Hs.df_mk KX G ?a ?l ?c ?k (fun _ _ _ _ _ _ us hl => match us, hl with | [_], _ => rfl)⟩
      (case a => k_is); (case l => k_is); (case c => k_is); (case k => k_is)
    obtain h_law_thing : ∃ f fd, Hs.Df _ mg "_law_thing" Hs.lThing ["well"] f fd := by
      refine' ⟨_, _, Hs.df_mk KX G ?a ?l ?c ?k (fun _ _ _ _ _ _ us hl => match us, hl with | [_], _ => rfl)⟩
      (case a => k_is); (case l => k_is); (case c => k_is); (case k => k_is)
    obtain h_law_machine_fits : ∃ f fd, Hs.Df _ mg "_law_machine_fits" Hs.lMachFits ["thing"] f fd := by
      refine' ⟨_, _, Hs.df_mk KX G ?a ?l ?c ?k (fun _ _ _ _ _ _ us hl => match us, hl with | [_], _ => rfl)⟩
      (case a => k_is); (case l => k_is); (case c => k_is); (case k => k_is)
    obtain h_law_ids_fit : ∃ f fd, Hs.Df _ mg "_law_ids_fit" Hs.lIdsFit ["thing"] f fd := by
      refine' ⟨_, _, Hs.df_mk KX G ?a ?l ?c ?k (fun _ _ _ _ _ _ us hl => match us, hl with | [_], _ => rfl)⟩
      (case a => k_is); (case l => k_is); (case c => k_is); (case k => k_is)
    obtain h_law_names_fit : ∃ f fd, Hs.Df _ mg "_law_names_fit" Hs.lNamesFit ["thing"] f fd := by
      refine' ⟨_, _, Hs.df_mk KX G ?a ?l ?c ?k (fun _ _ _ _ _ _ us hl => match us, hl with | [_], _ => rfl)⟩
      (case a => k_is); (case l => k_is); (case c => k_is); (case k => k_is)
    obtain h_law_counts_fit : ∃ f fd, Hs.Df _ mg "_law_counts_fit" Hs.lCountsFit ["thing", "most"] f fd := by
      refine' ⟨_, _, Hs.df_mk KX G ?a ?l ?c ?k (fun _ _ _ _ _ _ us hl => match us, hl with | [_, _], _ => rfl)⟩
      (case a => k_is); (case l => k_is); (case c => k_is); (case k => k_is)
    obtain h_law_many_fits : ∃ f fd, Hs.Df _ mg "_law_many_fits" Hs.lManyFits ["thing"] f fd := by
      refine' ⟨_, _, Hs.df_mk KX G ?a ?l ?c ?k (fun _ _ _ _ _ _ us hl => match us, hl with | [_], _ => rfl)⟩
      (case a => k_is); (case l => k_is); (case c => k_is); (case k => k_is)
    obtain h_law_named_fits : ∃ f fd, Hs.Df _ mg "_law_named_fits" Hs.lNamedFits ["rest", "many"] f fd := by
      refine' ⟨_, _, Hs.df_mk KX G ?a ?l ?c ?k (fun _ _ _ _ _ _ us hl => match us, hl with | [_, _], _ => rfl)⟩
      (case a => k_is); (case l => k_is); (case c => k_is); (case k => k_is)
    obtain h_law_to_home_fits : ∃ f fd, Hs.Df _ mg "_law_to_home_fits" Hs.lToHomeF ["word", "rest"] f fd := by
      refine' ⟨_, _, Hs.df_mk KX G ?a ?l ?c ?k (fun _ _ _ _ _ _ us hl => match us, hl with | [_, _], _ => rfl)⟩
      (case a => k_is); (case l => k_is); (case c => k_is); (case k => k_is)
    obtain h_law_between_fits : ∃ f fd, Hs.Df _ mg "_law_between_fits" Hs.lBetweenF ["word", "rest"] f fd := by
      refine' ⟨_, _, Hs.df_mk KX G ?a ?l ?c ?k (fun _ _ _ _ _ _ us hl => match us, hl with | [_, _], _ => rfl)⟩
      (case a => k_is); (case l => k_is); (case c => k_is); (case k => k_is)
    obtain h_law_voting_fits : ∃ f fd, Hs.Df _ mg "_law_voting_fits" Hs.lVotingF ["word", "rest"] f fd := by
      refine' ⟨_, _, Hs.df_mk KX G ?a ?l ?c ?k (fun _ _ _ _ _ _ us hl => match us, hl with | [_, _], _ => rfl)⟩
      (case a => k_is); (case l => k_is); (case c => k_is); (case k => k_is)
    obtain h_law_to_hand_fits : ∃ f fd, Hs.Df _ mg "_law_to_hand_fits" Hs.lToHandF ["word", "rest"] f fd := by
      refine' ⟨_, _, Hs.df_mk KX G ?a ?l ?c ?k (fun _ _ _ _ _ _ us hl => match us, hl with | [_, _], _ => rfl)⟩
      (case a => k_is); (case l => k_is); (case c => k_is); (case k => k_is)
    obtain h_law_letter_fits : ∃ f fd, Hs.Df _ mg "_law_letter_fits" Hs.lLetterF ["thing"] f fd := by
      refine' ⟨_, _, Hs.df_mk KX G ?a ?l ?c ?k (fun _ _ _ _ _ _ us hl => match us, hl with | [_], _ => rfl)⟩
      (case a => k_is); (case l => k_is); (case c => k_is); (case k => k_is)
    obtain eX : ∃ C, Hu.Xc _ mg "NoTable" C "NoTable" ∧ Hs.Eqx _ C := by
      refine' ⟨_, Hs.xc_mk KX G ?a ?xq ?k ?c1 ?c2 ?c3 ?c4 ?c5 ?c6 ?c7 ?c8 ?r1 ?r2 ?r3 ?r4 ?ki ?kb ?ks ?kt, Hs.eqx_mk KX ?q1 ?q2 ?q3⟩
      (case a => k_is)
      (case xq => k_exc)
      (case k => k_is)
      (case c1 => first | k_is)
      (case c2 => first | k_is)
      (case c3 => first | k_is)
      (case c4 => first | k_is)
      (case c5 => first | k_is)
      (case c6 => first | k_is)
      (case c7 => first | k_is)
      (case c8 => first | k_is)
      (case r1 => first | k_is)
      (case r2 => first | rfl)
      (case r3 => first | decide +kernel | rfl)
      (case r4 => first | k_is)
      (case ki => first | k_is | rfl | decide +kernel)
      (case kb => first | k_is | rfl | decide +kernel)
      (case ks => first | k_is | rfl | decide +kernel)
      (case kt => first | k_is | rfl | decide +kernel)
      (case q1 => first | k_is)
      (case q2 => first | k_is)
      (case q3 => first | k_is)
    have nMOST_HOMES : ∃ t, mg "MOST_HOMES" = some (.int 9 t) := by
      refine' Hs.gi_mk KX G ?a
      (case a => k_is)
    have nMOST_HANDS : ∃ t, mg "MOST_HANDS" = some (.int 99 t) := by
      refine' Hs.gi_mk KX G ?a
      (case a => k_is)
    have nMOST_PIECES : ∃ t, mg "MOST_PIECES" = some (.int 12 t) := by
      refine' Hs.gi_mk KX G ?a
      (case a => k_is)
    have nPIECE_SIGNS : ∃ t, mg "PIECE_SIGNS" = some (.int 8 t) := by
      refine' Hs.gi_mk KX G ?a
      (case a => k_is)
    have nNAME_SIGNS : ∃ t, mg "NAME_SIGNS" = some (.int 8 t) := by
      refine' Hs.gi_mk KX G ?a
      (case a => k_is)
    have nMOST_PLACES : ∃ t, mg "MOST_PLACES" = some (.int 64 t) := by
      refine' Hs.gi_mk KX G ?a
      (case a => k_is)
    have b_int : mg "int" = none := by
      refine' Hs.gn_mk KX G ?a
      (case a => k_is)
    have b_len : mg "len" = none := by
      refine' Hs.gn_mk KX G ?a
      (case a => k_is)
    have b_range : mg "range" = none := by
      refine' Hs.gn_mk KX G ?a
      (case a => k_is)
    have b_all : mg "all" = none := by
      refine' Hs.gn_mk KX G ?a
      (case a => k_is)
    have b_isinstance : mg "isinstance" = none := by
      refine' Hs.gn_mk KX G ?a
      (case a => k_is)
    have b_tuple : mg "tuple" = none := by
      refine' Hs.gn_mk KX G ?a
      (case a => k_is)
    have b_list : mg "list" = none := by
      refine' Hs.gn_mk KX G ?a
      (case a => k_is)
    have b_str : mg "str" = none := by
      refine' Hs.gn_mk KX G ?a
      (case a => k_is)
    have b_max : mg "max" = none := by
      refine' Hs.gn_mk KX G ?a
      (case a => k_is)
    have b_bool : mg "bool" = none := by
      refine' Hs.gn_mk KX G ?a
      (case a => k_is)
    have b_sum : mg "sum" = none := by
      refine' Hs.gn_mk KX G ?a
      (case a => k_is)
    have b_repr : mg "repr" = none := by
      refine' Hs.gn_mk KX G ?a
      (case a => k_is)
    have b_sorted : mg "sorted" = none := by
      refine' Hs.gn_mk KX G ?a
      (case a => k_is)
    have b_zip : mg "zip" = none := by
      refine' Hs.gn_mk KX G ?a
      (case a => k_is)
    have B : Hs.Bt mg := ⟨b_int, b_len, b_range, b_all, b_isinstance, b_tuple, b_list, b_str, b_max, b_bool, b_sum, b_repr⟩
    obtain tTO_HANDS : ∃ (a : Addr) (es : Array DictEntry) (n : Nat), Hs.KTab _ w mg "TO_HANDS" Hs.thT a es n := by
      refine' Hs.ktab_mk KX G ?g ?l ?lit ?low ?r0
      (case g => k_is)
      (case l => k_is)
      (case lit => k_keys)
      (case low => first | rfl | decide +kernel)
      (case r0 => refine' (Hs.Rws.cons rfl rfl (Hs.tk4_mk ?t0_0) (Hs.Rws.cons rfl rfl (Hs.tk2_mk ?t0_1) (Hs.Rws.cons rfl rfl (Hs.tk3_mk ?t0_2) (Hs.Rws.cons rfl rfl (Hs.tk2_mk ?t0_3) (Hs.Rws.cons rfl rfl (Hs.tk2_mk ?t0_4) (Hs.Rws.cons rfl rfl (Hs.tk3_mk ?t0_5) (Hs.Rws.cons rfl rfl (Hs.tk4_mk ?t0_6) (Hs.Rws.cons rfl rfl (Hs.tk1_mk ?t0_7) (Hs.Rws.cons rfl rfl (Hs.tk4_mk ?t0_8) (Hs.Rws.cons rfl rfl (Hs.tk2_mk ?t0_9) (Hs.Rws.cons rfl rfl (Hs.tk3_mk ?t0_10) (Hs.Rws.cons rfl rfl (Hs.tk2_mk ?t0_11) (Hs.Rws.cons rfl rfl (Hs.tk2_mk ?t0_12) (Hs.Rws.cons rfl rfl (Hs.tk4_mk ?t0_13) (Hs.Rws.cons rfl rfl (Hs.tk4_mk ?t0_14) (Hs.Rws.cons rfl rfl (Hs.tk1_mk ?t0_15) (Hs.Rws.cons rfl rfl (Hs.tk4_mk ?t0_16) (Hs.Rws.cons rfl rfl (Hs.tk1_mk ?t0_17) Hs.Rws.nil))))))))))))))))))
                  (case t0_0 => k_is)
                  (case t0_1 => k_is)
                  (case t0_2 => k_is)
                  (case t0_3 => k_is)
                  (case t0_4 => k_is)
                  (case t0_5 => k_is)
                  (case t0_6 => k_is)
                  (case t0_7 => k_is)
                  (case t0_8 => k_is)
                  (case t0_9 => k_is)
                  (case t0_10 => k_is)
                  (case t0_11 => k_is)
                  (case t0_12 => k_is)
                  (case t0_13 => k_is)
                  (case t0_14 => k_is)
                  (case t0_15 => k_is)
                  (case t0_16 => k_is)
                  (case t0_17 => k_is))
    obtain tTO_HOMES : ∃ (a : Addr) (es : Array DictEntry) (n : Nat), Hs.KTab _ w mg "TO_HOMES" Hs.toT a es n := by
      refine' Hs.ktab_mk KX G ?g ?l ?lit ?low ?r1
      (case g => k_is)
      (case l => k_is)
      (case lit => k_keys)
      (case low => first | rfl | decide +kernel)
      (case r1 => refine' (Hs.Rws.cons rfl rfl (Hs.tk2_mk ?t1_0) (Hs.Rws.cons rfl rfl (Hs.tk1_mk ?t1_1) (Hs.Rws.cons rfl rfl (Hs.tk2_mk ?t1_2) (Hs.Rws.cons rfl rfl (Hs.tk3_mk ?t1_3) (Hs.Rws.cons rfl rfl (Hs.tk4_mk ?t1_4) (Hs.Rws.cons rfl rfl (Hs.tk2_mk ?t1_5) (Hs.Rws.cons rfl rfl (Hs.tk2_mk ?t1_6) (Hs.Rws.cons rfl rfl (Hs.tk2_mk ?t1_7) (Hs.Rws.cons rfl rfl (Hs.tk3_mk ?t1_8) (Hs.Rws.cons rfl rfl (Hs.tk2_mk ?t1_9) (Hs.Rws.cons rfl rfl (Hs.tk5_mk ?t1_10) Hs.Rws.nil)))))))))))
                  (case t1_0 => k_is)
                  (case t1_1 => k_is)
                  (case t1_2 => k_is)
                  (case t1_3 => k_is)
                  (case t1_4 => k_is)
                  (case t1_5 => k_is)
                  (case t1_6 => k_is)
                  (case t1_7 => k_is)
                  (case t1_8 => k_is)
                  (case t1_9 => k_is)
                  (case t1_10 => k_is))
    obtain tAMONG_HOMES : ∃ (a : Addr) (es : Array DictEntry) (n : Nat), Hs.KTab _ w mg "AMONG_HOMES" Hs.amT a es n := by
      refine' Hs.ktab_mk KX G ?g ?l ?lit ?low ?r2
      (case g => k_is)
      (case l => k_is)
      (case lit => k_keys)
      (case low => first | rfl | decide +kernel)
      (case r2 => refine' (Hs.Rws.cons rfl rfl (Hs.tk2_mk ?t2_0) (Hs.Rws.cons rfl rfl (Hs.tk4_mk ?t2_1) (Hs.Rws.cons rfl rfl (Hs.tk2_mk ?t2_2) (Hs.Rws.cons rfl rfl (Hs.tk3_mk ?t2_3) Hs.Rws.nil))))
                  (case t2_0 => k_is)
                  (case t2_1 => k_is)
                  (case t2_2 => k_is)
                  (case t2_3 => k_is))
    refine' Hs.law_run KX G hmg ?a ?l ?c ⟨B, ⟨b_sorted, b_zip⟩, ⟨nMOST_HOMES, nMOST_HANDS, nMOST_PIECES, nPIECE_SIGNS, nNAME_SIGNS⟩, nMOST_PLACES, eX, tTO_HANDS, tTO_HOMES, tAMONG_HOMES, his_integer, his_from_one, his_pair, his_signs, his_ascending, his_home, his_hand, his_name, his_piece, his_block_id, his_row, his_stamp, his_members, his_count, his_tuple_of, his_ahead, his_vote, his_heads, h_is_named_head, his_blocks, h_is_block, his_names, his_ids, his_counts, his_part, h_is_lot, hare_parts, his_machine, h_is_told, his_letter, h_law_mixed, h_law_well, h_law_filled, h_law_draw, h_law_number, h_law_signs, h_law_string, h_law_name, h_law_unlike, h_law_any, h_law_nodes, h_law_changed, h_law_spoilt, h_law_id, h_law_stamp, h_law_row, h_law_members, h_law_heads, h_law_blocks, h_law_vote, h_law_count, h_law_long, h_law_rising, h_law_name_fits, h_law_hand_fits, h_law_signs_fit, h_law_id_fits, h_law_stamp_fits, h_law_row_fits, h_law_members_fit, h_law_heads_fit, h_law_head_fits, h_law_block_fits, h_law_blocks_fit, h_law_vote_fits, h_law_ahead_fits, h_law_machine, h_law_to_home, h_law_numbers, h_law_between, h_law_plain_to_hand, h_law_to_hand, h_law_letter, h_law_thing, h_law_machine_fits, h_law_ids_fit, h_law_names_fit, h_law_counts_fit, h_law_many_fits, h_law_named_fits, h_law_to_home_fits, h_law_between_fits, h_law_voting_fits, h_law_to_hand_fits, h_law_letter_fits⟩
    (case a => k_is); (case l => k_is); (case c => k_is)
